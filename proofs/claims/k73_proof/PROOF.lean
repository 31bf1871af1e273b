import PyProof.Rows.All
import Wide.All
import OpenK.AllK
import Wide.FinOn
import KE.KExcSuper
import HandS.Base
import HandS.Call
import HandS.Exc
import HandS.ExcOwn
import HandS.Words
import HandS.CallRecv
import KE.GoesNew
import HandS.ForMost
import HandS.Walk
import KE.KDictList
import PyProof.TupleOfStr
import PyProof.Rows.Range3
import HandS.Conv
import PyProof.InstNe
import HandS.IsInst
import PyProof.IsiBase
import HandS.Flow
import HandS.Zip
import HandS.CallSlots
import HandS.ExcField
import HandS.MakeKwOnly
import HandS.Style
import HandS.TryOnly
import HandS.WordsExc
import HandS.Wide
import HandS.Evl
import HandS.SetBool
import HandS.Strs
import HandS.Comp
import HandS.CallLocal
import HandS.WordsDict
import HandS.DictComp
import HandS.ListItems
import HandS.Iter
import HandS.Small
import KE.GoesMore
import HandS.Defaults
import PyProof.ReprRoads
import PyProof.StrLawsRepr
import PyProof.FitsInt
import HandS.Rev
import HandS.Deep
import HandS.SetFor
import PyProof.DictFindH
import HandS.More
import HandS.DictEq
import HandS.ListEq
import PyProof.NeKinds
import HandS.Dict
import HandS.List
import HandS.Finally
import HandS.Lambda
import HandS.EndTab
import HandS.DeepEq
import PySem.Challenge.RW_ringwalkers_k73_whole_two_paths_joined
set_option Elab.async false
set_option linter.all false
set_option maxRecDepth 100000
set_option maxHeartbeats 4000000
/-! own error classes with one field: def __init__(self, f): super().__init__(text); self.f = f, over ValueError (at any depth of own classes) -/
namespace PySem
namespace XW
open PySem.W PySem.Calls PyProof.Rows PySem.HandSPX
def xA (f : Str) (p1 p2 : Pos) : Arguments := { posonlyargs := [], args := [{ arg := "self", annotation := none, pos := p1 }, { arg := f, annotation := none, pos := p2 }], vararg := none, kwonlyargs := [], kw_defaults := [], kwarg := none, defaults := [] }
def xB1 (txt : Str) (q1 q2 q3 q4 q5 q6 : Pos) : Stmt := .Expr (.Call (.Attribute (.Call (.Name "super" q1) [] [] q2) "__init__" q3) [.Constant (.str txt) 0 q4] [] q5) q6
def xB2 (f : Str) (r1 r2 r3 r4 : Pos) : Stmt := .Assign [.Attribute (.Name "self" r1) f r2] (.Name f r3) r4
def xS (f : Str) : Scope := { kind := .function, names := [("self", .local), (f, .local), ("__class__", .free), ("super", .globalImplicit)], isGenerator := false, isCoroutine := false, more := [] }
/-- what the written part says of the class at C, and of its __init__, at fI -/
structure XTxt (prog : Program) (K : Frag) (mg : Str → Option Value) (f : Str) (C fI : Addr) : Prop where
  fne : f ≠ "self"
  fn1 : (f == ("self" : Str)) = false
  fS : (("super" : Str) == f) = false
  fK : (("__class__" : Str) == f) = false
  fd : (f == ("__debug__" : Str)) = false
  bnd : ∀ (qual : Str) (p1 p2 : Pos) (b1 b2 : Stmt) (doc pm : Value) (an : Option Addr) (cd ct : Value) (cc : Addr) (u v : Value), bindArgs (ksFn "__init__" qual (xA f p1 p2) [b1, b2] (xS f) .none .none doc pm an cd ct cc) ⟨[u, v], []⟩ = pure [(("self" : Str), u), (f, v)]
  cls : ∃ nm q N bs bm sn sub ab col dd k0 k1 k2 k3 k5, K.lookup C = some (excClassObj nm q C N bs bm true sn sub ab col dd k0 k1 k2 k3 k5 "ValueError.__new__") ∧ refsVE bm = true
  ini : excInitIn K C [.type "ValueError", .type "Exception", .type "BaseException", .type "object"] "ValueError.__new__" = true
  sup : ks_superIn K C C "__init__" = some (some (.builtin "ValueError.__init__"))
  sV : subIn K (.ref C) (.type "ValueError") = some true
  mC : mroIn K C (.ref C) = some true
  tp : nsIn K cStatics "thirdparty.any" = some none
  gS : mg "super" = none
  top : (prog.main.scope.names.lookup ("super" : Str)).isSome = false
  sa : findIn K (.ref C) "__setattr__" = some (some (.builtin "object.__setattr__"))
  ga : findIn K (.ref C) "__getattribute__" = some (some (.builtin "BaseException.__getattribute__"))
  gg : findIn K (.ref C) "__getattr__" = some none
  noN : findIn K (.ref C) f = some none
  iC : findIn K (.ref C) "__init__" = some (some (.ref fI))
  tC : typeIn K (.ref fI) = some (.type "function")
  kC : keepIn K (.ref C) = true
  exC : subIn K (.ref C) (.type "BaseException") = some true
  tyC : typeIn K (.ref C) = some (.type "type")
  hdC : hasDictIn K C = true
  te : exmOne K (.ref C) (.ref C) = some true
  fn : ∃ (oc : Value) (od : Option Addr) (doc pm : Value) (an : Option Addr) (cda cc : Addr) (ct : Value) (osl : Array (Option Value)) (qual txt : Str) (p1 p2 q1 q2 q3 q4 q5 q6 r1 r2 r3 r4 : Pos),
    K.lookup fI = some ⟨oc, od, .func (ksFn "__init__" qual (xA f p1 p2) [xB1 txt q1 q2 q3 q4 q5 q6, xB2 f r1 r2 r3 r4] (xS f) .none .none doc pm an (.ref cda) ct cc), osl⟩ ∧ codeIn K (.ref cda) qual = true ∧ (q3.endLine == q5.line) = true ∧
    (∃ (ccl : Value) (cdd : Option Addr) (vs : Array Value) (ccs : Array (Option Value)) (file : Str) (tf : Tok), K.lookup cda = some ⟨ccl, cdd, .fields vs, ccs⟩ ∧ vs[2]? = some (.str file tf) ∧ ((prog.main.file : Str) == file) = true) ∧
    ∃ (cl : Value) (cld : Option Addr) (csl : Array (Option Value)), K.lookup cc = some ⟨cl, cld, .cell (some (.ref C)), csl⟩
/-- what __init__ leaves of a fresh exception at x; hp: the heap ahead of the making -/
structure XEnd (hp h' : Heap) (x C dx t1 : Addr) (f : Str) (v : Value) : Prop where
  keep : ∀ b o, hp.get? b = some o → h'.get? b = some o
  obj : h'.get? x = some { cls := .ref C, dict := some dx, data := .fields #[.ref t1, .none, .none, .none, .bool false, .none] }
  dbig : hp.objs.size ≤ dx
  dne : dx ≠ x
  ns : h'.Ns1 dx (fun y => if y = f then some v else none)
theorem hc_of {q1 q2 q3 q4 q5 : Pos} {txt : Str} {env : Env} (h : (q3.endLine == q5.line) = true) :
  eval (.Call (.Attribute (.Call (.Name "super" q1) [] [] q2) "__init__" q3) [.Constant (.str txt) 0 q4] [] q5) env = (do
      let ov ← attributeBase (.Call (.Name "super" q1) [] [] q2) "__init__" env (eval (.Call (.Name "super" q1) [] [] q2) env)
      standAt q3.atName
      let (f, first) ← holding [ov] (getMethod ov "__init__" (do return (← importBound (.Call (.Name "super" q1) [] [] q2) env).getD true))
      callWith q5 f first (backTo q5 (starEach [.Constant (.str txt) 0 q4] env)) []) := by
  rw [arm_eval_Call]
  have e : ∀ ov, methodCall (.Call (.Name "super" q1) [] [] q2) "__init__" q3 q5 env ov ([Expr.Constant (.str txt) 0 q4].length + ([] : List Keyword).length) (backTo q5 (starEach [.Constant (.str txt) 0 q4] env)) (backToKw q5 (keywordEach [] env)) = (do
      let (f, first) ← holding [ov] (getMethod ov "__init__" (do return (← importBound (.Call (.Name "super" q1) [] [] q2) env).getD true))
      callWith q5 f first (backTo q5 (starEach [.Constant (.str txt) 0 q4] env)) []) := by
    intro ov
    have hf : methodCallForm ([Expr.Constant (.str txt) 0 q4].length + ([] : List Keyword).length) (backTo q5 (starEach [.Constant (.str txt) 0 q4] env)) (backToKw q5 (keywordEach [] env)) = true := by rfl
    unfold methodCall calleeOf methodCallPos
    rw [hf]
    simp only [h, Bool.not_true, Bool.false_or, if_true, pure_bind]
    rfl
  simp only [e]
theorem xS_sup {f : Str} {qual : Str} {L a : Addr} {cd : Value} {cc : Addr} (h : (("super" : Str) == f) = false) : (ksEnv qual (xS f) L a cd cc).kindOf "super" = some .globalImplicit := by
  show List.lookup ("super" : Str) [(("self" : Str), NameKind.local), (f, .local), ("__class__", .free), ("super", .globalImplicit)] = some .globalImplicit
  have e1 : (("super" : Str) == ("self" : Str)) = false := by decide +kernel
  have e2 : (("super" : Str) == ("__class__" : Str)) = false := by decide +kernel
  simp only [List.lookup, h, e1, e2, beq_self_eq_true]
theorem xS_cls {f : Str} {qual : Str} {L a : Addr} {cd : Value} {cc : Addr} (h : (("__class__" : Str) == f) = false) : (ksEnv qual (xS f) L a cd cc).kindOf "__class__" = some .free := by
  show List.lookup ("__class__" : Str) [(("self" : Str), NameKind.local), (f, .local), ("__class__", .free), ("super", .globalImplicit)] = some .free
  have e1 : (("__class__" : Str) == ("self" : Str)) = false := by decide +kernel
  simp only [List.lookup, h, e1, beq_self_eq_true]
theorem xS_loc {f : Str} {qual : Str} {L a : Addr} {cd : Value} {cc : Addr} (h : (f == ("self" : Str)) = false) : (ksEnv qual (xS f) L a cd cc).kindOf f = some .local := by
  show List.lookup f [(("self" : Str), NameKind.local), (f, .local), ("__class__", .free), ("super", .globalImplicit)] = some .local
  simp [List.lookup, h]
section
variable {prog : Program} {w : World} {A : Around} {E : Value → Shared → Prop} {R : Result → Shared → Prop} {s : Shared} {K : Frag} {mg : Str → Option Value} {f : Str} {C fI : Addr}
theorem x_init (T : XTxt prog K mg f C fI) {hp : Heap} {x t0 : Addr} {v : Value} (M : L2.Mod K mg hp) (k0 : ∀ b o, hp.get? b = some o → s.heap.get? b = some o) (hxn : hp.get? x = none) (hsz : hp.objs.size ≤ s.heap.objs.size)
    (hx : s.heap.get? x = some (excO C t0)) (hroom : A.depth < recursionLimit)
    (hq : ∀ h' tk dx t1, XEnd hp h' x C dx t1 f v → R (.ok (.ret .none)) { s with heap := h', toks := tk }) :
    codeAny (model prog w) A (.call (.ref fI) ⟨[.ref x, v], []⟩) R s := by
  obtain ⟨oc, od, doc, pm, an, cda, cc, ct, osl, qual, txt, p1, p2, q1, q2, q3, q4, q5, q6, r1, r2, r3, r4, ho, hcd, hline, ⟨ccl, cdd, vs, ccs, file, tf, hcode, hvs, hfile⟩, cl, cld, csl, hcell⟩ := T.fn
  obtain ⟨nm, q, N, bs, bm, sn, sub, ab, col, dd, k0', k1, k2, k3, k5, hC, hbm⟩ := T.cls
  have hcl : clsIn K C = some { name := nm, bases := bs, mro := .ref C :: bm, ns := N, qualname := q, hasDict := true, slotNames := sn, subclasses := sub, abstract := ab, collection := col, hasDel := false } := by unfold clsIn; rw [hC] <;> rfl
  have X := M.kin
  have Xs : K.In s.heap := X.keeps k0
  have hlim : s.heap.NoLimit := M.nolimit.keeps k0
  refine ks_codeAny_call_defAt (fd := ksFn "__init__" qual (xA f p1 p2) [xB1 txt q1 q2 q3 q4 q5 q6, xB2 f r1 r2 r3 r4] (xS f) .none .none doc pm an (.ref cda) ct cc) (body := [xB1 txt q1 q2 q3 q4 q5 q6, xB2 f r1 r2 r3 r4])
    (binds := [("self", .ref x), (f, v)]) hroom (Xs _ _ ho) rfl hlim (codeRec_of Xs hcd) rfl (BindsTo.of_eq (T.bnd _ _ _ _ _ _ _ _ _ _ _ _ _)) (by simp [xS]) (by simp [xS, List.lookup, T.fn1]) (fun h₁ hns hk₁ => ?_)
  have F₁ : Fr hp s.heap.objs.size h₁ (fun y => List.lookup y [(f, v), ("self", Value.ref x)]) := ⟨hns, fun b o e => hk₁ b o (k0 b o e), hsz⟩
  have N₁ : News hp s.heap.objs.size h₁ [(x, excObj C t0 none .none)] := fun p hp' => by
    rcases List.mem_cons.mp hp' with rfl | hp'
    · exact ⟨hk₁ _ _ hx, Nat.ne_of_lt (Heap.lt_size hx), hxn⟩
    · cases hp'
  have X₁ : K.In h₁ := X.keeps F₁.keep
  have ns0 : (f == ("self" : Str)) = false := T.fn1
  have lself : List.lookup ("self" : Str) [(f, v), ("self", Value.ref x)] = some (.ref x) := by
    have e : ((("self" : Str) == f) : Bool) = false := by
      have := T.fne
      simpa using fun z => this z.symm
    simp [List.lookup, e]
  have lf : List.lookup f [(f, v), ("self", Value.ref x)] = some v := by simp [List.lookup]
  obtain ⟨mb, hb1, hb2⟩ := M.blt
  have I₁ : InstAt h₁ x (excObj C t0 none .none) C none := InstAt.of_exc0 N₁ List.mem_cons_self
  refine ks_wpAt_execs_cons (ks_wpAt_Expr_any (ks_wpAt_MethodCall ?_ (hc_of hline)))
  have hkS : (ksEnv qual (xS f) s.heap.objs.size fI (.ref cda) cc).kindOf "self" = some .local := by rfl
  obtain ⟨oC, hC1, hC2⟩ : ∃ oD, h₁.get? C = some oD ∧ oD.data = .cls { name := nm, bases := bs, mro := .ref C :: bm, ns := N, qualname := q, hasDict := true, slotNames := sn, subclasses := sub, abstract := ab, collection := col, hasDel := false } := ⟨_, X₁ _ _ hC, rfl⟩
  have hkf := xS_loc (qual := qual) (L := s.heap.objs.size) (a := fI) (cd := .ref cda) (cc := cc) T.fn1
  refine ks_wpAt_super_base (env := ksEnv qual (xS f) s.heap.objs.size fI (.ref cda) cc) (f := fI) (ar := { arg := "self", annotation := none, pos := p1 }) ?k1 ?k2 (by decide) rfl (X₁ _ _ ho) rfl rfl rfl (X₁ _ _ hcode) rfl hvs hfile T.top ?_
  case k1 => exact xS_sup T.fS
  case k2 => exact xS_cls T.fK
  refine ks_loadName_global rfl ?k1 (Calls.loadGlobal_builtin (M.glob.keeps F₁.keep) T.gS (hb1.keeps F₁.keep) ((hb2 _ (by decide +kernel)).trans (by decide +kernel : bootBuiltins "super" = some (.type "super"))) ⟨rfl, ?_⟩)
  case k1 => exact xS_sup T.fS
  refine wpAny_loadName_free rfl ?k2 rfl ⟨_, X₁ _ _ hcell, rfl⟩ ?_
  case k2 => exact xS_cls T.fK
  refine wpAny_loadName_local rfl hkS F₁.ns lself ?_
  refine ks_wpAny_isType_cls hC1 hC2 ⟨rfl, ?_⟩
  refine ks_wpAny_call_super hC1 hC2 I₁.at_ I₁.cls (fun c e => ?_) (looks_mroIn X₁ T.mC) (fun h' e k => ?_)
  · cases e
  obtain ⟨F₂, N₂, l₂⟩ := ks_newsPush (s := ⟨h₁, s.gens, s.drawn, s.toks + 2, s.os⟩) F₁ N₁ rfl e k
  refine kxs_method (s := ⟨h', s.gens, s.drawn, s.toks + 2, s.os⟩) kxs_ValueError F₂ X N₂ List.mem_cons_self (InstAt.of_exc0 N₂ (List.mem_cons_of_mem _ List.mem_cons_self)) T.tp T.sup T.sV (by decide) (fun u h'' F₃ N₃ l₃ => ?_)
  refine kxs_callWith1 N₃ List.mem_cons_self ?_
  refine spliced_more (Calls.Constant_str (spliced_none ⟨kxs_at N₃ List.mem_cons_self, ?_⟩))
  have lx2 : x < h₁.objs.size := l₂ (x, excObj C t0 none .none) List.mem_cons_self
  have lx3 : x < u := l₃ (x, excObj C t0 none .none) (List.mem_cons_of_mem _ List.mem_cons_self)
  refine kxs_call F₃ X N₃ F.excBase_ValueError T.ini List.mem_cons_self (UpdF.tail (Nat.ne_of_gt lx3) (UpdF.tail (Nat.ne_of_gt lx2) (UpdF.head (fun p hp => nomatch hp)))) (by rw [sizeLine_eq]; show 1 ≤ 16777216; decide) (fun t1 h4 F₄ N₄ l₄ => ?_)
  -- self.f = f
  have X₄ : K.In h4 := X.keeps F₄.keep
  have hx4 : h4.get? x = some (excObj C t1 none .none) := (N₄ (x, excObj C t1 none .none) (by simp)).1
  refine wpAt_of_wpAny (wpAny_execs_cons (plainObj_wpAny_Assign_Attribute (wpAny_Name (wpAny_loadName_local rfl hkf F₄.ns lf (wpAny_Name (wpAny_loadName_local rfl hkS F₄.ns lself ?_) (by decide))) T.fd)))
  refine set_plain X₄ (ox := excO C t1) (od := none) ⟨hx4, rfl, rfl, trivial⟩ T.sa ?_
  refine exc_osa X₄ hx4 hcl (show refsVE (.ref C :: bm) = true from hbm) rfl T.noN (fun h₅ tk₅ dx k₅ dn dne hx₅ hn₅ => ?_)
  refine wpAny_execs_nil (hq h₅ tk₅ dx t1 ⟨fun b o e => k₅ b o (fun z => ?_) (F₄.keep b o e), hx₅, ?_, dne, hn₅⟩)
  · rw [z, hxn] at e
    cases e
  · have q1 : s.heap.objs.size < h4.objs.size := F₄.ns.lt
    exact Nat.le_trans hsz (Nat.le_of_lt (Nat.lt_of_lt_of_le q1 dn))
/-- a made error -/
structure XMade (h h' : Heap) (e C d : Addr) (f : Str) (v : Value) : Prop where
  keep : ∀ b o, h.get? b = some o → h'.get? b = some o
  new : h.objs.size ≤ e
  obj : ∃ oe vs, h'.get? e = some oe ∧ oe.cls = .ref C ∧ oe.dict = some d ∧ oe.data = .fields vs ∧ vs[1]? = some .none
  dbig : h.objs.size ≤ d
  dne : d ≠ e
  ns : h'.Ns1 d (fun y => if y = f then some v else none)
theorem x_made (T : XTxt prog K mg f C fI) {v : Value} (M : L2.Mod K mg s.heap) (hroom : A.depth + 1 < recursionLimit)
    (hq : ∀ h' tk e d, XMade s.heap h' e C d f v → R (.ok (.ret (.ref e))) { s with heap := h', toks := tk }) :
    codeAny (model prog w) A (.call (.ref C) ⟨[v], []⟩) R s := by
  obtain ⟨nm, q, N, bs, bm, sn, sub, ab, col, dd, k0, k1, k2, k3, k5, hC, hbm⟩ := T.cls
  obtain ⟨hp, g, dr, tk, os⟩ := s
  have X : K.In hp := M.kin
  have k : ∀ b o, hp.get? b = some o → ((hp.push (kdv_tup [v])).push (excO C hp.objs.size)).get? b = some o := fun b o e => Heap.get?_push_of_some _ (Heap.get?_push_of_some _ e)
  have hget : ((hp.push (kdv_tup [v])).push (excO C hp.objs.size)).get? (hp.objs.size + 1) = some (excO C hp.objs.size) := by heap_get
  have hnone : hp.get? (hp.objs.size + 1) = none := by
    cases e : hp.get? (hp.objs.size + 1) with
    | none => rfl
    | some o => exact absurd (Nat.lt_of_succ_lt (Heap.lt_size e)) (Nat.lt_irrefl _)
  refine call_own F.excBase_ValueError (fun X => refsVE_contains X bm hbm) (X _ _ hC) (looks_findIn X T.iC) (fun self => bind_fn X self T.tC) (by rw [sizeLine_eq]; show 1 ≤ 16777216; decide) ?_
  refine x_init (s := ⟨(hp.push (kdv_tup [v])).push (excO C hp.objs.size), g, dr, tk, os⟩) T M k hnone ?_ hget ?_ fun h' tk' dx t1 Y => ?_
  · show hp.objs.size ≤ ((hp.push (kdv_tup [v])).push (excO C hp.objs.size)).objs.size
    rw [Heap.size_push, Heap.size_push]
    omega
  · show A.depth + 1 < recursionLimit
    exact hroom
  · exact ⟨rfl, hq h' tk' (hp.objs.size + 1) dx ⟨Y.keep, Nat.le_succ _, ⟨_, _, Y.obj, rfl, rfl, rfl, rfl⟩, Y.dbig, Y.dne, Y.ns⟩⟩
end
end XW
end PySem
namespace L2
open PySem PySem.Spec PyProof.Rows
theorem relO_x {f : Str} {v : V} {v' : Value} (r : RelV v v') (g : Str) : RelO (List.lookup g [(f, v)]) (if g = f then some v' else none) := by
  by_cases hw : g = f
  · subst hw
    rw [if_pos rfl]
    have q : List.lookup g [(g, v)] = some v := by simp [List.lookup]
    rw [q]
    exact r
  · rw [if_neg hw]
    have qw : (g == f) = false := by simpa using hw
    have q2 : List.lookup g [(f, v)] = none := by simp [List.lookup, qw]
    rw [q2]
    trivial
section
variable {X : Cx} {C fI : Addr} {f : Str}
/-- C(e) -/
def tMkX (f : Str) (C : Addr) (ta : TA) : St → Hp → XK → Prop := fun σ H Q => ta σ H fun vs H1 => ∃ v, vs = [v] ∧ ∀ d, H1 d = none → Q (.ref C) (some d) (upd H1 d (.xd [(f, v)]))
theorem Inv.mod1 {pins : List (Addr × Obj)} {σ : St} {H : Hp} {s : Shared} (I : Inv X pins σ H s) : Mod X.K X.mg s.heap :=
  ⟨I.kIn, I.mod.glob.keeps I.bk, let ⟨mb, h1, h2⟩ := I.mod.blt; ⟨mb, h1.keeps I.bk, h2⟩, I.nolimit⟩
theorem pmk_x {nm : Str} {a : Expr} {ta : TA} {p pos : Pos} {k : Nat} (T : PySem.XW.XTxt X.prog X.K X.mg f C fI) (gC : X.mg nm = some (.ref C)) (hr : Room k X.A) (ha : PA X [a] ta) (hg : Gl X nm := by rfl)
    (hdb : (nm == ("__debug__" : Str)) = false := by decide) (he : starEach (a :: []) X.env = (false, eval a X.env) :: starEach [] X.env := by rfl) (hpl : (backTo pos (starEach [] X.env)).any (·.1) = false := by rfl) :
    PMk X (.Call (.Name nm p) [a] [] pos) (tMkX f C ta) := by
  intro pins s σ H Q I h
  refine wpAny_Call_Name_kw (ld_glob I hg gC ?_ hdb)
  refine PySem.W.callWith_K (h₀ := X.base) I.ok.mod.kin T.kC (thn (ha.run pos pins s σ H _ I h) fun us s1 hh => ?_) he hpl
  obtain ⟨vs, H1, I1, r1, v, ev, q1⟩ := hh
  subst ev
  refine ⟨I1.kIn, ?_⟩
  cases r1 with
  | cons rv rn =>
    rename_i v' us'
    cases rn
    show wpAny _ _ (call (.ref C) [v']) _ _ _
    have hmod := I1.mod1
    obtain ⟨hp, g, dr, tk, os⟩ := s1
    refine wpAny_call (PySem.XW.x_made T hmod (by have := hr.dp; omega) fun h' tk' e d M => ?_)
    show MkP X pins σ Q (.ref e) ⟨h', g, dr, tk', os⟩
    obtain ⟨oe, fv, hoe, hc, hd, hdat, h1⟩ := M.obj
    have hns := M.ns
    obtain ⟨G', g1, g2⟩ := restrict h' fun b => decide (b ≠ e)
    have gk : ∀ b, b ≠ e → G'.get? b = h'.get? b := fun b hb => g1 b (decide_eq_true hb)
    have ge : G'.get? e = none := g2 e (by simp)
    have old : ∀ b o, hp.get? b = some o → G'.get? b = some o := fun b o q => (gk b (Nat.ne_of_lt (Nat.lt_of_lt_of_le (Heap.lt_size q) M.new))).trans (M.keep b o q)
    have ob : ObjOk X.prog X.w (upd H1 d (.xd [(f, v)])) G' d (.xd [(f, v)]) :=
      ⟨_, hns.at (fun o q => (gk d M.dne).trans q), fun g => relO_x rv g⟩
    have J : Inv X pins σ (upd H1 d (.xd [(f, v)])) ⟨G', g, dr, tk', os⟩ := I1.laid (t' := tk') old M.dbig ob
    refine ⟨e, oe, fv, ⟨G', g, dr, tk', os⟩, _, .ref C, some d, rfl, J, fun b o q => ?_, ge, hoe, ⟨hc, hd⟩, hdat, h1, ?_, rfl, I1.bare, raises_own T.exC T.tyC, q1 d (I1.hok.fresh M.dbig)⟩
    · by_cases hb : b = e
      · have q' : G'.get? b = some o := q
        rw [hb, ge] at q'; cases q'
      · exact (gk b hb).symm.trans q
    · rw [upd_ne (Ne.symm M.dne)]
      exact I1.hok.fresh M.new
/-- raise C(e) -/
def tRaiseX (f : Str) (C : Addr) (W : WX) (ta : TA) : TS := fun _ σ H => tMkX f C ta σ H fun cls d H' => W cls d σ H'
theorem ps_raiseX {nm : Str} {a : Expr} {ta : TA} {W : WX} {p pos pos2 : Pos} {k : Nat} (hc : X.calm = true) (T : PySem.XW.XTxt X.prog X.K X.mg f C fI) (gC : X.mg nm = some (.ref C)) (hr : Room k X.A) (tk : Takes X W) (ha : PA X [a] ta) (hg : Gl X nm := by rfl)
    (hdb : (nm == ("__debug__" : Str)) = false := by decide) (he : starEach (a :: []) X.env = (false, eval a X.env) :: starEach [] X.env := by rfl) (hpl : (backTo pos (starEach [] X.env)).any (·.1) = false := by rfl) :
    PS X (.Raise (some (.Call (.Name nm p) [a] [] pos)) none pos2) (tRaiseX f C W ta) := ps_raise hc tk (pmk_x T gC hr ha hg hdb he hpl)
end
end L2

/-! enumerate of a tuple -/
namespace PySem
open Sem (wp)
open AutoSeq1 (wpAny_loadPart')
theorem kx_enum_newT (l : Addr) (items : Array Value) (o : Obj) (hoc : o.cls = .type "tuple") (n0 : Nat) (hod : o.data = .seq items n0) :
    Meets (Builtin.«enumerate.__new__» ⟨[.type "enumerate", .ref l], []⟩) (fun _ R s => s.heap.get? l = some o ∧
      R (.ok (.ret (.ref (s.heap.objs.size + 1)))) { s with heap := (s.heap.push { cls := .type "tuple_iterator", data := .fields #[.ref l, .int 0 0] }).push { cls := .type "enumerate", data := .fields #[.none, .bool false, .ref s.heap.objs.size, rawInt 0, .none, .none] } }) :=
  .of_wp fun prog w A R s h => by
    obtain ⟨hp, g, d, tk, os⟩ := s; obtain ⟨hl, h⟩ := h
    have hsub := sub_enumerate
    have hT : Heap.IsTuple (Shared.heap ⟨hp, g, d, tk, os⟩) l items := ⟨_, hl, hoc, n0, hod⟩
    have hz : (hp.push { cls := .type "tuple_iterator", data := .fields #[.ref l, .int 0 0] }).objs.size = hp.objs.size + 1 := Heap.size_push ..
    obtain ⟨oc, od, dt, sl⟩ := o
    replace hoc : oc = .type "tuple" := hoc
    replace hod : dt = .seq items n0 := hod
    subst hoc hod
    wp_walk using wpAny_loadPart' hl
    refine wpAny_stack_any fun st => wpAny_pure ?_
    split
    · rename_i c _ _ _ _ _
      cases (c == Value.type "enumerate") <;> (wp_walk using wpAny_loadPart' hl, wpAny_pyIter_tuple hT; rw [hz]; exact ⟨_, rfl, h⟩)
    · wp_walk using wpAny_loadPart' hl, wpAny_pyIter_tuple hT
      rw [hz]; exact ⟨_, rfl, h⟩
section
variable {prog : Program} {w : World} {A : Around} {E : Value → Shared → Prop} {s : Shared}
theorem kx_call_enumT {l : Addr} {items : Array Value} {Q : Value → Shared → Prop} (hL : s.heap.IsTuple l items)
    (h : ∀ h', IsEnum h' (s.heap.objs.size + 1) s.heap.objs.size 0 .none → h'.IsTupleIter s.heap.objs.size l 0 → (∀ b o, s.heap.get? b = some o → h'.get? b = some o) → Q (.ref (s.heap.objs.size + 1)) { s with heap := h' }) :
    wpAny (model prog w) A (call (.type "enumerate") [.ref l]) Q E s := by
  obtain ⟨o, hl, hc, n, hd⟩ := hL
  refine callType_new F.called_enumerate (by decide) (F.typeCall_enumerate_1 _) (F.newCall_enumerate_1 _) (fun obj => F.args_object_init_2 obj _) F.entry_enumerate_new (kx_enum_newT l items o hc n hd) ⟨hl, ?_⟩
  have hz : (s.heap.push { cls := .type "tuple_iterator", data := .fields #[.ref l, .int 0 0] }).objs.size = s.heap.objs.size + 1 := Heap.size_push ..
  have he : IsEnum ((s.heap.push { cls := .type "tuple_iterator", data := .fields #[.ref l, .int 0 0] }).push { cls := .type "enumerate", data := .fields #[.none, .bool false, .ref s.heap.objs.size, rawInt 0, .none, .none] }) (s.heap.objs.size + 1) s.heap.objs.size 0 .none := by
    have z := Heap.get?_push_size (s.heap.push { cls := .type "tuple_iterator", data := .fields #[.ref l, .int 0 0] }) (o := { cls := .type "enumerate", data := .fields #[.none, .bool false, .ref s.heap.objs.size, rawInt 0, .none, .none] }) rfl
    rw [hz] at z; exact z
  exact ⟨⟨_, he, rfl⟩, h _ he ⟨_, Heap.get?_push_of_some _ (Heap.get?_push_size _ rfl), rfl, rfl⟩ fun b o x => Heap.get?_push_of_some _ (Heap.get?_push_of_some _ x)⟩
end
end PySem
namespace L2
open PySem PySem.Spec PyProof.Rows
theorem apart_cls {h : Heap} {a b : Addr} {oa ob : Obj} (ha : h.get? a = some oa) (hb : h.get? b = some ob) (hc : oa.cls ≠ ob.cls) : a ≠ b := fun z => hc (by
  subst z
  rw [ha] at hb
  cases hb
  rfl)
/-- the tuple at a as it stands, the items in new pairs with their indexes -/
def IteT (K : PySem.W.Frag) (a : Addr) : It :=
  ⟨fun i H => ∃ (xs : List V) (x : V), SqT K H a xs ∧ xs[i]? = some x, fun i H v H' => ∃ T x, v = .ref T ∧ H T = none ∧ H' = upd H T (.tup [.int (i : Nat), x]) ∧ ∀ xs, SqT K H a xs → xs[i]? = some x, fun i H => ∃ xs : List V, SqT K H a xs ∧ xs.length = i⟩
theorem turn_enumT {P : Program} {w : World} {K : PySem.W.Frag} {elts : List Expr} {kk : Nat} {tpos : Pos} (a e it : Addr) :
    Turn P w K (.Tuple elts kk tpos) (IteT K a) [e, it] e (fun i h => (∃ old, IsEnum h e it ((0 : Int) + (i : Nat)) old) ∧ h.IsTupleIter it a i ∧ e ≠ it) where
  mem := List.mem_cons_self
  obj := fun i h st b hb => by
    obtain ⟨⟨old, he⟩, ⟨o, ho, hc, hd⟩, _⟩ := st
    rcases (show b = e ∨ b = it by simpa using hb) with rfl | rfl
    · exact ⟨_, he, fun v q => nomatch q⟩
    · exact ⟨o, ho, fun v q => by rw [hd] at q; cases q⟩
  keep := fun i h h' ⟨⟨old, he⟩, hi, hne⟩ k => ⟨⟨old, k e (List.mem_cons_self) _ he⟩, hi.at fun o q => k it (by simp) o q, hne⟩
  item := by
    intro X hP hw hK hc i pins s σ H E I hf st hg
    subst hP hw hK
    obtain ⟨⟨old, he⟩, hit, hne⟩ := st
    obtain ⟨xs, x, hq, hx⟩ := hg
    obtain ⟨its, rv, p, hz⟩ := I.tuple hq
    obtain ⟨u, hu, ru⟩ := rv.get hx
    have hp : s.heap.IsTuple a its.toArray := p
    obtain ⟨oa, ha, hac, na, had⟩ := id hp
    have hae : e ≠ a := apart_cls he ha (by rw [hac]; exact fun q => by injection q with q; exact absurd q (by decide))
    have hai : a ≠ it := by
      obtain ⟨o, ho, hc', hd'⟩ := hit
      exact apart_cls ha ho (by rw [hac, hc']; exact fun q => by injection q with q; exact absurd q (by decide))
    have G := GoesN.enumFrom (prog := X.prog) (w := X.w) (A := X.A) (elts := elts) (x1 := kk) (pos := tpos) 0 (Draws.tuple (A := X.A.in1) (I.ok.hd hc) it a hai its.toArray) e hne (by simp [hne, hae]) (by simp)
    refine G.goes i s _ E ?_ ⟨⟨old, he⟩, hit, hp⟩ fun v h' tk hY hst hkeep htk => ?_
    · have z : i < its.length := (List.getElem?_eq_some_iff.mp hu).1
      simpa using z
    obtain ⟨T, t, y, rfl, hT, hy, o, hTo, hTc, nT, hTd⟩ := hY
    obtain ⟨⟨old', he'⟩, hit', hp'⟩ := hst
    have hyu : y = u := by
      have : its.toArray[i]? = some u := by simpa using hu
      rw [this] at hy
      exact (Option.some.inj hy).symm
    subst hyu
    have new : ObjOk X.prog X.w (upd H T (.tup [.int (i : Nat), x])) h' T (.tup [.int (i : Nat), x]) :=
      ⟨by show 2 ≤ sizeLine; decide, [.int ((0 : Int) + (i : Nat)) t, y], .cons ⟨t, by rw [Int.zero_add]⟩ (.cons ru .nil), ⟨o, hTo, hTc, nT, hTd⟩⟩
    have I1 : Inv X pins σ (upd H T (.tup [.int (i : Nat), x])) { s with heap := h', toks := tk } :=
      I.turnedNew (ch := [e, it]) (fun b ob hb q => hkeep b ob hb q) hf hT new
    refine ⟨.ref T, _, I1, rfl, ⟨_, x, rfl, I.hok.fresh hT, rfl, fun ys hy' => by rw [I.tuple_inj hy' hq]; exact hx⟩, ⟨⟨_, he'⟩, hit', hne⟩, fun b hb => ?_⟩
    have hb' : b < s.heap.objs.size := by
      rcases (show b = e ∨ b = it by simpa using hb) with rfl | rfl
      · exact Heap.lt_size he
      · obtain ⟨_, q, _⟩ := hit
        exact Heap.lt_size q
    rw [upd_ne (Nat.ne_of_lt (Nat.lt_of_lt_of_le hb' hT))]
    exact (hf b hb).1
  done := by
    intro X hP hw hK hc i pins s σ H E I hf st hg
    subst hP hw hK
    obtain ⟨⟨old, he⟩, hit, hne⟩ := st
    obtain ⟨xs, hq, hx⟩ := hg
    obtain ⟨its, rv, p, hz⟩ := I.tuple hq
    have hp : s.heap.IsTuple a its.toArray := p
    obtain ⟨oa, ha, hac, na, had⟩ := id hp
    have hae : e ≠ a := apart_cls he ha (by rw [hac]; exact fun q => by injection q with q; exact absurd q (by decide))
    have hai : a ≠ it := by
      obtain ⟨o, ho, hc', hd'⟩ := hit
      exact apart_cls ha ho (by rw [hac, hc']; exact fun q => by injection q with q; exact absurd q (by decide))
    have G := GoesN.enumFrom (prog := X.prog) (w := X.w) (A := X.A) (elts := elts) (x1 := kk) (pos := tpos) 0 (Draws.tuple (A := X.A.in1) (I.ok.hd hc) it a hai its.toArray) e hne (by simp [hne, hae]) (by simp)
    have hn : i = its.toArray.size := by
      have := rv.length
      simp
      omega
    subst hn
    exact wpAny_mono (G.stops s (fun s1 => Inv X pins σ H s1) E ⟨⟨old, he⟩, hit, hp⟩ fun h' tk hk htk => I.turnedL (ch := [e, it]) (fun b o hb q => hk b o hb q) hf) (fun r s1 z => z) fun _ _ z => z
  self := fun A i s Q E ⟨⟨_, he⟩, _⟩ h => wpAny_pyIter_enum he h
/-- enumerate of a list or of a tuple -/
def iEnumA (K : PySem.W.Frag) (ta : TA) : TI := fun σ H R => ta σ H fun vs H1 => ∃ a xs, vs = [.ref a] ∧ ((SqL K H1 a xs ∧ R (Ite K a) H1) ∨ (SqT K H1 a xs ∧ R (IteT K a) H1))
theorem pi_enumA {X : Cx} {e : Expr} {ta : TA} {p pos tpos : Pos} {elts : List Expr} {kk : Nat} (hg : Gl X "enumerate") (hm : X.mg "enumerate" = none) (ha : PA X [e] ta) (hs : starEach [e] X.env = [(false, eval e X.env)] := by rfl) :
    PI X (.Tuple elts kk tpos) (.Call (.Name "enumerate" p) [e] [] pos) (iEnumA X.K ta) := by
  refine ⟨fun pins s σ H R I h => ?_⟩
  refine Call_ (ld_blt I hg hm boot_enumerate (PyProof.Rows.callWith_type1 (thn (ha.run pos pins s σ H _ I h) fun us s1 ⟨vs, H1, I1, r1, q1⟩ => ?_) hs rfl))
  obtain ⟨a, xs, rfl, q1⟩ := q1
  cases r1 with
  | cons r rr =>
    cases rr
    cases r
    have old : ∀ b, b = s1.heap.objs.size + 1 ∨ b = s1.heap.objs.size → s1.heap.objs.size ≤ b := fun b z => by rcases z with rfl | rfl <;> omega
    rcases q1 with ⟨hq, q⟩ | ⟨hq, q⟩
    · obtain ⟨its, rv, p', hz⟩ := I1.list hq
      refine call_enumerate_list p'.isList fun h' he hit hsz hk => wpAny_pyIter_enum he ?_
      refine ⟨s1.heap.objs.size + 1, [s1.heap.objs.size + 1, s1.heap.objs.size], _, _, H1, rfl, I1.kept (t' := s1.toks) hk, turn_enum a (s1.heap.objs.size + 1) s1.heap.objs.size, ⟨⟨.none, he⟩, hit, Nat.succ_ne_self _⟩, fun b hb => ?_, q⟩
      have hle := old b (by simpa using hb)
      exact I1.fpOk hle (I1.hok.fresh hle)
    · obtain ⟨its, rv, p', hz⟩ := I1.tuple hq
      refine kx_call_enumT (show s1.heap.IsTuple a its.toArray from p') fun h' he hit hk => wpAny_pyIter_enum he ?_
      refine ⟨s1.heap.objs.size + 1, [s1.heap.objs.size + 1, s1.heap.objs.size], _, _, H1, rfl, I1.kept (t' := s1.toks) hk, turn_enumT a (s1.heap.objs.size + 1) s1.heap.objs.size, ⟨⟨.none, he⟩, hit, Nat.succ_ne_self _⟩, fun b hb => ?_, q⟩
      have hle := old b (by simpa using hb)
      exact I1.fpOk hle (I1.hok.fresh hle)
theorem walk_enumT {K : PySem.W.Frag} {a : Addr} {xs : List V} : Walk (IteT K a) xs.length (fun H => SqT K H a xs) (YPair (fun i => some (.int (i : Nat))) (fun i => xs[i]?)) := by
  refine ⟨fun i _ hi q => ⟨xs, xs[i], q, by simp [hi]⟩, fun _ q => ⟨xs, q, rfl⟩, fun i H v H' _ q y => ?_⟩
  obtain ⟨T, x, h1, h2, h3, h4⟩ := y
  exact ⟨T, .int (i : Nat), x, h1, h2, h3, rfl, h4 xs q⟩
/-- the loop over enumerate of a list or of a tuple -/
theorem for_enumA {K : PySem.W.Frag} {a : Addr} {xs : List V} {g : TG} {tb : TS} {D : Ends} {σ : St} {H : Hp} (hq : SqL K H a xs ∨ SqT K H a xs) (Pv : Nat → St → Hp → Prop) (h0 : Pv 0 σ H)
    (hl : SqL K H a xs → ∀ i σ' H', Pv i σ' H' → SqL K H' a xs) (ht : SqT K H a xs → ∀ i σ' H', Pv i σ' H' → SqT K H' a xs)
    (hs : ∀ i x T σ H', xs[i]? = some x → Pv i σ H' → H' T = none → g (.ref T) σ (upd H' T (.tup [.int (i : Nat), x])) fun σ2 H2 => tb { D with nx := Pv (i + 1), ct := Pv (i + 1), bk := D.nx } σ2 H2) (hd : ∀ σ H', Pv xs.length σ H' → D.nx σ H') :
    (SqL K H a xs ∧ ∃ W : Nat → Nat → St → Hp → Prop, (∃ m, W 0 m σ H) ∧ ∀ i m σ H, W i m σ H →
      ((Ite K a).stop i H ∧ D.nx σ H) ∨ ((Ite K a).go i H ∧ ∃ N : St → Hp → Prop, (∀ σ' H', N σ' H' → ∃ m', m' < m ∧ W (i + 1) m' σ' H') ∧ ∀ x H', (Ite K a).yld i H x H' → g x σ H' fun σ2 H2 => tb { D with nx := N, ct := N, bk := D.nx } σ2 H2)) ∨
    (SqT K H a xs ∧ ∃ W : Nat → Nat → St → Hp → Prop, (∃ m, W 0 m σ H) ∧ ∀ i m σ H, W i m σ H →
      ((IteT K a).stop i H ∧ D.nx σ H) ∨ ((IteT K a).go i H ∧ ∃ N : St → Hp → Prop, (∀ σ' H', N σ' H' → ∃ m', m' < m ∧ W (i + 1) m' σ' H') ∧ ∀ x H', (IteT K a).yld i H x H' → g x σ H' fun σ2 H2 => tb { D with nx := N, ct := N, bk := D.nx } σ2 H2)) := by
  rcases hq with q | q
  · refine .inl ⟨q, for_it (walk_enum (K := K) (a := a) (xs := xs)) Pv h0 (fun i σ' H' _ p => hl q i σ' H' p) ?_ hd⟩
    rintro i x σ' H1 H2 hi p ⟨T, x1, y, rfl, hT, rfl, e1, e2⟩
    cases e1
    exact hs i y T σ' H1 e2 p hT
  · refine .inr ⟨q, for_it (walk_enumT (K := K) (a := a) (xs := xs)) Pv h0 (fun i σ' H' _ p => ht q i σ' H' p) ?_ hd⟩
    rintro i x σ' H1 H2 hi p ⟨T, x1, y, rfl, hT, rfl, e1, e2⟩
    cases e1
    exact hs i y T σ' H1 e2 p hT
end L2

/-! tuple of a dict -/
namespace PySem
open Sem (wp)
open AutoSeq1 (wpAny_loadPart')
open PySem.W
section
variable {prog : Program} {w : World} {A : Around} {E : Value → Shared → Prop} {s : Shared} {T : String} {r d : Addr} {n : Nat} {P : Nat → Value → Prop} {OK : Heap → Prop}
theorem kx_collect {Q : List Value → Shared → Prop} (S : KdlSrc prog w T r d n P OK) (hh : A.handled = none) (hok : OK s.heap) (hn : n ≤ sizeLine)
    (hQ : ∀ h' tk (acc : Array Value), s.heap.objs.size < h'.objs.size → (∀ b o, s.heap.get? b = some o → h'.get? b = some o) → ItemsOf P acc n → Q acc.toList { s with heap := h', toks := tk }) :
    wpAny (model prog w) A (collect (.ref r)) Q E s := by
  unfold collect
  refine wpAny_bind (wpAny_runValue (codeAny_builtin F.entry_proto_collect ?_))
  rw [Around.under_plainId F.plain_proto_collect _]
  show wpAny _ A.in1 (newList [] >>= fun l => again (.builtin "list.__iadd__" ⟨[l, .ref r], []⟩)) _ _ s
  refine wpAny_bind (wpAny_newObj_type ?_)
  refine wpAny_pure ⟨plainId_quiet F.plain_list_iadd _, codeAny_builtin F.entry_list_iadd ?_⟩
  rw [Around.under_plainId F.plain_list_iadd _]
  show wpAny _ A.in1 (Builtin.List.listExtendWith (.ref s.heap.objs.size) (.ref r) (.ref s.heap.objs.size)) _ _ _
  have hS : (s.heap.push { cls := .type "list", data := .seq ([] : List Value).toArray }).get? s.heap.objs.size = some { cls := .type "list", data := .seq #[] } := Heap.get?_push_size _ rfl
  have hlt := S.there _ hok
  have key : ∀ h' tk (acc : Array Value) c, (∀ b o, b ≠ s.heap.objs.size → (s.heap.push { cls := .type "list", data := .seq ([] : List Value).toArray }).get? b = some o → h'.get? b = some o) → h'.get? s.heap.objs.size = some { cls := .type "list", dict := none, data := .seq acc c, slots := #[] } → ItemsOf P acc n →
      Q acc.toList { s with heap := h', toks := tk } := fun h' tk acc c hk hS' hacc => hQ h' tk acc (Heap.lt_size hS') (fun b o e => hk b o (Nat.ne_of_lt (Heap.lt_size e)) (Heap.get?_push_of_some _ e)) hacc
  refine wpAny_mono (kdl_extend (s := { s with heap := s.heap.push { cls := .type "list", data := .seq ([] : List Value).toArray } }) (R := fun r s' => ∃ h' tk acc c, r = .ok (.ret (.ref s.heap.objs.size)) ∧ s' = { s with heap := h', toks := tk } ∧ h'.get? s.heap.objs.size = some { cls := .type "list", dict := none, data := .seq acc c, slots := #[] } ∧ Q acc.toList { s with heap := h', toks := tk })
    S hh (S.keep s.heap _ hok fun b _ o e => Heap.get?_push_of_some _ e) s.heap.objs.size (Nat.ne_of_gt hlt.1) (Nat.ne_of_gt hlt.2) (.ref s.heap.objs.size) 0 hS (fun h' tk acc c hk hS' hacc => ⟨h', tk, acc, c, rfl, rfl, hS', key h' tk acc c hk hS' hacc⟩) hn) (fun fin s' z => ?_) fun e s' z => ?_
  · cases fin with
    | done f =>
      obtain ⟨h', tk, acc, c, hf, rfl, hS', hq⟩ := z
      cases hf
      exact wpAny_bind (wpAny_load hS' (wpAny_pure hq))
    | again c' =>
      refine ⟨z.1, codeAny_mono z.2 fun r s'' z' => ?_⟩
      obtain ⟨h', tk, acc, c, rfl, rfl, hS', hq⟩ := z'
      exact wpAny_bind (wpAny_load hS' (wpAny_pure hq))
  · obtain ⟨h', tk, acc, c, hf, _⟩ := z
    cases hf
theorem kx_tuple_newIn (S : KdlSrc prog w T r d n P OK) (hne : (Value.type T == Value.type "tuple") = false) (hn : n ≤ sizeLine) :
    MeetsIn prog w (Builtin.«tuple.__new__» ⟨[.type "tuple", .ref r], []⟩) (fun A R s => A.handled = none ∧ OK s.heap ∧ ∀ (h' : Heap) (tk : Nat) (acc : Array Value), s.heap.objs.size < h'.objs.size → (∀ b o, s.heap.get? b = some o → h'.get? b = some o) → ItemsOf P acc n →
        R (.ok (.ret (.ref h'.objs.size))) { s with heap := h'.push { cls := .type "tuple", data := .seq acc }, toks := tk }) :=
  .of_wp fun A R s h => by
    obtain ⟨hh, hok, h⟩ := h
    have hsub := sub_tuple_self
    have hinit := init_tuple_lookup
    have hmh := madeHere_tuple
    have hT : s.TypeIs (.ref r) T := S.type s hok
    have hh1 : A.in1.handled = none := hh
    wp_walk using wpAny_typeOf hT, kx_collect S hh1 hok hn
    intro h' tk acc hlt hk hacc
    show wpAny _ _ (Builtin.Tuple.tupleExact acc.toList.toArray >>= fun v => ret v) _ _ _
    unfold Builtin.Tuple.tupleExact
    refine wpAny_bind (wpAny_newObj_type ?_ (show acc.toList.toArray.size ≤ sizeLine by rw [Array.toArray_toList, hacc.1]; exact hn))
    refine wpAny_pure ⟨_, rfl, ?_⟩
    rw [show acc.toList.toArray = acc from Array.toArray_toList]
    exact h h' tk acc hlt hk hacc
theorem kx_call_tupleK {Q : Value → Shared → Prop} (S : KdlSrc prog w T r d n P OK) (hne : (Value.type T == Value.type "tuple") = false) (hn : n ≤ sizeLine) (hh : A.handled = none) (hok : OK s.heap)
    (h : ∀ (h' : Heap) (tk : Nat) (acc : Array Value), s.heap.objs.size < h'.objs.size → (∀ b o, s.heap.get? b = some o → h'.get? b = some o) → ItemsOf P acc n → Q (.ref h'.objs.size) { s with heap := h'.push { cls := .type "tuple", data := .seq acc }, toks := tk }) :
    wpAny (model prog w) A (call (.type "tuple") [.ref r]) Q E s :=
  callType_newIn F.called_tuple (by decide) (F.typeCall_tuple_1 _) (F.newCall_tuple_1 _) (fun obj => F.args_object_init_2 obj _) F.entry_tuple_new (kx_tuple_newIn S hne hn)
    ⟨hh, hok, fun h' tk acc hlt hk hacc => ⟨⟨_, Heap.get?_push_size _ rfl, rfl⟩, h h' tk acc hlt hk hacc⟩⟩
end
end PySem
namespace L2
open PySem PySem.Spec PyProof.Rows
/-- tuple(d): the keys in a new tuple -/
def rTupD : List V → Hp → VK → Prop := fun xs H Q => ∃ p kvs, xs = [.ref p] ∧ H p = some (.dK kvs) ∧ ∀ q, H q = none → Q (.ref q) (upd H q (.tup (kvs.map fun kv => kV kv.1)))
theorem call_tuple_dK {X : Cx} (hc : X.calm = true) : CallR X (.type "tuple") rTupD := by
  intro pins s σ H xs us Q I r h
  obtain ⟨p, kvs, rfl, hk, q⟩ := h
  obtain ⟨u, rfl, rx⟩ := vals1 r
  obtain rfl : u = Value.ref p := rx
  obtain ⟨z, lo, vs, rk, hd⟩ := (show ObjOk X.prog X.w H s.heap p (.dK kvs) from I.hok p _ hk)
  obtain ⟨ep, hat⟩ := hd.dictAt
  have hl : kvs.length = vs.length := Paired.length rk
  refine kx_call_tupleK (PySem.W.kdl_dict (knd := mixKind X.prog X.w) (kvs := vs) (ep := ep) lo) (by decide) (by rw [← hl]; exact z) (I.ok.hd hc) hat fun h' tk acc hgrow hkeep hacc => ?_
  have hsz : s.heap.objs.size ≤ h'.objs.size := Nat.le_of_lt hgrow
  have nn : H h'.objs.size = none := I.hok.fresh hsz
  have ho : ObjOk X.prog X.w (upd H h'.objs.size (.tup (kvs.map fun kv => kV kv.1))) (h'.push { cls := .type "tuple", data := .seq acc }) h'.objs.size (.tup (kvs.map fun kv => kV kv.1)) := by
    refine ⟨by rw [List.length_map]; exact z, acc.toList, ?_, ⟨_, Heap.get?_push_size _ rfl, rfl, 0, by rw [Array.toArray_toList]⟩⟩
    have el : acc.toList.length = acc.size := by simp
    refine vals_of_at (by rw [List.length_map, el, hacc.1, hl]) fun j x w h1 h2 => ?_
    obtain ⟨k, y, hky, hi⟩ := hacc.2 j w (by rw [← Array.getElem?_toList]; exact h2)
    have e1 : (kvs.map (·.1))[j]? = some k := by
      rw [KV.keys rk, List.getElem?_map, hky] <;> rfl
    have e3 : (kvs.map fun kv => kV kv.1) = (kvs.map (·.1)).map kV := by rw [List.map_map] <;> rfl
    rw [e3, List.getElem?_map, e1] at h1
    cases h1
    exact keyIs_rel hi
  exact ⟨.ref h'.objs.size, _, I.laid (fun b o e => Heap.get?_push_of_some _ (hkeep b o e)) hsz ho, rfl, q _ nn⟩
end L2

/-! isinstance of a def of the text -/
namespace PySem
open Sem (wp)
namespace KXF
theorem slot_fn_ga : Slot "function" "__getattribute__" "object.__getattribute__" :=
  .of (owner := "object") (n := "__getattribute__") (by rw [typeLookup_type, builtinLookup_eq_fast]; kernel_rfl) (by decide +kernel) (by decide +kernel) (by decide +kernel)
    (by first | exact .inl (by decide +kernel) | exact .inr (by decide +kernel)) (by rw [isSubtype_type]; kernel_rfl)
theorem entry_obj_ga : entryFor table "object.__getattribute__" = some Builtin.«object.__getattribute__» := entryFor_of_tree (by kernel_rfl)
theorem args_obj_ga (a b : Value) : argsOk "object.__getattribute__" ⟨[a, b], []⟩ := by unfold argsOk; kernel_rfl
theorem lk_fn_class : typeLookup (.type "function") "__class__" = pure (some (.builtin "object.__class__")) := by rw [typeLookup_type, builtinLookup_eq_fast]; kernel_rfl
theorem sub_fn_owner : isSubtype (.type "function") (.type (".".intercalate ("object.__class__".cutAt '.').dropLast)) = pure true := by
  rw [F.owner_object_class, isSubtype_type]; kernel_rfl
end KXF
section
variable {prog : Program} {w : World} {A : Around} {E : Value → Shared → Prop} {h : Heap} {g : Array GenState} {d : Drawn} {t : Nat} {os : OsState} {a : Addr} {o : Obj}
theorem kxf_get {R : Result → Shared → Prop} (hx : h.get? a = some o) (hc : o.cls = .type "function") (hq : R (.ok (.ret (.type "function"))) ⟨h, g, d, t, os⟩) :
    codeAny (model prog w) A (.call (.builtin "getset_descriptor.__get__") ⟨[.builtin "object.__class__", .ref a, .type "function"], []⟩) R ⟨h, g, d, t, os⟩ := by
  have hT : (⟨h, g, d, t, os⟩ : Shared).TypeIs (.ref a) "function" := ⟨_, hx, hc⟩
  have f8 := KXF.sub_fn_owner
  refine codeAny_call_builtin F.slot_gs_get.plain F.entry_gs_get (F.slot_gs_get.check _ _ _ _ _ _ _ _ (show (⟨h, g, d, t, os⟩ : Shared).TypeIs (.builtin "object.__class__") "getset_descriptor" from F.typeOf_object_class) (F.args_gs_get _ _ _) ?_)
  repeat (any_goals (first | wp_step | assumption))
  refine ⟨Code.quiet_builtin _ (by decide +kernel), codeAny_builtin F.entry_object_class ?_⟩
  repeat (any_goals (first | wp_step | assumption))
theorem kxf_entry {tk : Tok} {Q : Fin → Shared → Prop} (hx : h.get? a = some o) (hc : o.cls = .type "function") (hq : Q (.done (.ret (.type "function"))) ⟨h, g, d, t, os⟩) :
    wpAny (model prog w) A (Builtin.«object.__getattribute__» ⟨[.ref a, .str "__class__" tk], []⟩) Q E ⟨h, g, d, t, os⟩ := by
  have hT : (⟨h, g, d, t, os⟩ : Shared).TypeIs (.ref a) "function" := ⟨_, hx, hc⟩
  have f4 := KXF.lk_fn_class
  have f5 := F.typeOf_object_class
  have hT5 : (⟨h, g, d, t, os⟩ : Shared).TypeIs (.builtin "object.__class__") "getset_descriptor" := f5
  have f6 := F.slot_gs_get.lookup
  have f7 := F.slot_gs_set.lookup
  repeat (any_goals (first | wp_step | assumption))
  refine kxf_get hx hc ?_
  repeat (any_goals (first | wp_step | assumption))
theorem kxf_call {tk : Tok} {R : Result → Shared → Prop} (hx : h.get? a = some o) (hc : o.cls = .type "function") (hq : R (.ok (.ret (.type "function"))) ⟨h, g, d, t, os⟩) :
    codeAny (model prog w) A (.call (.builtin "object.__getattribute__") ⟨[.ref a, .str "__class__" tk], []⟩) R ⟨h, g, d, t, os⟩ :=
  codeAny_call_builtin KXF.slot_fn_ga.plain KXF.entry_obj_ga (KXF.slot_fn_ga.check _ _ _ _ _ _ _ _ (show (⟨h, g, d, t, os⟩ : Shared).TypeIs (.ref a) "function" from ⟨_, hx, hc⟩) (KXF.args_obj_ga _ _) (kxf_entry hx hc hq))
theorem kxf_by {tk : Tok} {Q : Value → Shared → Prop} (hx : h.get? a = some o) (hc : o.cls = .type "function") (hq : Q (.type "function") ⟨h, g, d, t, os⟩) : wpAny (model prog w) A (getAttrBy (.ref a) (.str "__class__" tk) false) Q E ⟨h, g, d, t, os⟩ := by
  have hT : (⟨h, g, d, t, os⟩ : Shared).TypeIs (.ref a) "function" := ⟨_, hx, hc⟩
  have f2 := KXF.slot_fn_ga.lookup
  have f3 := KXF.slot_fn_ga.bind (.ref a)
  repeat (any_goals (first | wp_step | assumption))
  refine kxf_call hx hc ?_
  repeat (any_goals (first | wp_step | assumption))
theorem kxf_attr {Q : Option Value → Shared → Prop} (hx : h.get? a = some o) (hc : o.cls = .type "function") (hq : Q (some (.type "function")) ⟨h, g, d, t + 1, os⟩) : wpAny (model prog w) A (getAttr? (.ref a) "__class__") Q E ⟨h, g, d, t, os⟩ := by
  unfold getAttr? getAttrBy?
  repeat (any_goals (first | with_reducible apply kxf_by hx hc | wp_step | assumption))
end
namespace W
theorem kitx_fn {K : Frag} {a : Addr} : KitX K (.ref a) (.type "function") (KitAt a "function") :=
  kitx_of kitAt_ty (fun {_ _ _ _ _ s} p k => by obtain ⟨h, g, d, t, os⟩ := s; obtain ⟨o, h1, h2⟩ := p; exact kxf_attr h1 h2 k)
end W
end PySem
namespace L2
open PySem PySem.Spec PyProof.Rows
/-- a value's type: as TyX tells, or a def of the text -/
inductive TyZ (K : PySem.W.Frag) (H : Hp) : V → Value → Prop where
  | x {v : V} {t : Value} (h : TyX K H v t) : TyZ K H v t
  | fn {a : Addr} {o : Obj} (e : K.lookup a = some o) (c : o.cls = .type "function") : TyZ K H (.ref a) (.type "function")
section
variable {X : Cx} {pins : List (Addr × Obj)} {σ : St} {H : Hp} {s : Shared}
theorem kit_ofZ {x : V} {u t : Value} (I : Inv X pins σ H s) (rx : RelV x u) (ty : TyZ X.K H x t) : ∃ P : Heap → Prop, PySem.W.KitX X.K u t P ∧ P s.heap ∧ u ≠ .builtin "__main__.__loader__#opaque" := by
  cases ty with
  | x h => exact kit_of I rx h
  | @fn a o e c =>
    cases (show u = Value.ref a from rx)
    exact ⟨_, PySem.W.kitx_fn, ⟨o, I.kIn a o e, c⟩, fun z => nomatch z⟩
end
/-- isinstance(x, c); isinstance(x, (c1, c2, ..)) -/
def rIsiZ (K : PySem.W.Frag) : List V → Hp → VK → Prop := fun xs H Q => ∃ (x c : V) (t u : Value) (b : Bool), xs = [x, c] ∧ ClsV c u ∧ TyZ K H x t ∧ PySem.W.kitOne K t u = some b ∧ Q (.bl b) H
def rIsiTZ (K : PySem.W.Frag) : List V → Hp → VK → Prop := fun xs H Q => ∃ (x : V) (tp : Addr) (cs : List V) (t : Value) (us : List Value) (b : Bool), xs = [x, .ref tp] ∧ H tp = some (.tup cs) ∧ Paired ClsV cs us ∧ TyZ K H x t ∧ PySem.W.kitAny K t us = some b ∧ Q (.bl b) H
section
variable {X : Cx}
theorem call_isiZ : CallR X (.builtin "isinstance") (rIsiZ X.K) := by
  intro pins s σ H xs us Q I r h
  obtain ⟨x, c, t, u, b, rfl, k, ty, e, q⟩ := h
  obtain ⟨u1, u2, rfl, r1, r2⟩ := vals2 r
  have e2 := k.eq r2
  subst e2
  obtain ⟨P, Z, p, hx⟩ := kit_ofZ I r1 ty
  exact PySem.W.kia_one Z I.kIn p e hx fun tk => ⟨.bl b, H, I.tok tk, rfl, q⟩
theorem call_isiTZ : CallR X (.builtin "isinstance") (rIsiTZ X.K) := by
  intro pins s σ H xs us Q I r h
  obtain ⟨x, tp, cs, t, ws, b, rfl, hT, k, ty, e, q⟩ := h
  obtain ⟨u1, u2, rfl, r1, r2⟩ := vals2 r
  cases (show u2 = Value.ref tp from r2)
  obtain ⟨P, Z, p, hx⟩ := kit_ofZ I r1 ty
  obtain ⟨_, its, rv, o, h1, h2, n, h3⟩ := (show ObjOk X.prog X.w H s.heap tp (.tup cs) from I.hok tp _ hT)
  have e3 := ClsV.all k rv
  subst e3
  obtain ⟨oc, od, dt, sl⟩ := o
  simp only at h2 h3
  subst h2 h3
  exact PySem.W.kia_tup Z I.kIn p h1 e hx fun tk => ⟨.bl b, H, I.tok tk, rfl, q⟩
end
end L2

/-! own == and its != against anything -/
namespace PySem.W
open PySem PySem.Spec PySem.Calls PyProof.Rows PyProof.V
section
variable {prog : Program} {w : World} {A : Around} {E : Value → Shared → Prop} {s : Shared} {K : Frag} {x C f : Addr} {ox : Obj} {od : Option Obj} {b tb : Value}
/-- object.__ne__ bound to an instance and called -/
theorem kxe_special {Q : Option Value → Shared → Prop} (X : K.In s.heap) (I : InstAt s.heap x ox C od) (hs : findIn K (.ref C) "__ne__" = some (some (.builtin "object.__ne__")))
    (h : wpAny (model prog w) A (call (.builtin "object.__ne__") [.ref x, b]) (fun v => Q (some v)) E s) : wpAny (model prog w) A (callSpecialIfBound? (.ref x) "__ne__" [b]) Q E s := by
  simp only [callSpecialIfBound?, bindSpecialIfBound?]
  refine wpAny_holding (wpAny_bind (wpAny_bind (wpAny_bind (I.type.here ((looks_findIn X hs).here (wpAny_bind (wpAny_askSetting (wpAny_ite ?_))))))))
  have bn : bindSpecial (.builtin "object.__ne__") (.ref x) = pure (.builtin "object.__ne__", [.ref x]) := F.cmp_object.ne.bind (.ref x)
  have fin : wpAny (model prog w) A (call (.builtin "object.__ne__") ([.ref x] ++ [b]) >>= fun v => pure (some v)) Q E s := wpAny_bind (wpAny_mono h (fun v s' h' => wpAny_pure h') fun _ _ h' => h')
  split
  · exact wpAny_bind (wpAny_of_eq bn (wpAny_pure (by exact fin)))
  · exact wpAny_tryCatch (wpAny_bind (wpAny_of_eq bn (wpAny_pure (by exact fin))))
theorem kxe_obj_ne {Q : Fin → Shared → Prop} (hu : A.units < cLine) (X : K.In s.heap) (I : InstAt s.heap x ox C od) (he : findIn K (.ref C) "__eq__" = some (some (.ref f))) (hf : isFn K (.ref f) = true)
    (h : wpAny (model prog w) A (call (.ref f) [.ref x, b]) (fun v s' => ∃ k, v = .bool k ∧ Q (.done (.ret (.bool (!k)))) s') E s) :
    wpAny (model prog w) A (Builtin.«object.__ne__» ⟨[.ref x, b], []⟩) Q E s := by
  unfold Builtin.«object.__ne__»
  repeat (first
    | with_reducible refine wpAny_cRoomFor hu ?_
    | (refine wpAny_bind (m := callSpecialIfBound? (.ref x) (Str.ofString "__eq__") [b]) (ifBound_K X I he hf (wpAny_mono h (fun r s' hr => by
          obtain ⟨k, rfl, hq⟩ := hr
          repeat (first | exact hq | exact wpAny_pure hq | exact wpAny_truthy_bool hq | (refine wpAny_bind (m := truthy (.bool _)) (wpAny_truthy_bool ?_)) | wp_step)) fun _ _ e => e)))
    | wp_step)
theorem kxe_call {Q : Value → Shared → Prop} (hu : A.units + 1 < cLine) (X : K.In s.heap) (I : InstAt s.heap x ox C od) (he : findIn K (.ref C) "__eq__" = some (some (.ref f))) (hf : isFn K (.ref f) = true) (ho : mroIn K C (.type "object") = some true)
    (h : wpAny (model prog w) A.in1 (call (.ref f) [.ref x, b]) (fun v s' => ∃ k, v = .bool k ∧ Q (.bool (!k)) s') E s) :
    wpAny (model prog w) A (call (.builtin "object.__ne__") [.ref x, b]) Q E s := by
  refine wpAny_call (codeAny_call_builtin F.cmp_object.ne.plain F.cmpEntry_ne (check_slot F.cmpKind_ne F.cmpSplit_ne (I.type.andThen (looks_mroIn X ho)) (F.cmpArgs_ne _ _) ?_))
  refine kxe_obj_ne (A := A.in1) hu X I he hf (wpAny_mono h (fun v s' hv => ?_) fun _ _ e => e)
  obtain ⟨k, rfl, hq⟩ := hv
  exact ⟨k, rfl, hq⟩
/-- x != b, x an instance whose class has its own == and object's != -/
theorem kxe_rich {Q : Value → Shared → Prop} (hu : A.units + 1 < cLine) (X : K.In s.heap) (I : InstAt s.heap x ox C od) (hb : Looks (model prog w) s.heap (typeOf b) tb) (hn : notFirst K C tb = true)
    (hs : findIn K (.ref C) "__ne__" = some (some (.builtin "object.__ne__"))) (he : findIn K (.ref C) "__eq__" = some (some (.ref f))) (hf : isFn K (.ref f) = true) (ho : mroIn K C (.type "object") = some true)
    (h : wpAny (model prog w) A.in1 (call (.ref f) [.ref x, b]) (fun v s' => ∃ k, v = .bool k ∧ Q (.bool (!k)) s') E s) : wpAny (model prog w) A (richCompare .NotEq (.ref x) b) Q E s := by
  have one : wpAny (model prog w) A (tryCompare (.ref x) (cmpInfo .NotEq).2.1 b) (fun r s' => ∃ v, r = some v ∧ Q v s') E s := by
    unfold tryCompare
    refine wpAny_bind (kxe_special X I hs (kxe_call hu X I he hf ho (wpAny_mono h (fun v s' hv => ?_) fun _ _ e => e)))
    obtain ⟨k, rfl, hq⟩ := hv
    exact ⟨k, rfl, wpAny_pure ⟨_, rfl, hq⟩⟩
  unfold richCompare
  simp only [oneThing_ref]
  refine wpAny_holding (wpAny_bind (wpAny_cRoomFor (Nat.lt_of_succ_lt hu) (wpAny_bind (I.type.here (wpAny_bind (hb.here ?_))))))
  split
  · rename_i q
    have e : subIn K tb (.ref C) = some false := (Bool.or_eq_true_iff.mp hn).elim (fun e => absurd q (by rw [beq_iff_eq.mp e]; simp)) fun e => beq_iff_eq.mp e
    refine wpAny_bind ((looks_subIn X e).here ?_)
    rw [if_neg Bool.false_ne_true]
    exact wpAny_bind (wpAny_mono one (fun r s' ⟨v, hv, hq⟩ => by subst hv; exact wpAny_pure hq) fun _ _ e => e)
  · refine wpAny_bind (wpAny_pure ?_)
    rw [if_neg Bool.false_ne_true]
    exact wpAny_bind (wpAny_mono one (fun r s' ⟨v, hv, hq⟩ => by subst hv; exact wpAny_pure hq) fun _ _ e => e)
end
end PySem.W
namespace L2
open PySem PySem.Spec PyProof.Rows
/-- an instance of C against anything: what the class's == promises, its answer b told as g b -/
def rOwn (K : PySem.W.Frag) (C : Addr) (sp : Sp) (E : XK) (g : Bool → Bool) : R2 := fun x y H Q => ∃ (a dx : Addr) (fs : List (Str × V)) (t : Value), x = .ref a ∧ H a = some (.ins C dx fs) ∧ TyZ K H y t ∧ PySem.W.notFirst K C t = true ∧
  sp [.ref a, y] H (fun v H' => ∃ b, v = .bl b ∧ Q (.bl (g b)) H') E
section
variable {X : Cx} {CX : CXT} {n : Nat} {C f : Addr} {fd : FuncData} {ps : List Str} {sp : Sp} {E : XK}
theorem own_run (F : FnOk X.prog X.w X.K X.mg X.base CX n f fd ps sp) (hb : Binds X.K fd ps []) (hx : Passes CX X E) {A : Around} {pins : List (Addr × Obj)} {σ : St} {H : Hp} {s : Shared} {a : Addr} {y : V} {u : Value} {g : Bool → Bool} {Q : VK}
    (hr : Room n A) (hA : A.frames = X.A.frames) (I : Inv X pins σ H s) (ry : RelV y u) (h : sp [.ref a, y] H (fun v H' => ∃ b, v = .bl b ∧ Q (.bl (g b)) H') E) :
    wpAny (model X.prog X.w) A (call (.ref f) [.ref a, u]) (fun v s' => ∃ b, v = .bool b ∧ EP X pins σ Q (.bool (g b)) s') X.xe s := by
  have hl := F.len _ _ _ _ h
  have e0 : Env0 X.prog X.w X.K X.mg X.base A X.stack s H := by
    have e := I.env0
    exact ⟨hA.trans e.frames, e.mod, e.bs, e.bsz, e.funs, e.frf, e.hok, e.bare⟩
  refine wpAny_call (codeAny_mono (F.run A X.stack s H ⟨[.ref a, u], []⟩ [.ref a, u] [.ref a, y] _ E hr e0 ?_ (.cons rfl (.cons ry .nil)) h) fun r s' hq => ?_)
  · have z := hb s [.ref a, u] I.kIn (by simpa using hl)
    simpa using z
  · cases r with
    | error e => exact hx pins σ H s e s' I hq
    | ok fl =>
      cases fl with
      | ret w =>
        obtain ⟨z, H', I', rz, b, ez, q⟩ := I.after hq
        subst ez
        cases rz
        exact ⟨b, rfl, .bl (g b), H', I', rfl, q⟩
      | next => exact False.elim hq
      | brk => exact False.elim hq
      | cont => exact False.elim hq
theorem op_eqO (F : FnOk X.prog X.w X.K X.mg X.base CX n f fd ps sp) (hr : Room n X.A) (hb : Binds X.K fd ps []) (hx : Passes CX X E)
    (hs : PySem.W.findIn X.K (.ref C) "__eq__" = some (some (.ref f))) (hf : PySem.W.isFn X.K (.ref f) = true) : OpR X (compareOp .Eq) (rOwn X.K C sp E id) := by
  intro pins s σ H x y v u Q I rx ry hq
  obtain ⟨a, dx, fs, t, rfl, ha, ty, hn, h⟩ := hq
  cases rx
  obtain ⟨mA, J, _⟩ := ins_get I.hok ha
  obtain ⟨od, J, _⟩ := J.look
  obtain ⟨m, hF⟩ := I.fr
  obtain ⟨P, Z, p, _⟩ := kit_ofZ I ry ty
  show wpAny (model X.prog X.w) X.A (richCompare .Eq (.ref a) u) (EP X pins σ Q) X.xe s
  refine PySem.W.cmp_K (op := .Eq) (tb := t) hr.units0 hF I.ok.mod.kin J (Z.ty _ _ I.kIn p) hn hs hf (wpAny_mono (own_run (g := id) F hb hx hr rfl I ry h) (fun v' s' z => ?_) fun _ _ e => e)
  obtain ⟨b, rfl, q⟩ := z
  exact q
theorem op_neO (F : FnOk X.prog X.w X.K X.mg X.base CX n f fd ps sp) (hr : Room (n + 1) X.A) (hb : Binds X.K fd ps []) (hx : Passes CX X E)
    (hs : PySem.W.findIn X.K (.ref C) "__eq__" = some (some (.ref f))) (hf : PySem.W.isFn X.K (.ref f) = true) (hne : PySem.W.findIn X.K (.ref C) "__ne__" = some (some (.builtin "object.__ne__"))) (ho : PySem.W.mroIn X.K C (.type "object") = some true) :
    OpR X (compareOp .NotEq) (rOwn X.K C sp E not) := by
  intro pins s σ H x y v u Q I rx ry hq
  obtain ⟨a, dx, fs, t, rfl, ha, ty, hn, h⟩ := hq
  cases rx
  obtain ⟨mA, J, _⟩ := ins_get I.hok ha
  obtain ⟨od, J, _⟩ := J.look
  obtain ⟨P, Z, p, _⟩ := kit_ofZ I ry ty
  show wpAny (model X.prog X.w) X.A (richCompare .NotEq (.ref a) u) (EP X pins σ Q) X.xe s
  refine PySem.W.kxe_rich (tb := t) (by have := hr.units; omega) I.kIn J (Z.ty _ _ I.kIn p) hn hne hs hf ho (wpAny_mono (own_run (g := not) (A := X.A.in1) F hb hx hr.in1 rfl I ry h) (fun v' s' z => ?_) fun _ _ e => e)
  obtain ⟨b, rfl, q⟩ := z
  exact ⟨b, rfl, q⟩
end
end L2

namespace RK
open PySem L2
def top (i : Nat) : Stmt := PySem.Challenge.pw_ringwalkers_k73_whole_two_paths_joined.main.body.getD i (.Pass ⟨0, 0, 0, 0⟩)
abbrev sIsInt : Stmt := top 9
abbrev sIsList : Stmt := top 10
abbrev sIsName : Stmt := top 11
abbrev sDictOf : Stmt := top 12
abbrev sStanding : Stmt := top 14
abbrev sFirstPl : Stmt := top 15
abbrev sPairsOf : Stmt := top 16
abbrev sPairsAhead : Stmt := top 17
abbrev sNetsAmong : Stmt := top 18
abbrev sNetsBy : Stmt := top 19
abbrev sAddNets : Stmt := top 20
abbrev sPlacedBy : Stmt := top 21
abbrev sNeedSt : Stmt := top 23
abbrev sInit : Stmt := inClass (top 25) 0
abbrev sWalkers : Stmt := inClass (top 25) 1
abbrev sEq : Stmt := inClass (top 25) 2
abbrev sWalkersOf : Stmt := top 26
abbrev sNetsTotal : Stmt := top 31
abbrev sJointPath : Stmt := top 32
abbrev sBoth : Stmt := top 33
abbrev sJoined : Stmt := top 34
abbrev sJointClash : Stmt := top 35
abbrev sToJoin : Stmt := top 36
abbrev sNeedSums : Stmt := top 37
abbrev sFirstJoint : Stmt := top 38
abbrev sSpring : Stmt := top 40
abbrev sDraw : Stmt := top 41
abbrev sPick : Stmt := top 42
abbrev sMixed : Stmt := top 43
abbrev sSame : Stmt := top 44
abbrev sNames : Stmt := top 45
abbrev sWFirst : Stmt := top 46
abbrev sWRest : Stmt := top 47
abbrev sWAhead : Stmt := top 48
abbrev sWOver : Stmt := top 49
abbrev sWRun : Stmt := top 50
abbrev sWNet : Stmt := top 51
abbrev sWStand : Stmt := top 52
abbrev sWNear : Stmt := top 53
abbrev sWHanded : Stmt := top 54
abbrev sWIsSt : Stmt := top 55
abbrev sNoSt : Stmt := top 56
abbrev sNoPa : Stmt := top 57
abbrev sWPairs : Stmt := top 58
abbrev sWByNets : Stmt := top 59
abbrev sWTable : Stmt := top 60
abbrev sWOfSome : Stmt := top 61
abbrev sWAny : Stmt := top 62
abbrev sMet : Stmt := top 63
abbrev sWSums : Stmt := top 64
abbrev sWTwo : Stmt := top 65
abbrev sBack : Stmt := top 66
abbrev sRefused : Stmt := top 67
abbrev sLaw : Stmt := top 68
/-! ### the built-ins and constants of the top -/
structure B0 (K : PySem.W.Frag) (mg : Str → Option Value) : Prop where
  isi : mg "isinstance" = none
  list : mg "list" = none
  tuple : mg "tuple" = none
  str : mg "str" = none
  len : mg "len" = none
  all : mg "all" = none
  any : mg "any" = none
  enum : mg "enumerate" = none
  int : mg "int" = none
  range : mg "range" = none
  dict : mg "dict" = none
  bool : mg "bool" = none
  zip : mg "zip" = none
  first : ∃ t, mg "FIRST_SIGNS" = some (.str "abcdefghijklmnopqrstuvwxyz" t)
  later : ∃ t, mg "LATER_SIGNS" = some (.str "abcdefghijklmnopqrstuvwxyz0123456789" t)
  longest : ∃ t, mg "LONGEST_NAME" = some (.int 8 t)
/-! ### things of all kinds -/
inductive Kd | non | int | bool | str | list | tup | dict | fn
def Kd.nm : Kd → String
  | .non => "NoneType" | .int => "int" | .bool => "bool" | .str => "str" | .list => "list" | .tup => "tuple" | .dict => "dict" | .fn => "function"
def Kd.isSeq : Kd → Bool
  | .list => true | .tup => true | _ => false
def Kd.isStr : Kd → Bool
  | .str => true | _ => false
def Kd.isList : Kd → Bool
  | .list => true | _ => false
def Kd.isTup : Kd → Bool
  | .tup => true | _ => false
def Kd.isDict : Kd → Bool
  | .dict => true | _ => false
def Kd.isBool : Kd → Bool
  | .bool => true | _ => false
inductive Th (K : PySem.W.Frag) (H : Hp) : V → Kd → Prop where
  | non : Th K H .non .non
  | int (i : Int) : Th K H (.int i) .int
  | bl (b : Bool) : Th K H (.bl b) .bool
  | str {z : Str} (h : z.length ≤ 1000) : Th K H (.str z) .str
  | lst {a : Addr} {xs : List V} (e : H a = some (.lst xs)) : Th K H (.ref a) .list
  | tup {a : Addr} {xs : List V} (e : H a = some (.tup xs)) : Th K H (.ref a) .tup
  | dict {a : Addr} {kvs : List (Key × V)} (e : H a = some (.dK kvs)) : Th K H (.ref a) .dict
  | fn {a : Addr} {o : Obj} (e : K.lookup a = some o) (c : o.cls = .type "function") : Th K H (.ref a) .fn
theorem Th.ty {K : PySem.W.Frag} {H : Hp} {v : V} {k : Kd} (h : Th K H v k) : TyZ K H v (.type k.nm) := by
  cases h with
  | non => exact .x (.base .non)
  | int i => exact .x (.base (.int i))
  | bl b => exact .x (.base (.bl b))
  | str h => exact .x (.base (.str _))
  | lst e => exact .x (.base (.lst e))
  | tup e => exact .x (.base (.tup e))
  | dict e => exact .x (.base (.dK e))
  | fn e c => exact .fn e c
theorem Th.same {K : PySem.W.Frag} {H H' : Hp} {v : V} {k : Kd} (h : Th K H v k) (s : Same H H') : Th K H' v k := by
  cases h with
  | non => exact .non
  | int i => exact .int i
  | bl b => exact .bl b
  | str h => exact .str h
  | lst e => exact .lst (s _ _ e)
  | tup e => exact .tup (s _ _ e)
  | dict e => exact .dict (s _ _ e)
  | fn e c => exact .fn e c
theorem kit_seq {K : PySem.W.Frag} (k : Kd) : PySem.W.kitAny K (.type k.nm) [.type "list", .type "tuple"] = some k.isSeq := by
  cases k <;> first
    | exact kitAny_cons (b := true) (kit_ty (by decide +kernel)) (fun z => nomatch z) (fun _ => rfl)
    | exact kitAny_cons (b := false) (kit_ty (by decide +kernel)) (fun _ => kitAny_cons (b := true) (kit_ty (by decide +kernel)) (fun z => nomatch z) (fun _ => rfl)) (fun z => nomatch z)
    | exact kitAny_cons (b := false) (kit_ty (by decide +kernel)) (fun _ => kitAny_cons (b := false) (kit_ty (by decide +kernel)) (fun _ => kitAny_nil) (fun z => nomatch z)) (fun z => nomatch z)
theorem kit_str {K : PySem.W.Frag} (k : Kd) : PySem.W.kitOne K (.type k.nm) (.type "str") = some k.isStr := by cases k <;> exact kit_ty (by decide +kernel)
theorem kit_list {K : PySem.W.Frag} (k : Kd) : PySem.W.kitOne K (.type k.nm) (.type "list") = some k.isList := by cases k <;> exact kit_ty (by decide +kernel)
theorem kit_tup {K : PySem.W.Frag} (k : Kd) : PySem.W.kitOne K (.type k.nm) (.type "tuple") = some k.isTup := by cases k <;> exact kit_ty (by decide +kernel)
theorem kit_dict {K : PySem.W.Frag} (k : Kd) : PySem.W.kitOne K (.type k.nm) (.type "dict") = some k.isDict := by cases k <;> exact kit_ty (by decide +kernel)
theorem kit_bool {K : PySem.W.Frag} (k : Kd) : PySem.W.kitOne K (.type k.nm) (.type "bool") = some k.isBool := by cases k <;> exact kit_ty (by decide +kernel)
theorem same_upd {H : Hp} {p : Addr} {o : HO} (h : H p = none) : Same H (upd H p o) := fun b u e => by rw [upd_ne (ne_of_none e h)]; exact e
/-! ### is_list -/
def spIsList (K : PySem.W.Frag) : Sp := fun vs H Q _ => ∃ v k, vs = [v] ∧ Th K H v k ∧ ∀ H', Same H H' → Q (.bl k.isSeq) H'
section
variable {P : Program} {w : World} {K : PySem.W.Frag} {mg : Str → Option Value} {base : Heap}
theorem scIsList : FnScope ["thing"] ["thing"] (defScope sIsList) := ⟨rfl, rfl, rfl, by decide +kernel, rfl, by decide +kernel, by decide +kernel⟩
theorem ok_isList {f : Addr} {fd : FuncData} (F : Fun K "is_list" "is_list" sIsList f fd) (B : B0 K mg) : FnOk P w K mg base CX0 1 f fd ["thing"] (spIsList K) := by
  refine F.ok scIsList (fun vs H Q E h => ?_) (fun cdv A outer s H vs Q E hr h => ?_)
  · obtain ⟨v, k, rfl, _⟩ := h
    rfl
  · obtain ⟨v, k, rfl, ht, q⟩ := h
    refine ⟨_, pss_one (ps_ret (pe_callB call_isiTZ (by rfl) B.isi (by decide +kernel) (pa_cons (pv 0) (pa_cons (pe_tup (pa_cons (pe_bltn (v := .ty "list") (by rfl) B.list (by decide +kernel) rfl) (pa_cons (pe_bltn (v := .ty "tuple") (by rfl) B.tuple (by decide +kernel) rfl) pa_nil))) pa_nil)))), ?_⟩
    refine ⟨_, rfl, (by show 2 ≤ sizeLine; decide), fun p hp => ?_⟩
    exact ⟨v, p, [.ty "list", .ty "tuple"], _, [.type "list", .type "tuple"], k.isSeq, rfl, upd_same, .cons (.ty _) (.cons (.ty _) .nil), (ht.same (same_upd hp)).ty, kit_seq k, q _ (same_upd hp)⟩
end
end RK

namespace RK
open PySem L2
/-! ### is_name -/
def firstC : List Nat := ("abcdefghijklmnopqrstuvwxyz" : Str).cps.toList
def laterC : List Nat := ("abcdefghijklmnopqrstuvwxyz0123456789" : Str).cps.toList
def nameB (z : Str) : Bool := decide (1 ≤ z.length) && decide (z.length ≤ 8) && (match z.cps.toList with | c :: _ => decide (c ∈ firstC) | [] => false) && z.cps.toList.all fun c => decide (c ∈ laterC)
def nameV : V → Bool
  | .str z => nameB z
  | _ => false
def spIsName (K : PySem.W.Frag) : Sp := fun vs H Q _ => ∃ v k, vs = [v] ∧ Th K H v k ∧ ∀ H', Same H H' → Q (.bl (nameV v)) H'
theorem Th.str_of {K : PySem.W.Frag} {H : Hp} {v : V} {k : Kd} (h : Th K H v k) (e : k.isStr = true) : ∃ z, v = .str z ∧ z.length ≤ 1000 := by
  cases h <;> first | exact ⟨_, rfl, by assumption⟩ | cases e
theorem Th.not_name {K : PySem.W.Frag} {H : Hp} {v : V} {k : Kd} (h : Th K H v k) (e : k.isStr = false) : nameV v = false := by
  cases h <;> first | rfl | cases e
theorem tyes {σ : St} {H : Hp} {A B : Hp → Prop} (h : A H) : tYes σ H fun b H' => if b = true then A H' else B H' := by
  show if true = true then A H else B H
  rw [if_pos rfl]
  exact h
theorem take_more {α : Type} {l : List α} {i : Nat} {x : α} (h : l[i]? = some x) : l.take (i + 1) = l.take i ++ [x] := by
  rw [List.take_add_one, h]
  rfl
theorem le8 {z : Str} (h : z.length ≤ 8) : z.length ≤ sizeLine := Nat.le_trans h (by decide)
section
variable {P : Program} {w : World} {K : PySem.W.Frag} {mg : Str → Option Value} {base : Heap}
theorem scIsName : FnScope ["thing", "sign"] ["thing"] (defScope sIsName) := ⟨rfl, rfl, rfl, by decide +kernel, rfl, by decide +kernel, by decide +kernel⟩
theorem ok_isName {f : Addr} {fd : FuncData} (F : Fun K "is_name" "is_name" sIsName f fd) (B : B0 K mg) : FnOk P w K mg base CX0 1 f fd ["thing"] (spIsName K) := by
  obtain ⟨t1, g1⟩ := B.first
  obtain ⟨t2, g2⟩ := B.later
  obtain ⟨t3, g3⟩ := B.longest
  refine F.ok scIsName (fun vs H Q E h => ?_) (fun cdv A outer s H vs Q E hr h => ?_)
  · obtain ⟨v, k, rfl, _⟩ := h
    rfl
  · obtain ⟨v, k, rfl, ht, q⟩ := h
    refine ⟨_, pss_cons (ps_if (PW.pt (pw_or (pt_not (pt_val (pe_callB call_isiZ (by rfl) B.isi (by decide +kernel) (pa_cons (pv 0) (pa_cons (pe_bltn (v := .ty "str") (by rfl) B.str (by decide +kernel) rfl) pa_nil)))))
          (pw_or1 (pt_not (pt_chain op_le op_le pe_int (pe_callB call_len_str (by rfl) B.len PySem.boot_len (pa_cons (pv 0) pa_nil)) (pe_glob (v := .int 8) (by rfl) g3 ⟨_, rfl⟩)))))) (pss_one (ps_ret pe_bl)) pss_nil)
      (pss_one (ps_ret (pe_and (pe_cmpR op_in_sign (pe_ix ix_str (pv 0) pe_int (fun _ _ => rfl)) (pe_glob (v := .str "abcdefghijklmnopqrstuvwxyz") (by rfl) g1 ⟨_, rfl⟩) rfl)
        (pe_one (pe_callB (cr_all rfl) (by rfl) B.all (by decide +kernel) (pa_cons (pe_lc (own := [("sign", 1)]) (g := gName 1) (tt := tYes) rfl scIsName.nd (pi_str (pv 0)) (blkOk_by (N := ["thing", "sign"]) (sc := defScope sIsName) (by decide +kernel))
          (fun _ _ _ _ _ => pg_name (i := 1) scIsName.nd rfl (Or.inl rfl)) (fun _ _ _ _ _ => pts_nil) (fun _ _ _ _ _ => pe_cmpR op_in_sign (pv 1) (pe_glob (v := .str "abcdefghijklmnopqrstuvwxyz0123456789") (by rfl) g2 ⟨_, rfl⟩) rfl)) pa_nil)))))), ?_⟩
    -- not isinstance(thing, str)
    refine ⟨_, rfl, v, .ty "str", _, .type "str", k.isStr, rfl, .ty _, ht.ty, kit_str k, k.isStr, rfl, ?_⟩
    cases hk : k.isStr with
    | false =>
      refine iteT ?_
      have e := ht.not_name hk
      have q' := q H (Same.refl H)
      rw [e] at q'
      exact iteT q'
    | true =>
      obtain ⟨z, rfl, hz⟩ := ht.str_of hk
      refine iteF ?_
      have hzs : z.length ≤ sizeLine := Nat.le_trans hz (by decide)
      -- not 1 <= len(thing) <= LONGEST_NAME
      refine ⟨_, rfl, z, rfl, hzs, 1, z.length, rfl, rfl, _, rfl, ?_⟩
      refine ite2 (fun h1 => ?_) (fun h1 => ?_)
      · have h1' : 1 ≤ z.length := by have := of_decide_eq_true h1; omega
        refine ⟨_, _, rfl, rfl, _, rfl, ?_⟩
        by_cases h2 : z.length ≤ 8
        · -- a text of one to eight signs
          have e2 : decide (((z.length : Nat) : Int) ≤ 8) = true := decide_eq_true (by omega)
          rw [e2]
          refine iteF ?_
          obtain ⟨c, r, hc⟩ : ∃ c r, z.cps.toList = c :: r := by
            cases hc : z.cps.toList with
            | nil =>
              have : z.length = 0 := by
                show z.cps.size = 0
                rw [← Array.length_toList, hc]; rfl
              omega
            | cons c r => exact ⟨c, r, rfl⟩
          have hname : nameB z = (decide (c ∈ firstC) && z.cps.toList.all fun c => decide (c ∈ laterC)) := by
            unfold nameB
            rw [decide_eq_true h1', decide_eq_true h2, hc]
            rfl
          refine ⟨_, rfl, z, 0, c, rfl, rfl, hzs, ?_, c, _, rfl, rfl, _, rfl, ?_⟩
          · exact atI_nat (j := 0) (by rw [hc]; rfl)
          · refine ite2 (fun hf => ?_) (fun hf => ?_)
            · refine ⟨_, rfl, z, rfl, fun D hD => lc_it walk_str (fun i H' => Same H H' ∧ H' D = some (.lst ((z.cps.toList.take i).map fun c => V.bl (decide (c ∈ laterC))))) ⟨same_upd hD, upd_same⟩ (fun _ _ _ _ => True.intro) ?_ ?_⟩
              · rintro i x H1 H2 hi ⟨sm, hl⟩ ⟨rfl, d, hd, rfl⟩
                have hd' : z.cps.toList[i]? = some d := by rw [Array.getElem?_toList]; exact hd
                refine ⟨rfl, tyes ?_⟩
                refine ⟨_, rfl, d, _, rfl, rfl, _, hl, ?_, ?_, ?_⟩
                · rw [List.length_map, List.length_take]
                  exact Nat.lt_of_le_of_lt (Nat.min_le_right _ _) (Nat.lt_of_le_of_lt (show z.cps.toList.length ≤ 1000 by rw [Array.length_toList]; exact hz) (by decide))
                · exact fun b o e => by rw [upd_ne (ne_of_none e hD)]; exact sm b o e
                · rw [upd_same, take_more hd', List.map_append]
                  rfl
              · rintro H1 ⟨sm, hl⟩
                rw [show z.cps.size = z.cps.toList.length by rw [Array.length_toList], List.take_length] at hl
                refine ⟨D, z.cps.toList.map fun c => decide (c ∈ laterC), rfl, SqL.of (by rw [hl, List.map_map]; rfl), ?_⟩
                have q' := q H1 sm
                have e : nameV (.str z) = (z.cps.toList.map fun c => decide (c ∈ laterC)).all id := by
                  show nameB z = _
                  have hf' : decide (c ∈ firstC) = true := hf
                  rw [hname, hf', Bool.true_and, List.all_map]
                  rfl
                rw [e] at q'
                exact q'
            · have q' := q H (Same.refl H)
              have e : nameV (.str z) = false := by
                show nameB z = _
                rw [hname, show decide (c ∈ firstC) = false from decide_eq_false fun z => hf (decide_eq_true z), Bool.false_and]
              rw [e] at q'
              exact q'
        · have e2 : decide (((z.length : Nat) : Int) ≤ 8) = false := decide_eq_false (by omega)
          rw [e2]
          refine iteT ?_
          have q' := q H (Same.refl H)
          have e : nameV (.str z) = false := by
            show nameB z = false
            unfold nameB
            rw [decide_eq_false h2, Bool.and_false]
            rfl
          rw [e] at q'
          exact q'
      · refine ⟨_, rfl, iteT ?_⟩
        have q' := q H (Same.refl H)
        have e : nameV (.str z) = false := by
          show nameB z = false
          unfold nameB
          rw [decide_eq_false (by intro h; exact h1 (decide_eq_true (by omega)))]
          rfl
        rw [e] at q'
        exact q'
end
end RK

namespace RK
open PySem L2
/-! ### the class Path -/
structure PT0 (P : Program) (K : PySem.W.Frag) (mg : Str → Option Value) (C CB fB : Addr) : Prop where
  cl : Cls K C
  nN : NoAttr K C "_names"
  mgC : mg "Path" = some (.ref C)
  gB : mg "BadWalkers" = some (.ref CB)
  bad : PySem.XW.XTxt P K mg "index" CB fB
def fNames (t : Addr) : List (Str × V) := putF "_names" (.ref t) []
theorem fNames_get (t : Addr) : (fNames t).lookup ("_names" : Str) = some (.ref t) := by
  unfold fNames
  rw [lookup_putF, if_pos rfl]
theorem fNames_no (t : Addr) {m : Str} (h : ¬ m = "_names") : (fNames t).lookup m = none := by
  unfold fNames
  rw [lookup_putF, if_neg h]
  rfl
/-- an instance at p, its tuple at t holds the names zs -/
structure PathAt (C : Addr) (H : Hp) (p t : Addr) (zs : List Str) : Prop where
  ob : ∃ dx, H p = some (.ins C dx (fNames t))
  tu : H t = some (.tup (zs.map V.str))
theorem PathAt.same {C : Addr} {H H' : Hp} {p t : Addr} {zs : List Str} (h : PathAt C H p t zs) (s : Same H H') : PathAt C H' p t zs :=
  ⟨let ⟨dx, e⟩ := h.ob; ⟨dx, s _ _ e⟩, s _ _ h.tu⟩
/-- what is wrong with a list of walkers: seen ones, those to come -/
def scan : List V → List V → Option Nat
  | seen, [] => if seen.length < 2 then some seen.length else none
  | seen, x :: r => if (nameV x && !decide (x ∈ seen)) = true then scan (seen ++ [x]) r else some seen.length
def wrongIx (xs : List V) : Option Nat := scan [] xs
theorem scan_good {seen r : List V} {x : V} (h1 : nameV x = true) (h2 : x ∉ seen) : scan seen (x :: r) = scan (seen ++ [x]) r := by
  show (if _ then _ else _) = _
  rw [h1, decide_eq_false h2]
  rfl
theorem scan_bad1 {seen r : List V} {x : V} (h1 : nameV x = false) : scan seen (x :: r) = some seen.length := by
  show (if _ then _ else _) = _
  rw [h1]
  rfl
theorem scan_bad2 {seen r : List V} {x : V} (h2 : x ∈ seen) : scan seen (x :: r) = some seen.length := by
  show (if _ then _ else _) = _
  rw [decide_eq_true h2, Bool.not_true, Bool.and_false]
  rfl
theorem drop_at {α : Type} {l : List α} {i : Nat} {x : α} (h : l[i]? = some x) : l.drop i = x :: l.drop (i + 1) := by
  obtain ⟨h1, h2⟩ := List.getElem?_eq_some_iff.mp h
  rw [List.drop_eq_getElem_cons h1, h2]
theorem seqL_keep {K : PySem.W.Frag} {H H' : Hp} {a d : Addr} {xs : List V} (q : SqL K H a xs) (h : a ≠ d) (sm : ∀ b o, b ≠ d → H b = some o → H' b = some o) : SqL K H' a xs := by
  rcases q with (q | ⟨o, q⟩) | q
  · exact .inl (.inl (sm _ _ h q))
  · exact .inl (.inr ⟨o, sm _ _ h q⟩)
  · exact .inr q
theorem seqT_keep {K : PySem.W.Frag} {H H' : Hp} {a d : Addr} {xs : List V} (q : SqT K H a xs) (h : a ≠ d) (sm : ∀ b o, b ≠ d → H b = some o → H' b = some o) : SqT K H' a xs := by
  rcases q with (q | ⟨o, q⟩) | q
  · exact .inl (.inl (sm _ _ h q))
  · exact .inl (.inr ⟨o, sm _ _ h q⟩)
  · exact .inr q
/-- a list or a tuple -/
def SeqAt2 (H : Hp) (a : Addr) (xs : List V) (k : Kd) : Prop := (H a = some (.lst xs) ∧ k = .list) ∨ (H a = some (.tup xs) ∧ k = .tup)
theorem SeqAt2.same {H H' : Hp} {a : Addr} {xs : List V} {k : Kd} (h : SeqAt2 H a xs k) (s : Same H H') : SeqAt2 H' a xs k := h.elim (fun e => .inl ⟨s _ _ e.1, e.2⟩) fun e => .inr ⟨s _ _ e.1, e.2⟩
theorem SeqAt2.th {K : PySem.W.Frag} {H : Hp} {a : Addr} {xs : List V} {k : Kd} (h : SeqAt2 H a xs k) : Th K H (.ref a) k ∧ k.isSeq = true := by
  rcases h with ⟨e, rfl⟩ | ⟨e, rfl⟩
  · exact ⟨.lst e, rfl⟩
  · exact ⟨.tup e, rfl⟩
/-- what Path(v) does: v a list or a tuple of things xs (wrongIx tells), or a thing that is none -/
def spInit (K : PySem.W.Frag) (C CB : Addr) : Sp := fun vs H Q E => ∃ (p dx : Addr) (v : V) (k : Kd), vs = [.ref p, v] ∧ H p = some (.ins C dx []) ∧ Th K H v k ∧
  (k.isSeq = false → ∀ d H', Same H H' → H' d = some (.xd [("index", .int 0)]) → E (.ref CB) (some d) H') ∧
  (k.isSeq = true → ∃ a xs, v = .ref a ∧ SeqAt2 H a xs k ∧ xs.length ≤ 1000 ∧ (∀ x ∈ xs, ∃ kx, Th K H x kx) ∧
    (∀ i, wrongIx xs = some i → ∀ d H', Same H H' → H' d = some (.xd [("index", .int i)]) → E (.ref CB) (some d) H') ∧
    (wrongIx xs = none → ∀ zs t H', xs = zs.map V.str → PathAt C H' p t zs → (∀ b o, H b = some o → b ≠ p → H' b = some o) → Q .non H'))
theorem val_names : ∀ {zs : List Str} {z : Str}, (valV (zs.map fun z => ((Sum.inr z : Key), V.bl true)) (Sum.inr z : Key)).isSome = decide (V.str z ∈ zs.map V.str)
  | [], z => rfl
  | y :: r, z => by
    rw [List.map_cons, List.map_cons]
    by_cases e : y = z
    · subst e
      rw [valV_pos rfl]
      simp
    · rw [valV_neg (fun q => e (Sum.inr.inj q)), val_names (zs := r)]
      have e' : ¬ z = y := fun q => e q.symm
      simp [e']
section
variable {P : Program} {w : World} {K : PySem.W.Frag} {mg : Str → Option Value} {base : Heap} {C CB fB : Addr}
theorem scInit : FnScope ["self", "walkers", "met", "index", "name"] ["self", "walkers"] (defScope sInit) := ⟨rfl, rfl, rfl, by decide +kernel, rfl, by decide +kernel, by decide +kernel⟩
theorem ok_init {f fL fN : Addr} {fd fdL fdN : FuncData} (F : Fun K "__init__" "Path.__init__" sInit f fd) (B : B0 K mg) (T : PT0 P K mg C CB fB)
    (FL : Fun K "is_list" "is_list" sIsList fL fdL) (bL : Binds K fdL ["thing"] []) (gL : mg "is_list" = some (.ref fL)) (FN : Fun K "is_name" "is_name" sIsName fN fdN) (bN : Binds K fdN ["thing"] []) (gN : mg "is_name" = some (.ref fN)) :
    FnOk P w K mg base (L2.CX P w) 2 f fd ["self", "walkers"] (spInit K C CB) := by
  have GL : FnOk P w K mg base CX0 1 fL fdL ["thing"] (spIsList K) := ok_isList FL B
  have GN : FnOk P w K mg base CX0 1 fN fdN ["thing"] (spIsName K) := ok_isName FN B
  refine F.okX scInit (fun vs H Q E h => ?_) (fun cdv A outer s H vs Q E hr h => ?_)
  · obtain ⟨p, dx, v, k, rfl, _⟩ := h
    rfl
  · obtain ⟨p, dx, v, k, rfl, hp, ht, k1, k2⟩ := h
    have hu := hu_of hr
    refine ⟨_, pss_cons (ps_if (pt_not (pt_val (pe_call GL hr (by rfl) gL FL.kp bL .nil pass0 (pa_cons (pv 1) pa_nil)))) (pss_one (ps_raiseX rfl T.bad T.gB hr (takes_of rfl rfl rfl rfl) (by exact (pa_cons pe_int pa_nil)))) pss_nil)
      (pss_cons (ps_set (i := 2) scInit.nd rfl (Or.inl rfl) pe_dnewK)
      (pss_cons (ps_for PassesOwn.leaving rfl (pi_enumA (by rfl) B.enum (pa_cons (pv 1) pa_nil)) (pg_tup rfl (pgs_cons (pg_name (i := 3) scInit.nd rfl (Or.inl rfl)) (pgs_cons (pg_name (i := 4) scInit.nd rfl (Or.inl rfl)) pgs_nil)))
        (pss_cons (ps_if (PW.pt (pw_or (pt_not (pt_val (pe_call GN hr (by rfl) gN FN.kp bN .nil pass0 (pa_cons (pv 4) pa_nil)))) (pw_or1 (pt_cmp (pc_din hu (pv 4) (pv 2)))))) (pss_one (ps_raiseX rfl T.bad T.gB hr (takes_of rfl rfl rfl rfl) (by exact (pa_cons (pv 3) pa_nil)))) pss_nil)
          (pss_one (ps_dput hu (pv 2) (pv 4) pe_bl rfl))))
      (pss_cons (ps_if (pt_cmpR op_lt (pe_callB call_lenD (by rfl) B.len PySem.boot_len (pa_cons (pv 2) pa_nil)) pe_int (nomark _)) (pss_one (ps_raiseX rfl T.bad T.gB hr (takes_of rfl rfl rfl rfl) (by exact (pa_cons (pe_callB call_lenD (by rfl) B.len PySem.boot_len (pa_cons (pv 2) pa_nil)) pa_nil)))) pss_nil)
      (pss_one (ps_fld (pv 0) (pe_callTy (call_tuple_dK rfl) (by rfl) B.tuple (by decide +kernel) (pa_cons (pv 2) pa_nil)) rfl))))), ?_⟩
    -- if not is_list(walkers): raise BadWalkers(0)
    refine ⟨_, rfl, v, k, rfl, ht, fun H1 s1 => ⟨k.isSeq, rfl, ?_⟩⟩
    cases hk : k.isSeq with
    | false =>
      refine iteT ?_
      exact ⟨_, rfl, fun d hd => k1 hk d _ (s1.trans (same_upd hd)) upd_same⟩
    | true =>
      refine iteF ?_
      obtain ⟨a, xs, rfl, hsq, hlen, hth, kbad, kgood⟩ := k2 hk
      -- met = {}
      intro d hd
      have s2 : Same H (upd H1 d (.dK [])) := s1.trans (same_upd hd)
      have npd : p ≠ d := ne_of_none (s1 _ _ hp) hd
      -- for index, name in enumerate(walkers)
      have hnd : ∀ {b : Addr} {o : HO}, H b = some o → b ≠ d := fun e => ne_of_none (s1 _ _ e) hd
      have hq0 : SqL K (upd H1 d (.dK [])) a xs ∨ SqT K (upd H1 d (.dK [])) a xs := hsq.elim (fun e => .inl (SqL.of (s2 _ _ e.1))) fun e => .inr (SqT.of (s2 _ _ e.1))
      have had : a ≠ d := hsq.elim (fun e => hnd e.1) fun e => hnd e.1
      refine ⟨_, rfl, a, xs, rfl, for_enumA hq0 (fun i σ H' => ∃ (w3 w4 : Option V) (zs : List Str), σ = [some (.ref p), some (.ref a), some (.ref d), w3, w4] ∧ xs.take i = zs.map V.str ∧ wrongIx xs = scan (xs.take i) (xs.drop i) ∧
            H' d = some (.dK (zs.map fun z => ((Sum.inr z : Key), V.bl true))) ∧ ∀ b o, b ≠ d → (upd H1 d (.dK [])) b = some o → H' b = some o) ⟨none, none, [], rfl, rfl, rfl, upd_same, fun b o _ e => e⟩ (fun q i σ' H' ⟨_, _, zs, _, _, _, _, sm⟩ => ?_) (fun q i σ' H' ⟨_, _, zs, _, _, _, _, sm⟩ => ?_) ?_ ?_⟩
      · exact seqL_keep q had sm
      · exact seqT_keep q had sm
      · rintro i y T σ H' hy ⟨w3, w4, zs, rfl, htk, hsc, hdk, sm⟩ hT
        have hym : y ∈ xs := List.mem_of_getElem? hy
        obtain ⟨ky, hky⟩ := hth y hym
        have sm' : Same H H' := fun b o e => sm b o (hnd e) (s2 b o e)
        have smT : Same H' (upd H' T (.tup [.int (i : Nat), y])) := same_upd hT
        have hdT : (upd H' T (.tup [.int (i : Nat), y])) d = some (.dK (zs.map fun z => ((Sum.inr z : Key), V.bl true))) := smT _ _ hdk
        have hlen_i : (xs.take i).length = i := by
          rw [List.length_take]
          have := (List.getElem?_eq_some_iff.mp hy).1
          omega
        refine ⟨T, _, rfl, SqT.of upd_same, rfl, _, _, rfl, _, _, rfl, rfl, ?_⟩
        -- if not is_name(name) or name in met: raise BadWalkers(index)
        refine ⟨_, rfl, y, ky, rfl, (hky.same sm').same smT, fun H2 sm2 => ⟨nameV y, rfl, ?_⟩⟩
        have hall : Same H H2 := fun b o e => sm2 b o (smT b o (sm' b o e))
        cases hn : nameV y with
        | false =>
          have hw : wrongIx xs = some i := by rw [hsc, drop_at hy, scan_bad1 hn, hlen_i]
          refine iteT (iteT ?_)
          exact ⟨_, rfl, _, rfl, fun d2 hd2 => kbad i hw d2 _ (hall.trans (same_upd hd2)) upd_same⟩
        | true =>
          refine iteF ?_
          obtain ⟨z, rfl⟩ : ∃ z, y = .str z := by
            cases y <;> first | exact ⟨_, rfl⟩ | cases hn
          refine ⟨_, rfl, _, rfl, d, _, rfl, DGet.k (k := Sum.inr z) (sm2 _ _ hdT), _, rfl, ?_⟩
          rw [val_names]
          refine ite2 (fun hin => ?_) (fun hin => ?_)
          · have hin' : V.str z ∈ zs.map V.str := of_decide_eq_true hin
            have hw : wrongIx xs = some i := by rw [hsc, drop_at hy, scan_bad2 (by rw [htk]; exact hin'), hlen_i]
            exact ⟨_, rfl, _, rfl, fun d2 hd2 => kbad i hw d2 _ (hall.trans (same_upd hd2)) upd_same⟩
          · have hin' : V.str z ∉ zs.map V.str := fun q => hin (decide_eq_true q)
            have hnone : valV (zs.map fun z => ((Sum.inr z : Key), V.bl true)) (Sum.inr z : Key) = none := by
              have q := val_names (zs := zs) (z := z)
              rw [decide_eq_false hin'] at q
              simpa using q
            have hzl : zs.length = i := by
              have := congrArg List.length htk
              rw [hlen_i, List.length_map] at this
              exact this.symm
            have hi1 : i < xs.length := (List.getElem?_eq_some_iff.mp hy).1
            refine ⟨_, rfl, _, rfl, d, _, rfl, DPut.k (k := Sum.inr z) (sm2 _ _ hdT) (small1000 (by rw [List.length_map, hzl]; omega)), ?_⟩
            refine ⟨_, _, zs ++ [z], rfl, ?_, ?_, ?_, fun b o hb e => ?_⟩
            · rw [take_more hy, htk, List.map_append]; rfl
            · rw [hsc, drop_at hy, scan_good hn (by rw [htk]; exact hin'), take_more hy]
            · rw [upd_same, putK_new _ hnone, List.map_append]; rfl
            · rw [upd_ne hb]
              exact sm2 _ _ (smT _ _ (sm b o hb e))
      · rintro σ H' ⟨w3, w4, zs, rfl, htk, hsc, hdk, sm⟩
        rw [List.take_length] at htk hsc
        rw [List.drop_length] at hsc
        have sm' : Same H H' := fun b o e => sm b o (hnd e) (s2 b o e)
        have hl : zs.length = xs.length := by rw [htk, List.length_map]
        -- if len(met) < 2: raise BadWalkers(len(met))
        refine ⟨_, rfl, d, _, rfl, hdk, _, _, rfl, rfl, _, rfl, ?_⟩
        rw [List.length_map]
        refine ite2 (fun h2 => ?_) (fun h2 => ?_)
        · have h2' : xs.length < 2 := by have := of_decide_eq_true h2; omega
          have hw : wrongIx xs = some xs.length := by
            rw [hsc]
            show (if _ then _ else _) = _
            rw [if_pos h2']
          refine ⟨_, rfl, d, _, rfl, hdk, _, rfl, fun d2 hd2 => kbad _ hw d2 _ (sm'.trans (same_upd hd2)) ?_⟩
          rw [upd_same, List.length_map, hl]
        · have h2' : ¬ xs.length < 2 := fun q => h2 (decide_eq_true (by omega))
          have hw : wrongIx xs = none := by
            rw [hsc]
            show (if _ then _ else _) = _
            rw [if_neg h2']
          -- self._names = tuple(met)
          refine ⟨_, rfl, d, _, rfl, hdk, fun t ht' => ?_⟩
          have hpt : p ≠ t := ne_of_none (sm' _ _ hp) ht'
          refine ⟨_, rfl, p, C, dx, _, rfl, by rw [upd_ne hpt]; exact sm' _ _ hp, T.cl, T.nN, (by show 0 < 1000; decide), ?_⟩
          refine kgood hw zs t _ htk ⟨⟨dx, upd_same⟩, ?_⟩ fun b o e hb => ?_
          · rw [upd_ne (Ne.symm hpt), upd_same, List.map_map]; rfl
          · rw [upd_ne hb, upd_ne (ne_of_none (sm' b o e) ht')]
            exact sm' b o e
end
end RK

namespace RK
open PySem L2
/-- what isinstance and == ask of the class -/
structure PT1 (K : PySem.W.Frag) (C fE : Addr) : Prop where
  cls1 : PySem.W.findIn K (.ref C) "__class__" = some (some (.builtin "object.__class__"))
  spec : PySem.W.specialIn K (.builtin "object.__class__") "__get__" = some (some (.builtin "getset_descriptor.__get__"))
  tak : PySem.W.takesIn K (.builtin "object.__class__") = some true
  mo : PySem.W.mroIn K C (.type "object") = some true
  isC : ((PySem.W.clsIn K C).isSome && PySem.W.typeIn K (.ref C) == some (.type "type")) = true
  eqF : PySem.W.findIn K (.ref C) "__eq__" = some (some (.ref fE))
  eqI : PySem.W.isFn K (.ref fE) = true
  neF : PySem.W.findIn K (.ref C) "__ne__" = some (some (.builtin "object.__ne__"))
theorem sub_no {K : PySem.W.Frag} {C : Addr} (k : Kd) : PySem.W.subIn K (.type k.nm) (.ref C) = some false := by
  cases k <;> rfl
theorem kit_no {K : PySem.W.Frag} {C fE : Addr} (T : PT1 K C fE) (k : Kd) : PySem.W.kitOne K (.type k.nm) (.ref C) = some false := by
  show (if (Value.type k.nm == Value.ref C) = true then some true else PySem.W.kitCls K (.type k.nm) (.ref C)) = some false
  rw [if_neg (by intro h; cases h)]
  show (if _ then _ else _) = some false
  rw [if_pos T.isC]
  exact sub_no k
theorem kit_yes {K : PySem.W.Frag} {C : Addr} : PySem.W.kitOne K (.ref C) (.ref C) = some true := by
  show (if (Value.ref C == Value.ref C) = true then some true else _) = some true
  rw [if_pos (by simp)]
theorem notFirst_k {K : PySem.W.Frag} {C : Addr} (k : Kd) : PySem.W.notFirst K C (.type k.nm) = true := by
  unfold PySem.W.notFirst
  rw [sub_no k]
  simp
theorem PathAt.ty {P : Program} {K : PySem.W.Frag} {mg : Str → Option Value} {C CB fB fE : Addr} {H : Hp} {p t : Addr} {zs : List Str} (T : PT0 P K mg C CB fB) (T1 : PT1 K C fE) (h : PathAt C H p t zs) : TyZ K H (.ref p) (.ref C) := by
  obtain ⟨dx, e⟩ := h.ob
  exact .x (.base (.ins e T.cl T1.cls1 T1.spec T1.tak T1.mo))
/-! ### names -/
def Nm (zs : List Str) : Prop := ∀ z ∈ zs, nameB z = true
theorem laterC_small : ∀ c ∈ laterC, c < 0x110000 := by decide +kernel
theorem name_all {z : Str} (h : nameB z = true) : (z.cps.toList.all fun c => decide (c ∈ laterC)) = true := by
  unfold nameB at h
  exact (Bool.and_eq_true_iff.mp h).2
theorem name_short {z : Str} (h : nameB z = true) : z.length ≤ 8 := by
  unfold nameB at h
  have h1 := (Bool.and_eq_true_iff.mp (Bool.and_eq_true_iff.mp (Bool.and_eq_true_iff.mp h).1).1).2
  exact of_decide_eq_true h1
theorem name_ok {z : Str} (h : nameB z = true) : PyData.strOk z = true := by
  have q := List.all_eq_true.mp (name_all h)
  unfold PyData.strOk
  rw [← Array.all_toList, List.all_eq_true]
  intro c hc
  exact decide_eq_true (laterC_small c (of_decide_eq_true (q c hc)))
theorem shaped_strs {zs : List Str} (h : Nm zs) : SeqAt.shaped (.tuple (zs.map PyData.str)) = true := by
  have k1 : ∀ l : List Str, Nm l → PyData.canLayAll0 (l.map PyData.str) = true := by
    intro l
    induction l with
    | nil => intro _; rw [List.map_nil, PyData.canLayAll0]
    | cons z r ih =>
      intro h
      rw [List.map_cons, PyData.canLayAll0, ih fun y hy => h y (List.mem_cons_of_mem _ hy), PyData.canLay0, name_ok (h z List.mem_cons_self)]
      rfl
  have k2 : ∀ l : List Str, PyData.depthAll (l.map PyData.str) = 0 := by
    intro l
    induction l with
    | nil => rw [List.map_nil, PyData.depthAll]
    | cons z r ih => rw [List.map_cons, PyData.depthAll, ih, PyData.depth]; rfl
  unfold SeqAt.shaped
  rw [PyData.canLay0, k1 zs h, PyData.depth, k2]
  rfl
/-! ### path.walkers() and == -/
def spWalkers (C : Addr) : Sp := fun vs H Q _ => ∃ (p t : Addr) (zs : List Str), vs = [.ref p] ∧ PathAt C H p t zs ∧ ∀ l, H l = none → Q (.ref l) (upd H l (.lst (zs.map V.str)))
def spEq (K : PySem.W.Frag) (C : Addr) : Sp := fun vs H Q _ => ∃ (p t : Addr) (zs : List Str) (v : V), vs = [.ref p, v] ∧ PathAt C H p t zs ∧ Nm zs ∧
  ((∃ k, Th K H v k ∧ Q (.bl false) H) ∨ ∃ (p2 t2 : Addr) (ys : List Str), v = .ref p2 ∧ PathAt C H p2 t2 ys ∧ Nm ys ∧ Q (.bl (decide (zs = ys))) H)
theorem dpAll_strs {K : PySem.W.Frag} {H : Hp} : ∀ zs : List Str, DpAll K H (zs.map V.str) (zs.map PyData.str)
  | [] => .nil
  | z :: r => .cons (.str z) (dpAll_strs r)
theorem beq_dec (z y : Str) : (z == y) = decide (z = y) := by
  by_cases e : z = y
  · subst e
    simp
  · rw [decide_eq_false e]
    simpa using e
theorem eqv_strs : ∀ zs ys : List Str, PyData.eqv (.tuple (zs.map PyData.str)) (.tuple (ys.map PyData.str)) = decide (zs = ys) := by
  have key : ∀ zs ys : List Str, PyData.eqvAll (zs.map PyData.str) (ys.map PyData.str) = decide (zs = ys) := by
    intro zs
    induction zs with
    | nil => intro ys; cases ys <;> simp [PyData.eqvAll]
    | cons z r ih =>
      intro ys
      cases ys with
      | nil => simp [PyData.eqvAll]
      | cons y t =>
        rw [List.map_cons, List.map_cons, PyData.eqvAll, ih t]
        have e1 : PyData.eqv (PyData.str z) (PyData.str y) = decide (z = y) := by rw [PyData.eqv]; exact beq_dec z y
        rw [e1]
        simp
  intro zs ys
  rw [PyData.eqv]
  exact key zs ys
section
variable {P : Program} {w : World} {K : PySem.W.Frag} {mg : Str → Option Value} {base : Heap} {C CB fB fE : Addr}
theorem scWalkers : FnScope ["self"] ["self"] (defScope sWalkers) := ⟨rfl, rfl, rfl, by decide +kernel, rfl, by decide +kernel, by decide +kernel⟩
theorem ok_walkers {f : Addr} {fd : FuncData} (F : Fun K "walkers" "Path.walkers" sWalkers f fd) (B : B0 K mg) (T : PT0 P K mg C CB fB) : FnOk P w K mg base CX0 1 f fd ["self"] (spWalkers C) := by
  refine F.ok scWalkers (fun vs H Q E h => ?_) (fun cdv A outer s H vs Q E hr h => ?_)
  · obtain ⟨p, t, zs, rfl, _⟩ := h
    rfl
  · obtain ⟨p, t, zs, rfl, hp, k⟩ := h
    obtain ⟨dx, ho⟩ := hp.ob
    refine ⟨_, pss_one (ps_ret (pe_callTy call_list_of (by rfl) B.list (by decide +kernel) (pa_cons (pe_fld (pv 0) rfl) pa_nil))), ?_⟩
    exact ⟨_, rfl, p, C, dx, _, _, rfl, ho, T.cl, T.nN, fNames_get t, t, _, rfl, .inr (SqT.of hp.tu), k⟩
theorem scEq : FnScope ["self", "other"] ["self", "other"] (defScope sEq) := ⟨rfl, rfl, rfl, by decide +kernel, rfl, by decide +kernel, by decide +kernel⟩
theorem ok_eq {f : Addr} {fd : FuncData} (F : Fun K "__eq__" "Path.__eq__" sEq f fd) (B : B0 K mg) (T : PT0 P K mg C CB fB) (T1 : PT1 K C fE) : FnOk P w K mg base CX0 1 f fd ["self", "other"] (spEq K C) := by
  refine F.ok scEq (fun vs H Q E h => ?_) (fun cdv A outer s H vs Q E hr h => ?_)
  · obtain ⟨p, t, zs, v, rfl, _⟩ := h
    rfl
  · obtain ⟨p, t, zs, v, rfl, hp, hl, k⟩ := h
    obtain ⟨dx, ho⟩ := hp.ob
    refine ⟨_, pss_one (ps_ret (pe_and (pe_callB call_isiZ (by rfl) B.isi (by decide +kernel) (pa_cons (pv 1) (pa_cons (pe_glob (v := .ref C) (by rfl) T.mgC rfl) pa_nil)))
      (pe_one (pe_cmpR (op_eqD hr.units) (pe_fld (pv 0) rfl) (pe_fld (pv 1) rfl) (nomark _))))), ?_⟩
    rcases k with ⟨kd, ht, q⟩ | ⟨p2, t2, ys, rfl, hp2, hn2, q⟩
    · refine ⟨_, rfl, v, .ref C, _, .ref C, false, rfl, .own C, ht.ty, kit_no T1 kd, false, rfl, ?_⟩
      exact iteF q
    · refine ⟨_, rfl, .ref p2, .ref C, _, .ref C, true, rfl, .own C, hp2.ty T T1, kit_yes, true, rfl, ?_⟩
      refine iteT ?_
      obtain ⟨dy, ho2⟩ := hp2.ob
      refine ⟨_, rfl, p, C, dx, _, _, rfl, ho, T.cl, T.nN, fNames_get t, _, rfl, p2, C, dy, _, _, rfl, ho2, T.cl, T.nN, fNames_get t2, _, _, .tup (SqT.of hp.tu) (dpAll_strs zs), .tup (SqT.of hp2.tu) (dpAll_strs ys), ?_, ?_, ?_⟩
      · exact shaped_strs hl
      · exact shaped_strs hn2
      · rw [eqv_strs]
        exact q
end
end RK

namespace RK
open PySem L2
/-! ### draws -/
def SpOk (m : Nat) (o : HO) : Prop := ∃ x y c : Int, o = .lst [.int x, .int y, .int c] ∧ 0 ≤ y ∧ y < 2147483648 ∧ 0 ≤ c ∧ c ≤ (m : Int)
def SpAt (H : Hp) (a : Addr) (m : Nat) : Prop := ∃ o, H a = some o ∧ SpOk m o
theorem SpOk.mono {m n : Nat} {o : HO} (h : SpOk m o) (e : m ≤ n) : SpOk n o := by
  obtain ⟨x, y, c, h1, h2, h3, h4, h5⟩ := h
  exact ⟨x, y, c, h1, h2, h3, h4, by omega⟩
def spDraw : Sp := fun vs H Q _ => ∃ (a : Addr) (n : Int) (m : Nat), vs = [.ref a, .int n] ∧ 0 < n ∧ n < 100000000000000000 ∧ SpAt H a m ∧ m < 4000000000 ∧ ∀ r o, 0 ≤ r → r < n → SpOk (m + 1) o → Q (.int r) (upd H a o)
theorem fmod_range {i n : Int} (h : 0 < n) : 0 ≤ i.fmod n ∧ i.fmod n < n := by
  rw [Int.fmod_eq_emod_of_nonneg _ (Int.le_of_lt h)]
  exact ⟨Int.emod_nonneg _ (by omega), Int.emod_lt_of_pos _ h⟩
section
variable {P : Program} {w : World} {K : PySem.W.Frag} {mg : Str → Option Value} {base : Heap}
theorem scDraw : FnScope ["spring", "many", "digit", "mixed"] ["spring", "many"] (defScope sDraw) := ⟨rfl, rfl, rfl, by decide +kernel, rfl, by decide +kernel, by decide +kernel⟩
theorem ok_draw {f : Addr} {fd : FuncData} (F : Fun K "_law_draw" "_law_draw" sDraw f fd) (B : B0 K mg) : FnOk P w K mg base CX0 1 f fd ["spring", "many"] spDraw := by
  refine F.ok scDraw (fun vs H Q E h => ?_) (fun cdv A outer s H vs Q E hr h => ?_)
  · obtain ⟨a, n, m, rfl, _⟩ := h
    rfl
  · obtain ⟨a, n, m, rfl, hn, hn2, ⟨o, ho, x, y, c, rfl, hy0, hy1, hc0, hc1⟩, hm, k⟩ := h
    refine ⟨_, pss_cons (ps_if (pt_cmpR op_gt (pe_ix ix_list (pv 0) pe_int (fun _ _ => rfl)) pe_int (nomark _))
        (pss_cons (ps_set (i := 2) scDraw.nd rfl (Or.inl rfl) (pe_op op_modN (pe_callTy call_int1 (by rfl) B.int (by decide +kernel) (pa_cons (pe_ix ix_list (pv 0) pe_int (fun _ _ => rfl)) pa_nil)) (pv 1)))
        (pss_cons (ps_asg (pe_op op_fdivW (pe_ix ix_list (pv 0) pe_int (fun _ _ => rfl)) (pv 1)) (pg_sub (pv 0) pe_int set_list))
        (pss_one (ps_ret (pv 2))))) pss_nil)
      (pss_cons (ps_asg (pe_op op_add (pe_ix ix_list (pv 0) pe_int (fun _ _ => rfl)) pe_int) (pg_sub (pv 0) pe_int set_list))
      (pss_cons (ps_set (i := 3) scDraw.nd rfl (Or.inl rfl) (pe_op op_mod (pe_op op_pow (pe_callTy call_int1 (by rfl) B.int (by decide +kernel) (pa_cons (pe_op op_add (pe_op op_add (pe_ix ix_list (pv 0) pe_int (fun _ _ => rfl)) (pe_op op_mul pe_int (pe_ix ix_list (pv 0) pe_int (fun _ _ => rfl)))) pe_int) pa_nil)) pe_int) pe_int))
      (pss_one (ps_ret (pe_op op_modN (pe_op op_fdiv (pe_op op_mod (pe_op op_pow (pe_callTy call_int1 (by rfl) B.int (by decide +kernel) (pa_cons (pe_op op_add (pe_op op_mul (pv 3) pe_int) (pe_op op_mul pe_int (pe_ix ix_list (pv 0) pe_int (fun _ _ => rfl)))) pa_nil)) pe_int) pe_int) pe_int) (pv 1)))))), ?_⟩
    -- if spring[0] > 0
    refine ⟨_, rfl, a, _, 0, _, rfl, rfl, SqL.of ho, atI_nat (j := 0) rfl, _, _, rfl, rfl, _, rfl, ?_⟩
    refine ite2 (fun hx => ?_) (fun hx => ?_)
    · have hx' : 0 < x := of_decide_eq_true hx
      refine ⟨_, rfl, a, _, 0, _, rfl, rfl, SqL.of ho, atI_nat (j := 0) rfl, .inl ⟨_, rfl, _, rfl, _, _, rfl, rfl, by omega, ?_⟩⟩
      refine ⟨_, rfl, a, _, 0, _, rfl, rfl, SqL.of ho, atI_nat (j := 0) rfl, _, rfl, _, _, rfl, rfl, wide_div (b := 60) hn (by omega) (by decide) (by decide), ?_⟩
      refine ⟨_, rfl, a, _, 0, 0, rfl, rfl, ho, by rfl, ?_⟩
      exact ⟨_, rfl, k _ _ (fmod_range hn).1 (fmod_range hn).2 ⟨_, y, c, rfl, hy0, hy1, hc0, by omega⟩⟩
    · refine ⟨_, rfl, a, _, 2, _, rfl, rfl, SqL.of ho, atI_nat (j := 2) rfl, _, _, rfl, rfl, ?_⟩
      refine ⟨_, rfl, a, _, 2, 2, rfl, rfl, ho, by rfl, ?_⟩
      have ho2 : (upd H a (.lst [.int x, .int y, .int (c + 1)])) a = some (.lst [.int x, .int y, .int (c + 1)]) := upd_same
      have b1 : (y + 6364137 * (c + 1) + 1442695).natAbs < 2 ^ 64 := by omega
      refine ⟨_, rfl, a, _, 1, _, rfl, rfl, SqL.of ho2, atI_nat (j := 1) rfl, _, rfl, a, _, 2, _, rfl, rfl, SqL.of ho2, atI_nat (j := 2) rfl, _, _, rfl, rfl, .inl ⟨by decide, by decide⟩, _, _, rfl, rfl, _, _, rfl, rfl, ?_⟩
      refine .inl ⟨_, rfl, _, _, rfl, rfl, ⟨by decide, by decide, b1⟩, _, _, rfl, rfl, (by show (0 : Int) < 2147483647; decide), ?_⟩
      have hb : ∀ z : Int, 0 ≤ z % 2147483647 ∧ z % 2147483647 < 2147483647 ∧ (z % 2147483647 * 48271 + 11 * (c + 1)).natAbs < 2 ^ 64 := fun z => by omega
      obtain ⟨b3, b4, b2⟩ := hb ((y + 6364137 * (c + 1) + 1442695) ^ Int.toNat 3)
      refine ⟨_, rfl, _, _, rfl, rfl, .inl ⟨Int.lt_of_lt_of_le (by decide) b3, Int.lt_trans b4 (by decide)⟩, _, rfl, a, _, 2, _, rfl, rfl, SqL.of ho2, atI_nat (j := 2) rfl, _, _, rfl, rfl, .inl ⟨by decide, by decide⟩, _, _, rfl, rfl, ?_⟩
      refine .inl ⟨_, rfl, _, _, rfl, rfl, ⟨by decide, by decide, b2⟩, _, _, rfl, rfl, (by show (0 : Int) < 2147483629; decide), _, _, rfl, rfl, ⟨by decide, by decide⟩, _, rfl, _, _, rfl, rfl, by omega, ?_⟩
      exact k _ _ (fmod_range hn).1 (fmod_range hn).2 ⟨x, y, c + 1, rfl, hy0, hy1, by omega, by omega⟩
end
end RK

namespace RK
open PySem L2
theorem seqIx {j n : Nat} (h : j < n) : seqIndex? (j : Int) n = some j := by
  rw [PySem.seqIndex_of (by omega) (by omega)]
  rfl
theorem perm_erase {α : Type} : ∀ {l : List α} {j : Nat} (h : j < l.length), ([l[j]] ++ l.eraseIdx j).Perm l
  | [], j, h => by simp at h
  | x :: r, 0, h => List.Perm.refl _
  | x :: r, j + 1, h => by
    have hj : j < r.length := by simpa using h
    have ih := perm_erase (l := r) (j := j) hj
    exact (List.Perm.swap x (r[j]'hj) (r.eraseIdx j)).trans (List.Perm.cons x ih)
def rLenS (K : PySem.W.Frag) : List V → Hp → VK → Prop := fun xs H Q => ∃ p ys, xs = [.ref p] ∧ (SqL K H p ys ∨ SqT K H p ys) ∧ Q (.int ys.length) H
theorem call_lenS {X : Cx} : CallR X (.builtin "len") (rLenS X.K) := call_len_seq
theorem mtr_popAt {X : Cx} : MtR X "list.pop" rPopAt := mt_popAt
/-- all but the object at a stand as they stood -/
def But (a : Addr) (H H' : Hp) : Prop := ∀ b o, b ≠ a → H b = some o → H' b = some o
theorem But.trans {a : Addr} {H H1 H2 : Hp} (x : But a H H1) (y : But a H1 H2) : But a H H2 := fun b o h e => y b o h (x b o h e)
theorem Same.but {a : Addr} {H H' : Hp} (s : Same H H') : But a H H' := fun b o _ e => s b o e
theorem But.upd {a : Addr} {H : Hp} {o : HO} : But a H (upd H a o) := fun b u h e => by rw [upd_ne h]; exact e
def spPick : Sp := fun vs H Q _ => ∃ (a l : Addr) (xs : List V) (m : Nat), vs = [.ref a, .ref l] ∧ a ≠ l ∧ SpAt H a m ∧ m < 4000000000 ∧ H l = some (.lst xs) ∧ 0 < xs.length ∧ xs.length ≤ 1000 ∧ ∀ v o, v ∈ xs → SpOk (m + 1) o → Q v (upd H a o)
def spMixed : Sp := fun vs H Q _ => ∃ (a l : Addr) (xs : List V) (m : Nat), vs = [.ref a, .ref l] ∧ a ≠ l ∧ SpAt H a m ∧ m < 3000000000 ∧ H l = some (.lst xs) ∧ xs.length ≤ 1000 ∧
  ∀ p ys H', ys.Perm xs → H p = none → H' p = some (.lst ys) → SpAt H' a (m + xs.length) → But a H H' → Q (.ref p) H'
section
variable {P : Program} {w : World} {K : PySem.W.Frag} {mg : Str → Option Value} {base : Heap}
theorem scPick : FnScope ["spring", "some"] ["spring", "some"] (defScope sPick) := ⟨rfl, rfl, rfl, by decide +kernel, rfl, by decide +kernel, by decide +kernel⟩
theorem ok_pick {f fD : Addr} {fd fdD : FuncData} (F : Fun K "_law_pick" "_law_pick" sPick f fd) (B : B0 K mg) (FD : Fun K "_law_draw" "_law_draw" sDraw fD fdD) (bD : Binds K fdD ["spring", "many"] []) (gD : mg "_law_draw" = some (.ref fD)) :
    FnOk P w K mg base CX0 2 f fd ["spring", "some"] spPick := by
  have GD : FnOk P w K mg base CX0 1 fD fdD ["spring", "many"] spDraw := ok_draw FD B
  refine F.ok scPick (fun vs H Q E h => ?_) (fun cdv A outer s H vs Q E hr h => ?_)
  · obtain ⟨a, l, xs, m, rfl, _⟩ := h
    rfl
  · obtain ⟨a, l, xs, m, rfl, hal, hsp, hm, hl, h0, h1, k⟩ := h
    refine ⟨_, pss_one (ps_ret (pe_ix ix_list (pv 1) (pe_call GD hr (by rfl) gD FD.kp bD .nil pass0 (pa_cons (pv 0) (pa_cons (pe_callB call_len_seq (by rfl) B.len PySem.boot_len (pa_cons (pv 1) pa_nil)) pa_nil))) (fun _ _ => rfl))), ?_⟩
    refine ⟨_, rfl, _, rfl, _, rfl, l, _, rfl, .inl (SqL.of hl), a, xs.length, m, rfl, by omega, by omega, hsp, hm, fun r o hr0 hr1 ho => ?_⟩
    obtain ⟨i, rfl⟩ : ∃ i : Nat, r = (i : Int) := ⟨r.toNat, by omega⟩
    have hi : i < xs.length := by omega
    refine ⟨l, xs, _, xs[i], rfl, rfl, SqL.of (by rw [upd_ne (Ne.symm hal)]; exact hl), atI_nat (by simp [hi]), k _ _ (List.getElem_mem hi) ho⟩
theorem scMixed : FnScope ["spring", "some", "left", "k"] ["spring", "some"] (defScope sMixed) := ⟨rfl, rfl, rfl, by decide +kernel, rfl, by decide +kernel, by decide +kernel⟩
theorem ok_mixed {f fD : Addr} {fd fdD : FuncData} (F : Fun K "_law_mixed" "_law_mixed" sMixed f fd) (B : B0 K mg) (FD : Fun K "_law_draw" "_law_draw" sDraw fD fdD) (bD : Binds K fdD ["spring", "many"] []) (gD : mg "_law_draw" = some (.ref fD)) :
    FnOk P w K mg base CX0 2 f fd ["spring", "some"] spMixed := by
  have GD : FnOk P w K mg base CX0 1 fD fdD ["spring", "many"] spDraw := ok_draw FD B
  refine F.ok scMixed (fun vs H Q E h => ?_) (fun cdv A outer s H vs Q E hr h => ?_)
  · obtain ⟨a, l, xs, m, rfl, _⟩ := h
    rfl
  · obtain ⟨a, l, xs, m, rfl, hal, hsp, hm, hl, h1, k⟩ := h
    refine ⟨_, pss_cons (ps_set (i := 2) scMixed.nd rfl (Or.inr rfl) (pe_callTy call_list_of (by rfl) B.list (by decide +kernel) (pa_cons (pv 1) pa_nil)))
      (pss_one (ps_ret (pe_lc (te := tBM K "list" rPopAt (tVar 2) (tCons (tCall spDraw [] E0 (tCons (tVar 0) (tCons (tCB (rLenS K) (tCons (tVar 2) tNil)) tNil))) tNil)) (own := [("k", 3)]) (g := gName 3) (tt := tYes) rfl scMixed.nd (pi_range1 (by rfl) B.range (pa_cons (pe_callB call_len_seq (by rfl) B.len PySem.boot_len (pa_cons (pv 2) pa_nil)) pa_nil)) (blkOk_by (N := ["spring", "some", "left", "k"]) (sc := defScope sMixed) (by decide +kernel))
        (fun _ _ _ _ _ => pg_name (i := 3) scMixed.nd rfl (Or.inl rfl)) (fun _ _ _ _ _ => pts_nil)
        (fun _ _ _ _ _ => by exact (pe_bm PySem.F.plainAttrs_list PySem.F.slot_list_pop PySem.F.type_list_pop mtr_popAt (pv 2) (pa_cons (by exact (pe_call GD hr (by rfl) gD FD.kp bD .nil pass0 (pa_cons (pv 0) (pa_cons (by exact (pe_callB call_lenS (by rfl) B.len PySem.boot_len (pa_cons (pv 2) pa_nil))) pa_nil)))) pa_nil)))))), ?_⟩
    -- left = list(some)
    refine ⟨_, rfl, l, xs, rfl, .inl (SqL.of hl), fun L hL => ?_⟩
    obtain ⟨osp, hosp, hok0⟩ := id hsp
    have naL : a ≠ L := ne_of_none hosp hL
    have s1 : Same H (upd H L (.lst xs)) := same_upd hL
    refine ⟨_, rfl, L, xs, rfl, .inl (SqL.of upd_same), xs.length, rfl, by omega, by omega, fun D hD => ?_⟩
    have nLD : L ≠ D := ne_of_none upd_same hD
    have naD : a ≠ D := ne_of_none (s1 _ _ hosp) hD
    refine lc_it (walk_range (lo := 0) (n := (xs.length : Int).toNat)) (fun i H' => ∃ (rest acc : List V), H' L = some (.lst rest) ∧ H' D = some (.lst acc) ∧ (acc ++ rest).Perm xs ∧ acc.length = i ∧ SpAt H' a (m + i) ∧ But a H H') ?_ (fun _ _ _ _ => True.intro) ?_ ?_
    · refine ⟨xs, [], by rw [upd_ne nLD, upd_same], upd_same, List.Perm.refl _, rfl, ⟨osp, ?_, hok0⟩, ?_⟩
      · rw [upd_ne naD]; exact s1 _ _ hosp
      · exact Same.but (s1.trans (same_upd hD))
    · rintro i x H1 H2 hi ⟨rest, acc, hr1, hd1, hperm, hacc, ⟨o1, ho1, hok1⟩, hbut⟩ ⟨rfl, rfl⟩
      have hlen : acc.length + rest.length = xs.length := by rw [← List.length_append]; exact hperm.length_eq
      have hi' : i < xs.length := by omega
      refine ⟨rfl, tyes ?_⟩
      have hpos : 0 < rest.length := by omega
      have hrL : L ≠ a := Ne.symm naL
      refine ⟨_, rfl, .inl ⟨rfl, _, SqL.of hr1⟩, _, rfl, _, rfl, L, rest, rfl, .inl (SqL.of hr1), a, rest.length, m + i, rfl, by omega, by omega, ⟨o1, ho1, hok1⟩, by omega, fun r o hr0 hr2 ho => ?_⟩
      obtain ⟨j, rfl⟩ : ∃ j : Nat, r = (j : Int) := ⟨r.toNat, by omega⟩
      have hj : j < rest.length := by omega
      refine ⟨L, rest, (j : Int), j, rest[j], rfl, rfl, by rw [upd_ne hrL]; exact hr1, by omega, by omega, seqIx hj, by simp [hj], ?_⟩
      refine ⟨acc, by rw [upd_ne (Ne.symm nLD), upd_ne (Ne.symm naD)]; exact hd1, Nat.lt_of_le_of_lt (show acc.length ≤ 1000 by omega) (by decide), rest.eraseIdx j, acc ++ [rest[j]], ?_, upd_same, ?_, ?_, ⟨o, ?_, ho.mono (by omega)⟩, ?_⟩
      · rw [upd_ne nLD, upd_same]
      · refine List.Perm.trans ?_ hperm
        rw [List.append_assoc]
        exact List.Perm.append_left acc (perm_erase hj)
      · rw [List.length_append, hacc]; rfl
      · rw [upd_ne naD, upd_ne naL, upd_same]
      · refine fun b u hb e => ?_
        rw [upd_ne (ne_of_none (s1 b u e) hD), upd_ne (ne_of_none e hL), upd_ne hb]
        exact hbut b u hb e
    · rintro H1 ⟨rest, acc, hr1, hd1, hperm, hacc, ho1, hbut⟩
      have hlen : acc.length + rest.length = xs.length := by rw [← List.length_append]; exact hperm.length_eq
      have hrest : rest = [] := by
        have : rest.length = 0 := by omega
        exact List.length_eq_zero_iff.mp this
      subst hrest
      rw [List.append_nil] at hperm
      have e : (xs.length : Int).toNat = xs.length := by omega
      rw [e] at ho1
      have hDn : H D = none := by
        cases q : H D with
        | none => rfl
        | some u => rw [s1 _ _ q] at hD; cases hD
      exact k D acc H1 hperm hDn hd1 ho1 hbut
end
end RK

namespace RK
open PySem L2
/-! ### the names drawn -/
def pool : List Str := ["b", "aa", "c1", "zz", "h9", "eightlet", "m", "q7", "x", "d4", "k", "ab3", "a", "t0", "u", "w2", "y", "e5", "g", "n"]
theorem pool_nodup : pool.Nodup := by decide +kernel
theorem pool_names : Nm pool := by unfold Nm pool; decide +kernel
def spNames : Sp := fun vs H Q _ => ∃ (a : Addr) (lo hi : Int) (m : Nat), vs = [.ref a, .int lo, .int hi] ∧ 0 ≤ lo ∧ lo ≤ hi ∧ hi ≤ 20 ∧ SpAt H a m ∧ m < 2000000000 ∧
  ∀ p (zs : List Str) H', zs.Nodup → (∀ z ∈ zs, z ∈ pool) → (zs.length : Int) ≤ hi → lo ≤ zs.length → H p = none → H' p = some (.lst (zs.map V.str)) → SpAt H' a (m + 21) → But a H H' → Q (.ref p) H'
def unStr : V → Str
  | .str z => z
  | _ => "b"
theorem perm_strs {ys : List V} {l : List Str} (h : ys.Perm (l.map V.str)) : ∃ zs : List Str, zs.Perm l ∧ ys = zs.map V.str := by
  refine ⟨ys.map unStr, ?_, ?_⟩
  · have q := h.map unStr
    rw [List.map_map] at q
    have e : (unStr ∘ V.str) = id := rfl
    rw [e, List.map_id] at q
    exact q
  · rw [List.map_map]
    have e : ∀ y ∈ ys, (V.str ∘ unStr) y = y := fun y hy => by
      obtain ⟨z, _, rfl⟩ := List.mem_map.mp (h.mem_iff.mp hy)
      rfl
    rw [List.map_congr_left e, List.map_id'']
    intro x
    rfl
section
variable {P : Program} {w : World} {K : PySem.W.Frag} {mg : Str → Option Value} {base : Heap}
theorem scNames : FnScope ["spring", "least", "most", "some"] ["spring", "least", "most"] (defScope sNames) := ⟨rfl, rfl, rfl, by decide +kernel, rfl, by decide +kernel, by decide +kernel⟩
theorem ok_names {f fD fM : Addr} {fd fdD fdM : FuncData} (F : Fun K "_law_w_names" "_law_w_names" sNames f fd) (B : B0 K mg) (FD : Fun K "_law_draw" "_law_draw" sDraw fD fdD) (bD : Binds K fdD ["spring", "many"] []) (gD : mg "_law_draw" = some (.ref fD))
    (FM : Fun K "_law_mixed" "_law_mixed" sMixed fM fdM) (bM : Binds K fdM ["spring", "some"] []) (gM : mg "_law_mixed" = some (.ref fM)) :
    FnOk P w K mg base CX0 3 f fd ["spring", "least", "most"] spNames := by
  have GD : FnOk P w K mg base CX0 1 fD fdD ["spring", "many"] spDraw := ok_draw FD B
  have GM : FnOk P w K mg base CX0 2 fM fdM ["spring", "some"] spMixed := ok_mixed FM B FD bD gD
  refine F.ok scNames (fun vs H Q E h => ?_) (fun cdv A outer s H vs Q E hr h => ?_)
  · obtain ⟨a, lo, hi, m, rfl, _⟩ := h
    rfl
  · obtain ⟨a, lo, hi, m, rfl, h0, h1, h2, hsp, hm, k⟩ := h
    have hr1 : Room 1 _ := hr.mono (by decide)
    refine ⟨_, pss_cons (ps_set (i := 3) scNames.nd rfl (Or.inl rfl) (pe_lst (pa_cons pe_str (pa_cons pe_str (pa_cons pe_str (pa_cons pe_str (pa_cons pe_str (pa_cons pe_str (pa_cons pe_str (pa_cons pe_str (pa_cons pe_str (pa_cons pe_str (pa_cons pe_str (pa_cons pe_str (pa_cons pe_str (pa_cons pe_str (pa_cons pe_str (pa_cons pe_str (pa_cons pe_str pa_nil)))))))))))))))))))
      (pss_one (ps_ret (pe_slice sl_list (pe_call GM hr (by rfl) gM FM.kp bM .nil pass0 (pa_cons (pv 0) (pa_cons (pe_op op_cat (pv 3) (pe_lst (pa_cons pe_str (pa_cons pe_str (pa_cons pe_str pa_nil))))) pa_nil))) po_none
        (po_some (pe_op op_add (pv 1) (pe_call GD hr1 (by rfl) gD FD.kp bD .nil pass0 (pa_cons (pv 0) (pa_cons (pe_op op_add (pe_op op_sub (pv 2) (pv 1)) pe_int) pa_nil)))))))), ?_⟩
    refine ⟨by show 17 ≤ sizeLine; decide, fun L hL => ?_⟩
    obtain ⟨osp, hosp, hok0⟩ := id hsp
    have s1 := same_upd (o := .lst [V.str "b", V.str "aa", V.str "c1", V.str "zz", V.str "h9", V.str "eightlet", V.str "m", V.str "q7", V.str "x", V.str "d4", V.str "k", V.str "ab3", V.str "a", V.str "t0", V.str "u", V.str "w2", V.str "y"]) hL
    refine ⟨_, rfl, _, rfl, by show 3 ≤ sizeLine; decide, fun M hM => ?_⟩
    have s2 := same_upd (o := .lst [V.str "e5", V.str "g", V.str "n"]) hM
    have eL : ∀ {o : HO}, (upd (upd H L (.lst [V.str "b", V.str "aa", V.str "c1", V.str "zz", V.str "h9", V.str "eightlet", V.str "m", V.str "q7", V.str "x", V.str "d4", V.str "k", V.str "ab3", V.str "a", V.str "t0", V.str "u", V.str "w2", V.str "y"])) M o) L = some (.lst [V.str "b", V.str "aa", V.str "c1", V.str "zz", V.str "h9", V.str "eightlet", V.str "m", V.str "q7", V.str "x", V.str "d4", V.str "k", V.str "ab3", V.str "a", V.str "t0", V.str "u", V.str "w2", V.str "y"]) := by
      intro o
      rw [upd_ne (ne_of_none upd_same hM), upd_same]
    refine ⟨L, M, _, _, rfl, rfl, eL, upd_same, by show 17 + 3 ≤ sizeLine; decide, fun N hN => ?_⟩
    have s3 := same_upd (o := .lst (pool.map V.str)) hN
    have hosp3 := s3 _ _ (s2 _ _ (s1 _ _ hosp))
    refine ⟨a, N, pool.map V.str, m, rfl, ne_of_none (s2 _ _ (s1 _ _ hosp)) hN, ⟨osp, hosp3, hok0⟩, by omega, upd_same, by show 20 ≤ 1000; decide, fun p ys H' hperm hp hp' hsp' hbut => ?_⟩
    have hpool : (pool.map V.str).length = 20 := by decide +kernel
    rw [hpool] at hsp'
    refine ⟨_, rfl, _, rfl, _, rfl, _, rfl, _, _, rfl, rfl, _, _, rfl, rfl, a, hi - lo + 1, m + 20, rfl, by omega, by omega, hsp', by omega, fun r o hr0 hr2 ho => ?_⟩
    obtain ⟨osp', hosp', _⟩ := id hsp'
    have hap : a ≠ p := ne_of_none hosp3 hp
    obtain ⟨zs, hzs, rfl⟩ := perm_strs hperm
    have hlen : zs.length = 20 := hzs.length_eq
    have hp2 : (upd H' a o) p = some (.lst (zs.map V.str)) := by rw [upd_ne (Ne.symm hap)]; exact hp'
    refine ⟨_, _, rfl, rfl, _, rfl, p, zs.map V.str, rfl, SqL.of hp2, fun R hR => ?_⟩
    have hRa : a ≠ R := ne_of_none upd_same hR
    have sall : ∀ b u, H b = some u → b ≠ R := fun b u e => by
      by_cases hb : b = a
      · rw [hb]; exact hRa
      · exact ne_of_none (show (upd H' a o) b = some u by rw [upd_ne hb]; exact hbut b u hb (s3 _ _ (s2 _ _ (s1 _ _ e)))) hR
    have hRn : H R = none := by
      cases q : H R with
      | none => rfl
      | some u => exact absurd rfl (sall R u q)
    obtain ⟨t, ht⟩ : ∃ t : Nat, lo + r = (t : Int) := ⟨(lo + r).toNat, by omega⟩
    have hcut : cutV (zs.map V.str) none (some (lo + r)) = (zs.take t).map V.str := by
      unfold cutV
      rw [ht, HT.sIx_none, HT.sIx_nat, List.drop_zero, List.length_map, hlen, Nat.sub_zero, Nat.min_eq_left (by omega), List.map_take]
    have hnd : zs.Nodup := hzs.nodup_iff.mpr pool_nodup
    have htl : (zs.take t).length = t := by rw [List.length_take, hlen]; omega
    refine k R (zs.take t) _ (hnd.sublist (List.take_sublist _ _)) (fun z hz => hzs.mem_iff.mp (List.mem_of_mem_take hz)) (by rw [htl]; omega) (by rw [htl]; omega) hRn (by rw [hcut, upd_same]) ⟨o, by rw [upd_ne hRa, upd_same], ho⟩ fun b u hb e => ?_
    rw [upd_ne (sall b u e), upd_ne hb]
    exact hbut b u hb (s3 _ _ (s2 _ _ (s1 _ _ e)))
end
end RK

namespace RK
open PySem L2
def spSpring (K : PySem.W.Frag) : Sp := fun vs H Q _ => ∃ (sc : Addr) (ns : List Int) (t : Nat), vs = [.ref sc, .int t] ∧ SqL K H sc (ns.map V.int) ∧ ns.length ≤ 63 ∧ t ≤ 100 ∧ ∀ p o H', H p = none → H' p = some o → SpOk 0 o → Same H H' → Q (.ref p) H'
theorem cutV_ints {ns : List Int} (h : ns.length ≤ 63) : cutV (ns.map V.int) none (some 63) = ns.map V.int := by
  unfold cutV
  rw [HT.sIx_none, show (63 : Int) = ((63 : Nat) : Int) from rfl, HT.sIx_nat, List.drop_zero, List.length_map, Nat.sub_zero, Nat.min_eq_right h]
  exact List.take_of_length_le (by rw [List.length_map]; exact Nat.le_refl _)
section
variable {P : Program} {w : World} {K : PySem.W.Frag} {mg : Str → Option Value} {base : Heap}
theorem scSpring : FnScope ["script", "turn", "cell", "mix", "at", "one"] ["script", "turn"] (defScope sSpring) := ⟨rfl, rfl, rfl, by decide +kernel, rfl, by decide +kernel, by decide +kernel⟩
theorem ok_spring {f : Addr} {fd : FuncData} (F : Fun K "_law_spring" "_law_spring" sSpring f fd) (B : B0 K mg) : FnOk P w K mg base CX0 1 f fd ["script", "turn"] (spSpring K) := by
  refine F.ok scSpring (fun vs H Q E h => ?_) (fun cdv A outer s H vs Q E hr h => ?_)
  · obtain ⟨sc, ns, t, rfl, _⟩ := h
    rfl
  · obtain ⟨sc, ns, t, rfl, hS, hl, ht, k⟩ := h
    refine ⟨_, Evl.pss_cut (ps_par (i := 2) (j := 3) rfl scSpring.nd rfl rfl (by decide) rfl rfl (pa_cons (pe_ifExp (pt_cmpR op_lt (pv 1) (pe_callB call_len_seq (by rfl) B.len PySem.boot_len (pa_cons (pv 0) pa_nil)) (nomark _)) (pe_ix ix_list (pv 0) (pv 1) (fun _ _ => rfl))
          (pe_op op_add (pe_op op_mul pe_int (pv 1)) (pe_callB call_len_seq (by rfl) B.len PySem.boot_len (pa_cons (pv 0) pa_nil)))) (pa_cons (pe_op op_add pe_int (pe_op op_mul pe_int (pv 1))) pa_nil)) (by rfl))
      (pss_cons (ps_for PassesOwn.never rfl (pi_enum (by rfl) B.enum (pa_cons (pe_slice sl_list (pv 0) po_none (po_some pe_int)) pa_nil)) (pg_tup rfl (pgs_cons (pg_name (i := 4) scSpring.nd rfl (Or.inl rfl)) (pgs_cons (pg_name (i := 5) scSpring.nd rfl (Or.inl rfl)) pgs_nil)))
        (pss_one (ps_set (i := 3) scSpring.nd rfl (Or.inl rfl) (pe_op op_mod (pe_callTy call_int1 (by rfl) B.int (by decide +kernel) (pa_cons (pe_op op_add (pe_op op_add (pe_op op_add (pe_op op_mul (pv 3) pe_int) (pv 5)) (pe_op op_mul pe_int (pv 4))) pe_int) pa_nil)) pe_int))))
      (pss_one (ps_ret (pe_lst (pa_cons (pe_ifExp (pt_cmpR op_ge (pv 2) (pe_op op_pow pe_int pe_int) (nomark _)) (pv 2) pe_int) (pa_cons (pe_op op_mod (pe_callTy call_int1 (by rfl) B.int (by decide +kernel) (pa_cons (pe_op op_add (pv 3) (pe_op op_mul (pv 2) pe_int)) pa_nil)) pe_int) (pa_cons pe_int pa_nil))))))), ?_⟩
    -- cell, mix = (..)
    refine ⟨fun σ H1 => H1 = H ∧ ∃ cell : Int, σ = [some (.ref sc), some (.int t), some (.int cell), some (.int (1009 + 97 * t)), none, none], ?_, ?_⟩
    · refine ⟨_, rfl, _, rfl, sc, _, rfl, .inl hS, _, _, rfl, rfl, _, rfl, ?_⟩
      rw [List.length_map]
      refine ite2 (fun h1 => ?_) (fun h1 => ?_)
      · have h1' : t < ns.length := by have := of_decide_eq_true h1; omega
        exact ⟨_, rfl, _, rfl, sc, _, _, _, rfl, rfl, hS, atI_nat (by rw [List.getElem?_map, List.getElem?_eq_getElem h1']; rfl), _, rfl, _, _, rfl, rfl, .inl ⟨by decide, by decide⟩, _, _, rfl, rfl, _, _, rfl, rfl, _, rfl⟩
      · exact ⟨_, rfl, _, _, rfl, rfl, .inl ⟨by decide, by decide⟩, _, rfl, sc, _, rfl, .inl hS, _, _, rfl, rfl, _, rfl, _, _, rfl, rfl, .inl ⟨by decide, by decide⟩, _, _, rfl, rfl, _, _, rfl, rfl, _, rfl⟩
    · rintro σ H1 ⟨rfl, cell, rfl⟩
      -- for at, one in enumerate(script[:63])
      refine ⟨_, rfl, _, rfl, sc, _, rfl, hS, fun L hL => ?_⟩
      rw [cutV_ints hl]
      have s1 := same_upd (o := .lst (ns.map V.int)) hL
      refine ⟨L, _, rfl, SqL.of upd_same, for_it (walk_enum (K := K) (a := L) (xs := ns.map V.int)) (fun i σ H' => ∃ (w4 w5 : Option V) (mx : Int), σ = [some (.ref sc), some (.int t), some (.int cell), some (.int mx), w4, w5] ∧ 0 ≤ mx ∧ mx < 2147483629 ∧ Same (upd H1 L (.lst (ns.map V.int))) H')
        ⟨none, none, _, rfl, by omega, by omega, Same.refl _⟩ (fun i σ H' _ ⟨_, _, _, _, _, _, sm⟩ => SqL.of (sm _ _ upd_same)) ?_ ?_⟩
      · rintro i x σ H2 H3 hi ⟨w4, w5, mx, rfl, hm0, hm1, sm⟩ ⟨T, x1, y, rfl, hT, rfl, hx1, hy⟩
        cases hx1
        replace hy : (ns.map V.int)[i]? = some y := hy
        obtain ⟨z, rfl⟩ : ∃ z, y = V.int z := by
          rw [List.getElem?_map] at hy
          cases e : ns[i]? with
          | none => rw [e] at hy; cases hy
          | some z => rw [e] at hy; exact ⟨z, (Option.some.inj hy).symm⟩
        refine ⟨T, _, rfl, SqT.of upd_same, rfl, _, _, rfl, _, _, rfl, rfl, ?_⟩
        refine ⟨_, rfl, _, _, rfl, rfl, .inl ⟨by omega, by omega⟩, _, rfl, _, _, rfl, rfl, _, rfl, _, _, rfl, rfl, .inl ⟨by decide, by decide⟩, _, _, rfl, rfl, _, _, rfl, rfl, .inl ⟨_, rfl, _, _, rfl, rfl, (by show (0 : Int) < 2147483629; decide), ?_⟩⟩
        exact ⟨_, _, _, rfl, Int.emod_nonneg _ (by decide), Int.emod_lt_of_pos _ (by decide), sm.trans (same_upd hT)⟩
      · rintro σ H2 ⟨w4, w5, mx, rfl, hm0, hm1, sm⟩
        -- return [..]
        refine ⟨_, rfl, _, _, rfl, rfl, ⟨by decide, by decide, by decide⟩, _, _, rfl, rfl, _, rfl, ?_⟩
        have fin : ∀ cl : Int, ∀ p, H2 p = none → Q (.ref p) (upd H2 p (.lst [.int cl, .int ((mx + cell * 31) % 2147483647), .int 0])) := fun cl p hp =>
          k p _ _ (s1.free (sm.free hp)) upd_same ⟨_, _, _, rfl, Int.emod_nonneg _ (by decide), Int.lt_trans (Int.emod_lt_of_pos _ (by decide)) (by decide), by decide, by decide⟩ (s1.trans (sm.trans (same_upd hp)))
        refine ite2 (fun h1 => ?_) (fun h1 => ?_)
        · refine ⟨_, rfl, _, rfl, _, rfl, _, _, rfl, rfl, .inr ⟨by decide, by decide⟩, _, _, rfl, rfl, .inl ⟨_, rfl, _, _, rfl, rfl, (by show (0 : Int) < 2147483647; decide), by show 3 ≤ sizeLine; decide, fun p hp => fin _ p hp⟩⟩
        · refine ⟨_, rfl, _, rfl, _, _, rfl, rfl, .inr ⟨by decide, by decide⟩, _, _, rfl, rfl, .inl ⟨_, rfl, _, _, rfl, rfl, (by show (0 : Int) < 2147483647; decide), by show 3 ≤ sizeLine; decide, fun p hp => fin _ p hp⟩⟩
end
end RK

/-! a set comprehension of ints: {e for t in xs if ..} -/
namespace L2
open PySem PySem.Spec PyProof.Rows
/-- what a turn owes: the number into the set at D, then the next turn's wish -/
def IntIn (w : World) (D : Addr) (Nx : Hp → Prop) : V → Hp → Prop := fun y G => ∃ (k : Int) (S : Int → Bool) (n : Nat), y = .int k ∧ G D = some (SetO w D S n) ∧ n + 1 < scanBound ∧ Nx (upd G D (SetO w D (fun j => S j || decide (j = k)) (if S k = true then n else n + 1)))
def OneTurn (w : World) (D : Addr) (g : TG) (tt : TT) (te : TE) (vs : List Nat) (σ : St) (Nx : Hp → Prop) (x : V) (G : Hp) : Prop :=
  g x (wipe σ vs) G fun ρ G1 => wipe ρ vs = wipe σ vs ∧ tt ρ G1 fun b G2 => if b = true then te ρ G2 (IntIn w D Nx) else Nx G2
def SetWalk (w : World) (J : It) (D : Addr) (g : TG) (tt : TT) (te : TE) (vs : List Nat) (σ : St) (H1 : Hp) (Qd : Hp → Prop) : Prop :=
  ∃ W : Nat → Nat → Hp → Prop, (∃ m, W 0 m (upd H1 D (SetO w D (fun _ => false) 0))) ∧ ∀ i m G, W i m G →
    (J.stop i G ∧ Qd G) ∨ (J.go i G ∧ ∃ Nx : Hp → Prop, (∀ G', Nx G' → ∃ m', m' < m ∧ W (i + 1) m' G') ∧ ∀ x G', J.yld i G x G' → OneTurn w D g tt te vs σ Nx x G')
def tScI (w : World) (wi : TI) (g : TG) (tt : TT) (te : TE) (vs : List Nat) : TE := fun σ H Q => wi σ H fun J H1 => ∀ D, H1 D = none → SetWalk w J D g tt te vs σ H1 fun G => Q (.ref D) G
section
variable {X : Cx} {elt tg iter : Expr} {ifs : List Expr} {scope : Scope} {own : List (Str × Nat)} {wi : TI} {g : TG} {tt : TT} {te : TE}
/-- the block's three parts, wherever it stands -/
structure Blk3 (X : Cx) (tg elt : Expr) (ifs : List Expr) (scope : Scope) (g : TG) (tt : TT) (te : TE) : Prop where
  tgt : ∀ (u : Shared) (G : Hp) (L : Addr) (cl : List (Str × Addr)) (fp : List Addr), PG (X.blk u G scope (compEnvC scope cl L X.env) fp) tg g
  tst : ∀ (u : Shared) (G : Hp) (L : Addr) (cl : List (Str × Addr)) (fp : List Addr), PTs (X.blk u G scope (compEnvC scope cl L X.env) fp) ifs tt
  elm : ∀ (u : Shared) (G : Hp) (L : Addr) (cl : List (Str × Addr)) (fp : List Addr), PE (X.blk u G scope (compEnvC scope cl L X.env) fp) elt te
theorem scI_core {pins : List (Addr × Obj)} {s : Shared} {σ : St} {H : Hp} {Q : VK} {pos pos' : Pos} {use : Option (Value → Sem Unit)} {Qf : Value → Shared → Prop} (hc : X.calm = true) (hN : X.N.Nodup) (Inow : Inv X pins σ H s) (hi : PI X tg iter wi) (ok : BlkOk X.N X.env.scope scope own)
    (B : Blk3 X tg elt ifs scope g tt te) (hfold : ∀ x, foldedSetIterable iter X.env x = pure x) (h : tScI X.w wi g tt te (own.map (·.2)) σ H Q)
    (hend : ∀ D L u m G, Inv X pins σ G u → Q (.ref D) G → u.heap.Ns L m → FpOk X pins G L → compPost (model X.prog X.w) X.A X.xe use Qf (.ref D) L (.ok .next) u) :
    wpAny (model X.prog X.w) X.A (comprehension (.SetComp elt [⟨tg, iter, ifs, 0⟩] scope pos) scope X.env pos' (newSet (.type "set")) false (eval iter X.env) use) Qf X.xe s := by
  have free : ∀ y ∈ scope.names, y.2 = .free → ∃ c, X.env.cells.lookup y.1 = some c := fun y hy e => (ok.free y hy e).elim (fun k => Inow.ok.has _ (.inl k)) fun k => Inow.ok.has _ (.inr k)
  refine wpAny_comprehension_free (use := use) rfl hfold (closure_ok free) ok.kind (fun y hy e => by rw [ok.uniq y hy, e]) (thn (hi.run pins s σ H _ Inow h) fun xv u1 hx => thn hx fun itv u2 got => ?_)
  obtain ⟨it, fp, tn, J, G2, rfl, I2, T, at0, own2, walk⟩ := got
  refine PpSet.newSet_ok (newEnv_comp ?_)
  generalize hD : u2.heap.objs.size = D
  have fresh : G2 D = none := I2.hok.fresh (Nat.le_of_eq hD)
  obtain ⟨W, ⟨m0, begins⟩, turn⟩ := walk D fresh
  -- the empty set stands
  generalize hG3 : upd G2 D (SetO X.w D (fun _ => false) 0) = G3 at begins
  generalize hu3 : ({ u2 with heap := u2.heap.push { cls := .type "set", dict := none, data := .set #[] 0 (.fresh 0 0 (!X.w.params.followText "set-order")) } } : Shared) = u3
  have p3 : u3.heap = u2.heap.push { cls := .type "set", dict := none, data := .set #[] 0 (.fresh 0 0 (!X.w.params.followText "set-order")) } := by rw [← hu3]
  have I3 : Inv X pins σ G3 u3 := by
    rw [← hG3, ← hu3]
    refine I2.laid (t' := u2.toks) (fun b o e => Heap.get?_push_of_some _ e) (Nat.le_of_eq hD) ?_
    rw [← hD]
    exact setO_new (setR_fresh X.w)
  have below : ∀ b ∈ fp, b < u2.heap.objs.size := fun b hb => let ⟨_, e, _⟩ := T.obj _ _ at0 b hb; Heap.lt_size e
  have own3 : ∀ b ∈ fp, FpOk X pins G3 b ∧ b < u3.heap.objs.size := fun b hb => by
    have lt := below b hb
    refine ⟨⟨?_, (own2 b hb).2⟩, by rw [p3, Heap.size_push]; exact Nat.lt_succ_of_lt lt⟩
    rw [← hG3, upd_ne (by rw [← hD]; exact Nat.ne_of_lt lt)]
    exact (own2 b hb).1
  have at3 : tn 0 u3.heap := T.keep _ _ _ at0 fun b _ o e => by rw [p3]; exact Heap.get?_push_of_some _ e
  have I4 := block_start I3 ok hN own3
  have pg := B.tgt u3 G3 u3.heap.objs.size (cellsFrom (u3.heap.objs.size + 1) scope.names (cloFrom X.env.cells scope.names [])) fp
  have pt := B.tst u3 G3 u3.heap.objs.size (cellsFrom (u3.heap.objs.size + 1) scope.names (cloFrom X.env.cells scope.names [])) fp
  have pe := B.elm u3 G3 u3.heap.objs.size (cellsFrom (u3.heap.objs.size + 1) scope.names (cloFrom X.env.cells scope.names [])) fp
  have no3 : ∀ b ∈ fp, G3 b = none := fun b hb => (own3 b hb).1.1
  show codeAny _ _ (.compStart (.SetComp elt [⟨tg, iter, ifs, 0⟩] scope pos) 0 (.ref it) (.ref D) (compEnvC scope (cellsFrom (u3.heap.objs.size + 1) scope.names (cloFrom X.env.cells scope.names [])) u3.heap.objs.size X.env)) (compPost (model X.prog X.w) X.A X.xe use Qf (.ref D) u3.heap.objs.size) { u3 with heap := pushCells (u3.heap.push { cls := .type "dict", data := .dict #[] }) scope.names }
  generalize hce : compEnvC scope (cellsFrom (u3.heap.objs.size + 1) scope.names (cloFrom X.env.cells scope.names [])) u3.heap.objs.size X.env = ce at I4 pg pt pe ⊢
  have lce : ce.locals = u3.heap.objs.size := by rw [← hce] <;> rfl
  generalize hu4 : ({ u3 with heap := pushCells (u3.heap.push { cls := .type "dict", data := .dict #[] }) scope.names } : Shared) = u4 at I4 ⊢
  have at4 : tn 0 u4.heap := T.keep _ _ _ at3 fun b _ o e => by rw [← hu4]; exact pushCells_keeps _ _ _ _ (Heap.get?_push_of_some _ e)
  generalize hY : X.blk u3 G3 scope ce fp = Y at I4 pg pt pe
  have Yw : Y.w = X.w := by rw [← hY]
  have held : ∀ {ρ : St} {G : Hp} {u : Shared}, Inv Y [] ρ G u → (∀ b ∈ fp, G b = none) → ∀ b ∈ fp, FpOk Y [] G b := fun {ρ G u} I' no b hb => by
    subst hY
    exact ⟨no b hb, (I'.ok.exf b hb).1, I'.ok.exfs b hb, .inl hb, fun x c e => (I'.ok.exf b hb).2 x c e, fun p hp => absurd (show p ∈ ([] : List (Addr × Obj)) ++ [] from hp) (by simp)⟩
  have loop : codeAny (model X.prog X.w) X.A (.compLoop (.SetComp elt [⟨tg, iter, ifs, 0⟩] scope pos) 0 (.ref it) (.ref D) ce) (compPost (model X.prog X.w) X.A X.xe use Qf (.ref D) u3.heap.objs.size) u4 := by
    refine PpSet.compLoopS_any (fun n u => ∃ i G, Inv Y [] (wipe σ (own.map (·.2))) G u ∧ tn i u.heap ∧ (∀ b ∈ fp, G b = none) ∧ W i n G) ?_ m0 ⟨0, G3, I4, at4, no3, begins⟩
    rintro n u5 ⟨i, G5, I5, at5, no5, w5⟩
    have TY := fun (go : Bool) => held I5 no5
    subst hY
    rcases turn i n G5 w5 with ⟨stop, qq⟩ | ⟨go, Nx, hNx, step⟩
    · refine thnF (T.done (X.blk u3 G3 scope ce fp) rfl rfl rfl hc i [] u5 _ G5 (fun _ _ => False) I5 (held I5 no5) at5 stop) fun r u6 ⟨hr, I6⟩ => ?_
      subst hr
      have back : Inv X pins σ G5 u6 := I3.call' (ch := fp) I6.os I6.base I6.hok I6.bare fun b hb => let z := (own3 b hb).1; ⟨z.2.2.2.1, z.2.1, z.2.2.2.2.1, z.2.2.2.2.2⟩
      have nL : G5 u3.heap.objs.size = none := lce ▸ (I6.free : G5 ce.locals = none)
      obtain ⟨m, ns, _⟩ := I6.loc
      exact hend D u3.heap.objs.size u6 m G5 back qq (lce ▸ (ns : u6.heap.Ns ce.locals m)) (I3.fpOk (Nat.le_refl _) nL)
    · refine thnF (T.item (X.blk u3 G3 scope ce fp) rfl rfl rfl hc i [] u5 _ G5 (fun _ _ => False) I5 (held I5 no5) at5 go) fun r u6 ⟨u, hr, h6⟩ => ?_
      subst hr
      refine thnF h6 fun _ u7 ⟨x, G7, I7, r7, y7, at7, no7⟩ => ?_
      refine thnF (pg.run _ u7 _ G7 x u _ (I7.pinned (held I7 no7) (T.obj _ _ at7)) r7 (step x G7 y7)) fun _ u8 ⟨ρ, G8, I8, same, q8⟩ => ?_
      refine thnF (pt.run _ u8 ρ G8 _ I8 q8) fun b u9 ⟨G9, I9, q9⟩ => ?_
      have next : ∀ {u' : Shared} {G' : Hp}, Inv (X.blk u3 G3 scope ce fp) ([] ++ pinsAt fp u7.heap) ρ G' u' → Nx G' → ∃ m, m < n ∧ ∃ i G, Inv (X.blk u3 G3 scope ce fp) [] (wipe σ (own.map (·.2))) G u' ∧ tn i u'.heap ∧ (∀ b ∈ fp, G b = none) ∧ W i m G := fun {u' G'} I' nx => by
        obtain ⟨m', less, w'⟩ := hNx G' nx
        have pinned : ∀ b ∈ fp, ∀ o, u7.heap.get? b = some o → u'.heap.get? b = some o ∧ G' b = none := fun b hb o e => let z := I'.pin (b, o) (List.mem_append_right _ (List.mem_append_right _ (mem_pinsAt hb e))); ⟨z.1, z.2.1⟩
        have hl : (wipe σ (own.map (·.2))).length = ρ.length := by rw [← same, wipe_length]
        refine ⟨m', less, i + 1, G', (I'.unpinned (pins := [])).weak hl (fun j v e => ?_), T.keep _ _ _ at7 fun b hb o e => (pinned b hb o e).1, fun b hb => ?_, w'⟩
        · rw [← same] at e
          exact (wipe_some e).1
        · obtain ⟨o, e, _⟩ := T.obj _ _ at7 b hb
          exact (pinned b hb o e).2
      cases b with
      | false =>
        rw [if_neg Bool.false_ne_true] at q9 ⊢
        exact next I9 q9
      | true =>
        rw [if_pos rfl] at q9 ⊢
        refine thnF (pe.run _ u9 ρ G9 _ I9 q9) fun z u10 ⟨yv, G10, I10, r10, k, S0, n0, ey, at10, room, nx⟩ => ?_
        subst ey
        refine thnF (mt_sadd (X := X.blk u3 G3 scope ce fp) _ u10 ρ G10 (.ref D) [.int k] _ _ (fun _ G' => Nx G') I10 rfl (.cons r10 .nil) ⟨D, k, S0, n0, rfl, rfl, at10, room, nx⟩) fun _ u11 ⟨_, G11, I11, _, q11⟩ => next I11 q11
  exact PpSet.codeAny_compStart_set loop (T.self X.A 0 _ _ _ at4 loop)
theorem pe_scI {pos : Pos} (hc : X.calm = true) (hN : X.N.Nodup) (hi : PI X tg iter wi) (ok : BlkOk X.N X.env.scope scope own) (B : Blk3 X tg elt ifs scope g tt te) (hfold : ∀ x, foldedSetIterable iter X.env x = pure x := by intro _; rfl) :
    PE X (.SetComp elt [⟨tg, iter, ifs, 0⟩] scope pos) (tScI X.w wi g tt te (own.map (·.2))) := by
  refine ⟨fun pins s σ H Q I h => ?_⟩
  rw [PpSet.eval_SetComp]
  refine scI_core hc hN I hi ok B hfold h fun D L u m G I' q ns f => ⟨m, ns, fun h'' sb => ?_⟩
  obtain ⟨f0, f1, f2, f3, f4, f5⟩ := f
  exact ⟨.ref D, G, I'.turned (t' := u.toks) (fun b o hb e => (sb.2 b hb).trans e) f0 f1 f3 f4 f5, rfl, q⟩
end
end L2
namespace L2
open PySem PySem.Spec PyProof.Rows
section
variable {X : Cx}
/-- len of a set of ints -/
def rLenSI (w : World) : List V → Hp → VK → Prop := fun xs H Q => ∃ (a : Addr) (S : Int → Bool) (n : Nat), xs = [V.ref a] ∧ H a = some (SetO w a S n) ∧ Q (.int n) H
theorem cr_lenSI : CallR X (.builtin "len") (rLenSI X.w) := by
  intro pins s σ H xs us Q I r h
  obtain ⟨a, S, n, rfl, ha, q⟩ := h
  cases r with
  | cons r1 r2 =>
    cases r2
    cases r1
    obtain ⟨o, es, ep, t, ho, hex, hd, _, _, _, hlt, hf, hn, _, _⟩ := setO_get I ha
    have hb : es.size < 2 ^ 62 := Nat.lt_of_lt_of_le hlt (by decide)
    exact PySem.call_len_set ho hex hd hf (by omega) ⟨.int n, H, I.tok _, ⟨_, by rw [hn]⟩, q⟩
/-- the numbers of a list, each once -/
def onceI : List Int → List Int
  | [] => []
  | x :: r => if x ∈ onceI r then onceI r else x :: onceI r
theorem mem_once {x : Int} : ∀ {l : List Int}, x ∈ onceI l ↔ x ∈ l
  | [] => Iff.rfl
  | y :: r => by
    have ih := mem_once (x := x) (l := r)
    unfold onceI
    by_cases h : y ∈ onceI r
    · rw [if_pos h, ih, List.mem_cons]
      refine ⟨.inr, fun q => q.elim (fun e => ?_) id⟩
      subst e
      exact mem_once.mp h
    · rw [if_neg h, List.mem_cons, List.mem_cons, ih]
theorem once_le : ∀ l : List Int, (onceI l).length ≤ l.length
  | [] => Nat.le_refl _
  | y :: r => by
    have ih := once_le r
    unfold onceI
    by_cases h : y ∈ onceI r
    · rw [if_pos h, List.length_cons]; omega
    · rw [if_neg h, List.length_cons, List.length_cons]; omega
theorem once_all : ∀ {l : List Int}, (onceI l).length = l.length ↔ l.Nodup
  | [] => ⟨fun _ => .nil, fun _ => rfl⟩
  | y :: r => by
    have ih := once_all (l := r)
    have le := once_le r
    unfold onceI
    rw [List.nodup_cons]
    by_cases h : y ∈ onceI r
    · rw [if_pos h, List.length_cons]
      exact ⟨fun e => by omega, fun e => absurd (mem_once.mp h) e.1⟩
    · rw [if_neg h, List.length_cons, List.length_cons]
      exact ⟨fun e => ⟨fun q => h (mem_once.mpr q), ih.mp (by omega)⟩, fun e => by rw [ih.mpr e.2]⟩
end
end L2
namespace L2
open PySem PySem.Spec PyProof.Rows
/-- a set comprehension over a walk: Pv by the turn and the heap -/
theorem sc_it {J : It} {n : Nat} {G : Hp → Prop} {Y : Nat → Hp → V → Hp → Prop} (wk : Walk J n G Y) {w : World} {D : Addr} {g : TG} {tt : TT} {te : TE} {vs : List Nat} {σ : St} {H1 : Hp} {Qd : Hp → Prop} (Pv : Nat → Hp → Prop)
    (begins : Pv 0 (upd H1 D (SetO w D (fun _ => false) 0))) (stands : ∀ i H, i ≤ n → Pv i H → G H) (turns : ∀ i x H H', i < n → Pv i H → Y i H x H' → OneTurn w D g tt te vs σ (Pv (i + 1)) x H') (ends : ∀ H, Pv n H → Qd H) : SetWalk w J D g tt te vs σ H1 Qd := by
  refine ⟨fun i m H => i ≤ n ∧ m = n - i ∧ Pv i H, ⟨n, Nat.zero_le _, rfl, begins⟩, ?_⟩
  rintro i m H ⟨hi, rfl, p⟩
  rcases Nat.lt_or_eq_of_le hi with lt | rfl
  · exact .inr ⟨wk.goes i H lt (stands i H hi p), Pv (i + 1), fun H' p' => ⟨n - (i + 1), by omega, lt, rfl, p'⟩, fun x H' y => turns i x H H' lt p (wk.yields i H x H' lt (stands i H hi p) y)⟩
  · exact .inl ⟨wk.stops H (stands i H hi p), ends H p⟩
end L2

namespace RK
open PySem L2
/-! ### integers, walkers, dicts of something -/
theorem in_names : ∀ {zs : List Str} {z : Str}, inV (.str z) (zs.map V.str) = decide (z ∈ zs)
  | [], z => rfl
  | y :: r, z => by
    have ih := in_names (zs := r) (z := z)
    unfold inV at ih ⊢
    rw [List.map_cons, List.any_cons, ih]
    have e1 : eqV (V.str y) (V.str z) = decide (z = y) := by
      show (y == z) = _
      rw [beq_dec]
      by_cases e : y = z
      · subst e; rfl
      · rw [decide_eq_false e, decide_eq_false (fun q => e q.symm)]
    rw [e1]
    simp
theorem flat_names (zs : List Str) : (zs.map V.str).all flatV = true := by
  rw [List.all_map, List.all_eq_true]
  exact fun _ _ => rfl
def Kd.isInt : Kd → Bool
  | .int => true | _ => false
theorem kit_int {K : PySem.W.Frag} (k : Kd) : PySem.W.kitOne K (.type k.nm) (.type "int") = some (k.isInt || k.isBool) := by cases k <;> exact kit_ty (by decide +kernel)
def spIsInt (K : PySem.W.Frag) : Sp := fun vs H Q _ => ∃ v k, vs = [v] ∧ Th K H v k ∧ ∀ H', Same H H' → Q (.bl k.isInt) H'
/-- a walker among names -/
def walkB (zs : List Str) : V → Bool
  | .str z => decide (z ∈ zs)
  | _ => false
theorem Th.no_walk {K : PySem.W.Frag} {H : Hp} {v : V} {k : Kd} {zs : List Str} (h : Th K H v k) (e : k.isStr = false) : walkB zs v = false := by
  cases h <;> first | rfl | cases e
def spIsWalker (K : PySem.W.Frag) : Sp := fun vs H Q _ => ∃ (n : Addr) (zs : List Str) (v : V) (k : Kd), vs = [.ref n, v] ∧ H n = some (.lst (zs.map V.str)) ∧ Th K H v k ∧ ∀ H', Same H H' → Q (.bl (walkB zs v)) H'
/-- an integer by its kind -/
def intB : V → Bool
  | .int _ => true
  | _ => false
theorem Th.int_b {K : PySem.W.Frag} {H : Hp} {v : V} {k : Kd} (h : Th K H v k) : k.isInt = intB v := by
  cases h <;> rfl
/-- a dict from just all the names to integers -/
def dictB (zs : List Str) (kvs : List (Key × V)) : Bool := decide (kvs.length = zs.length) && zs.all fun z => match valV kvs (Sum.inr z : Key) with
  | some v => intB v
  | none => false
def spDictOf (K : PySem.W.Frag) (fI : Addr) : Sp := fun vs H Q _ => ∃ (n : Addr) (zs : List Str) (v : V) (k : Kd), vs = [.ref n, v, .ref fI] ∧ H n = some (.lst (zs.map V.str)) ∧ zs.length ≤ 1000 ∧ Th K H v k ∧
  (k.isDict = false → ∀ H', Same H H' → Q (.bl false) H') ∧
  (k.isDict = true → ∃ d kvs, v = .ref d ∧ H d = some (.dK kvs) ∧ (∀ kv ∈ kvs, ∃ kx, Th K H kv.2 kx) ∧ ∀ H', Same H H' → Q (.bl (dictB zs kvs)) H')
theorem val_mem {kvs : List (Key × V)} {k : Key} {v : V} (h : valV kvs k = some v) : ∃ kv ∈ kvs, kv.2 = v := by
  unfold valV at h
  cases q : kvs.find? fun kv => decide (kv.1 = k) with
  | none => rw [q] at h; cases h
  | some kv =>
    rw [q] at h
    cases h
    exact ⟨kv, List.mem_of_find?_eq_some q, rfl⟩
section
variable {P : Program} {w : World} {K : PySem.W.Frag} {mg : Str → Option Value} {base : Heap}
theorem scIsInt : FnScope ["thing"] ["thing"] (defScope sIsInt) := ⟨rfl, rfl, rfl, by decide +kernel, rfl, by decide +kernel, by decide +kernel⟩
theorem ok_isInt {f : Addr} {fd : FuncData} (F : Fun K "is_integer" "is_integer" sIsInt f fd) (B : B0 K mg) : FnOk P w K mg base CX0 1 f fd ["thing"] (spIsInt K) := by
  refine F.ok scIsInt (fun vs H Q E h => ?_) (fun cdv A outer s H vs Q E hr h => ?_)
  · obtain ⟨v, k, rfl, _⟩ := h
    rfl
  · obtain ⟨v, k, rfl, ht, q⟩ := h
    refine ⟨_, pss_one (ps_ret (pe_and (pe_callB call_isiZ (by rfl) B.isi (by decide +kernel) (pa_cons (pv 0) (pa_cons (pe_bltn (v := .ty "int") (by rfl) B.int (by decide +kernel) rfl) pa_nil)))
      (pe_one (pe_not (pe_callB call_isiZ (by rfl) B.isi (by decide +kernel) (pa_cons (pv 0) (pa_cons (pe_bltn (v := .ty "bool") (by rfl) B.bool (by decide +kernel) rfl) pa_nil))))))), ?_⟩
    refine ⟨_, rfl, v, .ty "int", _, .type "int", _, rfl, .ty _, ht.ty, kit_int k, _, rfl, ?_⟩
    have q' := q H (Same.refl H)
    cases hk : (k.isInt || k.isBool) with
    | false =>
      have e : k.isInt = false := by revert hk; cases k <;> decide
      rw [e] at q'
      exact iteF q'
    | true =>
      refine iteT ⟨_, rfl, v, .ty "bool", _, .type "bool", _, rfl, .ty _, ht.ty, kit_bool k, _, rfl, ?_⟩
      have e : (!k.isBool) = k.isInt := by revert hk; cases k <;> decide
      rw [e]
      exact q'
end
end RK

namespace RK
open PySem L2
theorem all_take {α : Type} {l : List α} {p : α → Bool} : (l.map p).all id = l.all p := by rw [List.all_map]; rfl
/-- is what stands at z in the dict right -/
def isRight (kvs : List (Key × V)) (z : Str) : Bool := match valV kvs (Sum.inr z : Key) with
  | some v => intB v
  | none => false
section
variable {P : Program} {w : World} {K : PySem.W.Frag} {mg : Str → Option Value} {base : Heap}
theorem scDictOf : FnScope ["keys", "thing", "is_right", "key"] ["keys", "thing", "is_right"] (defScope sDictOf) := ⟨rfl, rfl, rfl, by decide +kernel, rfl, by decide +kernel, by decide +kernel⟩
theorem ok_dictOf {f fI : Addr} {fd fdI : FuncData} (F : Fun K "is_dict_of" "is_dict_of" sDictOf f fd) (B : B0 K mg) (FI : Fun K "is_integer" "is_integer" sIsInt fI fdI) (bI : Binds K fdI ["thing"] []) :
    FnOk P w K mg base CX0 2 f fd ["keys", "thing", "is_right"] (spDictOf K fI) := by
  have GI : FnOk P w K mg base CX0 1 fI fdI ["thing"] (spIsInt K) := ok_isInt FI B
  refine F.ok scDictOf (fun vs H Q E h => ?_) (fun cdv A outer s H vs Q E hr h => ?_)
  · obtain ⟨n, zs, v, k, rfl, _⟩ := h
    rfl
  · obtain ⟨n, zs, v, k, rfl, hn, hl, ht, kno, kyes⟩ := h
    have hu := hu_of hr
    refine ⟨_, pss_cons (ps_if (PW.pt (pw_or (pt_not (pt_val (pe_callB call_isiZ (by rfl) B.isi (by decide +kernel) (pa_cons (pv 1) (pa_cons (pe_bltn (v := .ty "dict") (by rfl) B.dict (by decide +kernel) rfl) pa_nil)))))
        (pw_or1 (pt_cmpR op_ne (pe_callB call_lenD (by rfl) B.len PySem.boot_len (pa_cons (pv 1) pa_nil)) (pe_callB call_len_seq (by rfl) B.len PySem.boot_len (pa_cons (pv 0) pa_nil)) (nomark _))))) (pss_one (ps_ret pe_bl)) pss_nil)
      (pss_one (ps_ret (pe_callB (cr_all rfl) (by rfl) B.all (by decide +kernel) (pa_cons (pe_lc (te := tAndV (tDIn (tVar 3) (tVar 1)) (tCallL 2 fI (spIsInt K) [] E0 (tCons (tDGet (tVar 1) (tVar 3)) tNil))) (own := [("key", 3)]) (g := gName 3) (tt := tYes) rfl scDictOf.nd
        (pi_list (pv 0)) (blkOk_by (N := ["keys", "thing", "is_right", "key"]) (sc := defScope sDictOf) (by decide +kernel)) (fun _ _ _ _ _ => pg_name (i := 3) scDictOf.nd rfl (Or.inl rfl)) (fun _ _ _ _ _ => pts_nil)
        (fun _ _ _ _ _ => by exact (pe_and (pe_cmp (pc_din hu (pv 3) (pv 1))) (pe_one (pe_callL GI hr rfl (by first | exact .inl rfl | exact .inr (.inl rfl) | exact .inr (.inr rfl) | exact .inr rfl) FI.kp bI .nil pass0 (pa_cons (pe_dget hu (pv 1) (pv 3) (fun _ _ => rfl)) pa_nil)))))) pa_nil)))), ?_⟩
    refine ⟨_, rfl, v, .ty "dict", _, .type "dict", _, rfl, .ty _, ht.ty, kit_dict k, _, rfl, ?_⟩
    cases hk : k.isDict with
    | false => exact iteT (iteT (kno hk H (Same.refl H)))
    | true =>
      obtain ⟨d, kvs, rfl, hd, hth, q⟩ := kyes hk
      refine iteF ⟨_, rfl, d, kvs, rfl, hd, _, rfl, n, _, rfl, .inl (SqL.of hn), rfl, _, rfl, ?_⟩
      have hlen : (zs.map V.str).length = zs.length := List.length_map _
      by_cases e : kvs.length = zs.length
      · have e' : (!decide (V.int (kvs.length : Nat) = V.int ((zs.map V.str).length : Nat))) = false := by rw [hlen, e]; simp
        rw [e']
        refine iteF ⟨_, rfl, n, rfl, ⟨_, SqL.of hn⟩, fun D hD => ?_⟩
        refine lc_it (walk_list (K := K) (a := n) (xs := zs.map V.str)) (fun i H' => Same H H' ∧ H' D = some (.lst ((zs.take i).map fun z => V.bl (isRight kvs z)))) ⟨same_upd hD, upd_same⟩ (fun i H' _ p => SqL.of (p.1 _ _ hn)) ?_ ?_
        · rintro i x H1 H2 hi ⟨sm, hacc⟩ ⟨rfl, hx⟩
          obtain ⟨z, hz, rfl⟩ : ∃ z, zs[i]? = some z ∧ x = .str z := by
            rw [List.getElem?_map] at hx
            cases qz : zs[i]? with
            | none => rw [qz] at hx; cases hx
            | some z => rw [qz] at hx; cases hx; exact ⟨z, rfl, rfl⟩
          have fin : ∀ H', Same H2 H' → ∃ acc, H' D = some (.lst acc) ∧ acc.length < sizeLine ∧ Same H (upd H' D (.lst (acc ++ [V.bl (isRight kvs z)]))) ∧ (upd H' D (.lst (acc ++ [V.bl (isRight kvs z)]))) D = some (.lst ((zs.take (i + 1)).map fun z => V.bl (isRight kvs z))) := fun H' s' => by
            refine ⟨_, s' _ _ hacc, ?_, fun b u hb => ?_, ?_⟩
            · rw [List.length_map, List.length_take]
              exact Nat.lt_of_le_of_lt (Nat.le_trans (Nat.min_le_right _ _) hl) (by decide)
            · rw [upd_ne (ne_of_none hb hD)]
              exact s' _ _ (sm _ _ hb)
            · rw [upd_same, take_more hz, List.map_append]
              rfl
          refine ⟨rfl, tyes ?_⟩
          refine ⟨_, rfl, _, rfl, d, _, rfl, DGet.k (k := (Sum.inr z : Key)) (sm _ _ hd), _, rfl, ?_⟩
          cases hv : valV kvs (Sum.inr z : Key) with
          | none =>
            refine iteF ?_
            have q' := fin H2 (Same.refl H2)
            have er : isRight kvs z = false := by unfold isRight; rw [hv]
            rw [er] at q'
            exact q'
          | some v =>
            obtain ⟨kv, hkv, rfl⟩ := val_mem hv
            obtain ⟨kx, hkx⟩ := hth kv hkv
            have er : isRight kvs z = kx.isInt := by unfold isRight; rw [hv, hkx.int_b]
            refine iteT ⟨rfl, _, rfl, _, rfl, d, _, rfl, hv ▸ DGet.k (k := (Sum.inr z : Key)) (sm _ _ hd), kv.2, kx, rfl, hkx.same sm, fun H' s' => ?_⟩
            have q' := fin H' s'
            rw [er] at q'
            exact q'
        · rintro H1 ⟨sm, hacc⟩
          have hacc' : H1 D = some (.lst ((zs.map fun z => isRight kvs z).map V.bl)) := by
            rw [hacc, List.map_map, show (zs.map V.str).length = zs.length from hlen, List.take_length]
            rfl
          refine ⟨D, zs.map fun z => isRight kvs z, rfl, SqL.of hacc', ?_⟩
          have q' := q H1 sm
          have er : dictB zs kvs = (zs.map fun z => isRight kvs z).all id := by
            unfold dictB
            rw [decide_eq_true e, Bool.true_and, all_take]
            rfl
          rw [er] at q'
          exact q'
      · have e' : (!decide (V.int (kvs.length : Nat) = V.int ((zs.map V.str).length : Nat))) = true := by
          rw [hlen, decide_eq_false (fun z => e (by have := V.int.inj z; omega))]; rfl
        rw [e']
        have q' := q H (Same.refl H)
        have er : dictB zs kvs = false := by
          unfold dictB
          rw [decide_eq_false e]
          rfl
        rw [er] at q'
        exact iteT q'
end
end RK

namespace RK
open PySem L2
/-! ### stands -/
def placeOf (kvs : List (Key × V)) (z : Str) : Int := match valV kvs (Sum.inr z : Key) with
  | some (.int i) => i
  | _ => 0
def placesOf (zs : List Str) (kvs : List (Key × V)) : List Int := zs.map (placeOf kvs)
def restsOf (zs : List Str) (kvs : List (Key × V)) : List Int := (placesOf zs kvs).map fun p => p % (zs.length : Int)
def standB (zs : List Str) (kvs : List (Key × V)) : Bool := dictB zs kvs && (decide ((placesOf zs kvs).sum = (zs.length : Int) * ((zs.length : Int) - 1) / 2) && decide ((restsOf zs kvs).Nodup))
theorem once_cons {x : Int} {r : List Int} : onceI (x :: r) = if x ∈ onceI r then onceI r else x :: onceI r := rfl
theorem List.nodup_reverse' {l : List Int} : l.reverse.Nodup ↔ l.Nodup := (List.reverse_perm l).nodup_iff
theorem dict_place {zs : List Str} {kvs : List (Key × V)} (h : dictB zs kvs = true) : ∀ z ∈ zs, valV kvs (Sum.inr z : Key) = some (.int (placeOf kvs z)) := fun z hz => by
  unfold dictB at h
  have q := List.all_eq_true.mp (Bool.and_eq_true_iff.mp h).2 z hz
  unfold placeOf
  cases e : valV kvs (Sum.inr z : Key) with
  | none => rw [e] at q; cases q
  | some v =>
    rw [e] at q
    cases v <;> first | rfl | cases q
def spStanding (K : PySem.W.Frag) : Sp := fun vs H Q _ => ∃ (n : Addr) (zs : List Str) (v : V) (k : Kd), vs = [.ref n, v] ∧ H n = some (.lst (zs.map V.str)) ∧ 0 < zs.length ∧ zs.length ≤ 1000 ∧ Th K H v k ∧
  (k.isDict = false → ∀ H', Same H H' → Q (.bl false) H') ∧
  (k.isDict = true → ∃ d kvs, v = .ref d ∧ H d = some (.dK kvs) ∧ (∀ kv ∈ kvs, ∃ kx, Th K H kv.2 kx) ∧ ∀ H', Same H H' → Q (.bl (standB zs kvs)) H')
section
variable {P : Program} {w : World} {K : PySem.W.Frag} {mg : Str → Option Value} {base : Heap}
theorem scStanding : FnScope ["names", "thing", "many", "name"] ["names", "thing"] (defScope sStanding) := ⟨rfl, rfl, rfl, by decide +kernel, rfl, by decide +kernel, by decide +kernel⟩
theorem ok_standing {f fI fD : Addr} {fd fdI fdD : FuncData} (F : Fun K "is_standing" "is_standing" sStanding f fd) (B : B0 K mg) (zsum : mg "sum" = none) (FI : Fun K "is_integer" "is_integer" sIsInt fI fdI) (bI : Binds K fdI ["thing"] []) (gI : mg "is_integer" = some (.ref fI))
    (FD : Fun K "is_dict_of" "is_dict_of" sDictOf fD fdD) (bD : Binds K fdD ["keys", "thing", "is_right"] []) (gD : mg "is_dict_of" = some (.ref fD)) :
    FnOk P w K mg base CX0 3 f fd ["names", "thing"] (spStanding K) := by
  have GD : FnOk P w K mg base CX0 2 fD fdD ["keys", "thing", "is_right"] (spDictOf K fI) := ok_dictOf FD B FI bI
  refine F.ok scStanding (fun vs H Q E h => ?_) (fun cdv A outer s H vs Q E hr h => ?_)
  · obtain ⟨n, zs, v, k, rfl, _⟩ := h
    rfl
  · obtain ⟨n, zs, v, k, rfl, hn, h0, hl, ht, kno, kyes⟩ := h
    have hu := hu_of hr
    refine ⟨_, pss_cons (ps_if (pt_not (pt_val (pe_call GD hr (by rfl) gD FD.kp bD .nil pass0 (pa_cons (pv 0) (pa_cons (pv 1) (pa_cons (pe_glob (v := .ref fI) (by rfl) gI rfl) pa_nil)))))) (pss_one (ps_ret pe_bl)) pss_nil)
      (pss_cons (ps_set (i := 2) scStanding.nd rfl (Or.inr rfl) (pe_callB call_len_seq (by rfl) B.len PySem.boot_len (pa_cons (pv 0) pa_nil)))
      (pss_cons (ps_if (pt_cmpR op_ne (pe_callB (cr_sum rfl) (by rfl) zsum (by decide +kernel) (pa_cons (pe_lc (te := tDGet (tVar 1) (tVar 3)) (own := [("name", 3)]) (g := gName 3) (tt := tYes) rfl scStanding.nd
          (pi_list (pv 0)) (blkOk_by (N := ["names", "thing", "many", "name"]) (sc := defScope sStanding) (by decide +kernel)) (fun _ _ _ _ _ => pg_name (i := 3) scStanding.nd rfl (Or.inl rfl)) (fun _ _ _ _ _ => pts_nil)
          (fun _ _ _ _ _ => by exact (pe_dget hu (pv 1) (pv 3) (fun _ _ => rfl)))) pa_nil)) (pe_op op_fdiv (pe_op op_mul (pv 2) (pe_op op_sub (pv 2) pe_int)) pe_int) (nomark _)) (pss_one (ps_ret pe_bl)) pss_nil)
      (pss_one (ps_ret (pe_cmpR op_eq (pe_callB cr_lenSI (by rfl) B.len (by decide +kernel) (pa_cons (pe_scI (te := tOp (rI (fun _ j => 0 < j) fun i j => .int (i % j)) (tDGet (tVar 1) (tVar 3)) (tVar 2)) (own := [("name", 3)]) (g := gName 3) (tt := tYes) rfl scStanding.nd
          (pi_list (pv 0)) (blkOk_by (N := ["names", "thing", "many", "name"]) (sc := defScope sStanding) (by decide +kernel)) ⟨fun _ _ _ _ _ => pg_name (i := 3) scStanding.nd rfl (Or.inl rfl), fun _ _ _ _ _ => pts_nil,
          fun _ _ _ _ _ => by exact (pe_op op_mod (pe_dget hu (pv 1) (pv 3) (fun _ _ => rfl)) (pv 2))⟩) pa_nil)) (pv 2) (nomark _)))))), ?_⟩
    have hlen : (zs.map V.str).length = zs.length := List.length_map _
    refine ⟨_, rfl, _, rfl, n, zs, v, k, rfl, hn, hl, ht, fun hk H1 s1 => ⟨false, rfl, iteT (kno hk H1 s1)⟩, fun hk => ?_⟩
    obtain ⟨d, kvs, rfl, hd, hth, q⟩ := kyes hk
    refine ⟨d, kvs, rfl, hd, hth, fun H1 s1 => ⟨dictB zs kvs, rfl, ?_⟩⟩
    cases hB : dictB zs kvs with
    | false =>
      have q' := q H1 s1
      have er : standB zs kvs = false := by unfold standB; rw [hB]; rfl
      rw [er] at q'
      exact iteT q'
    | true =>
      have hpl := dict_place hB
      refine iteF ⟨_, rfl, n, _, rfl, .inl (SqL.of (s1 _ _ hn)), ?_⟩
      rw [hlen]
      refine ⟨_, rfl, n, rfl, ⟨_, SqL.of (s1 _ _ hn)⟩, fun D hD => ?_⟩
      have nameAt : ∀ {i : Nat} {x : V}, (zs.map V.str)[i]? = some x → ∃ z, zs[i]? = some z ∧ z ∈ zs ∧ x = .str z := fun {i x} hx => by
        rw [List.getElem?_map] at hx
        cases qz : zs[i]? with
        | none => rw [qz] at hx; cases hx
        | some z => rw [qz] at hx; cases hx; exact ⟨z, rfl, List.mem_of_getElem? qz, rfl⟩
      refine lc_it (walk_list (K := K) (a := n) (xs := zs.map V.str)) (fun i H' => Same H1 H' ∧ H' D = some (.lst ((zs.take i).map fun z => V.int (placeOf kvs z)))) ⟨same_upd hD, upd_same⟩ (fun i H' _ p => SqL.of (p.1 _ _ (s1 _ _ hn))) ?_ ?_
      · rintro i x H2 H3 hi ⟨sm, hacc⟩ ⟨rfl, hx⟩
        obtain ⟨z, hz, hzm, rfl⟩ := nameAt hx
        refine ⟨rfl, tyes ?_⟩
        refine ⟨_, rfl, _, rfl, d, _, rfl, hpl z hzm ▸ DGet.k (k := (Sum.inr z : Key)) (sm _ _ (s1 _ _ hd)), _, hacc, ?_, fun b u hb => ?_, ?_⟩
        · rw [List.length_map, List.length_take]
          exact Nat.lt_of_le_of_lt (Nat.le_trans (Nat.min_le_right _ _) hl) (by decide)
        · rw [upd_ne (ne_of_none hb hD)]
          exact sm _ _ hb
        · rw [upd_same, take_more hz, List.map_append]
          rfl
      · rintro H2 ⟨sm, hacc⟩
        have hacc' : H2 D = some (.lst ((placesOf zs kvs).map V.int)) := by
          rw [hacc, show (zs.map V.str).length = zs.length from hlen, List.take_length]
          unfold placesOf
          rw [List.map_map]
          rfl
        refine ⟨D, placesOf zs kvs, rfl, SqL.of hacc', ?_⟩
        refine ⟨_, rfl, _, rfl, _, _, rfl, rfl, _, _, rfl, rfl, .inl ⟨by omega, by omega⟩, _, _, rfl, rfl, ⟨by decide, by decide⟩, rfl, _, rfl, ?_⟩
        by_cases hsum : (placesOf zs kvs).sum = (zs.length : Int) * ((zs.length : Int) - 1) / 2
        · have e1 : (!decide (V.int (placesOf zs kvs).sum = V.int ((zs.length : Int) * ((zs.length : Int) - 1) / 2))) = false := by rw [hsum]; simp
          rw [e1]
          refine iteF ⟨_, rfl, n, rfl, ⟨_, SqL.of (sm _ _ (s1 _ _ hn))⟩, fun D2 hD2 => ?_⟩
          have hrl : (restsOf zs kvs).length = zs.length := by unfold restsOf placesOf; rw [List.length_map, List.length_map]
          have hpos : (0 : Int) < (zs.length : Nat) := by omega
          refine sc_it (walk_list (K := K) (a := n) (xs := zs.map V.str)) (fun i H' => Same H2 H' ∧ ∃ S m, H' D2 = some (SetO w D2 S m) ∧ (∀ j, S j = decide (j ∈ (restsOf zs kvs).take i)) ∧ m = (onceI ((restsOf zs kvs).take i).reverse).length)
            ⟨same_upd hD2, _, _, upd_same, fun j => by simp, rfl⟩ (fun i H' _ p => SqL.of (p.1 _ _ (sm _ _ (s1 _ _ hn)))) ?_ ?_
          · rintro i x H3 H4 hi ⟨sm3, S, m, hS, hmem, hm⟩ ⟨rfl, hx⟩
            obtain ⟨z, hz, hzm, rfl⟩ := nameAt hx
            have hri : (restsOf zs kvs)[i]? = some (placeOf kvs z % (zs.length : Int)) := by
              unfold restsOf placesOf
              rw [List.getElem?_map, List.getElem?_map, hz]
              rfl
            refine ⟨rfl, tyes ?_⟩
            refine ⟨_, rfl, _, rfl, d, _, rfl, hpl z hzm ▸ DGet.k (k := (Sum.inr z : Key)) (sm3 _ _ (sm _ _ (s1 _ _ hd))), _, rfl, _, _, rfl, rfl, hpos, _, S, m, rfl, hS, ?_, fun b u hb => ?_, _, _, upd_same, fun j => ?_, ?_⟩
            · have le := once_le ((restsOf zs kvs).take i).reverse
              rw [List.length_reverse, List.length_take] at le
              rw [hm]
              exact Nat.lt_of_le_of_lt (Nat.add_le_add_right (Nat.le_trans le (Nat.le_trans (Nat.min_le_right _ _) (by rw [hrl]; exact hl))) 1) (by decide)
            · rw [upd_ne (ne_of_none hb hD2)]
              exact sm3 _ _ hb
            · rw [take_more hri, hmem j]
              simp
            · rw [take_more hri, List.reverse_append]
              show _ = (onceI (placeOf kvs z % (zs.length : Int) :: ((restsOf zs kvs).take i).reverse)).length
              rw [hmem, hm, once_cons]
              by_cases hin : placeOf kvs z % (zs.length : Int) ∈ (restsOf zs kvs).take i
              · rw [decide_eq_true hin, if_pos rfl, if_pos (mem_once.mpr (List.mem_reverse.mpr hin))]
              · rw [decide_eq_false hin, if_neg Bool.false_ne_true, if_neg (fun q => hin (List.mem_reverse.mp (mem_once.mp q))), List.length_cons]
          · rintro H3 ⟨sm3, S, m, hS, hmem, hm⟩
            refine ⟨D2, S, m, rfl, hS, _, rfl, rfl, ?_⟩
            rw [show (zs.map V.str).length = zs.length from hlen, List.take_of_length_le (Nat.le_of_eq hrl)] at hm
            have q' := q H3 (s1.trans (sm.trans sm3))
            have er : standB zs kvs = decide (V.int (m : Nat) = V.int (zs.length : Nat)) := by
              unfold standB
              rw [hB, decide_eq_true hsum, Bool.true_and, Bool.true_and]
              have key : (restsOf zs kvs).Nodup ↔ V.int (m : Nat) = V.int (zs.length : Nat) := by
                rw [← List.nodup_reverse', ← once_all, List.length_reverse, hrl, ← hm]
                exact ⟨fun e => by rw [e], fun e => by have := V.int.inj e; omega⟩
              exact decide_eq_decide.mpr key
            rw [er] at q'
            exact q'
        · have e1 : (!decide (V.int (placesOf zs kvs).sum = V.int ((zs.length : Int) * ((zs.length : Int) - 1) / 2))) = true := by
            rw [decide_eq_false (fun z => hsum (V.int.inj z))]; rfl
          rw [e1]
          have q' := q H2 (s1.trans sm)
          have er : standB zs kvs = false := by unfold standB; rw [hB, decide_eq_false hsum]; rfl
          rw [er] at q'
          exact iteT q'
end
end RK

namespace RK
open PySem L2
/-! ### what refuses -/
/-- an error class with one attribute -/
structure ErrAt (P : Program) (K : PySem.W.Frag) (mg : Str → Option Value) (nm fld : Str) (C f : Addr) : Prop where
  g : mg nm = some (.ref C)
  x : PySem.XW.XTxt P K mg fld C f
/-- a path or a thing that is none -/
def spWalkersOf (K : PySem.W.Frag) (C CP : Addr) : Sp := fun vs H Q E => ∃ v, vs = [v] ∧
  ((∃ k, Th K H v k ∧ ∀ d H', Same H H' → H' d = some (.xd [("thing", v)]) → E (.ref CP) (some d) H') ∨
   ∃ p t zs, v = .ref p ∧ PathAt C H p t zs ∧ ∀ l, H l = none → Q (.ref l) (upd H l (.lst (zs.map V.str))))
/-- names, and a thing that is a stand or none -/
def spNeedSt (K : PySem.W.Frag) (CS : Addr) : Sp := fun vs H Q E => ∃ (n : Addr) (zs : List Str) (v : V) (k : Kd), vs = [.ref n, v] ∧ H n = some (.lst (zs.map V.str)) ∧ 0 < zs.length ∧ zs.length ≤ 1000 ∧ Th K H v k ∧
  (k.isDict = false → ∀ d H', Same H H' → H' d = some (.xd [("stand", v)]) → E (.ref CS) (some d) H') ∧
  (k.isDict = true → ∃ dd kvs, v = .ref dd ∧ H dd = some (.dK kvs) ∧ (∀ kv ∈ kvs, ∃ kx, Th K H kv.2 kx) ∧
    (standB zs kvs = false → ∀ d H', Same H H' → H' d = some (.xd [("stand", v)]) → E (.ref CS) (some d) H') ∧ (standB zs kvs = true → ∀ H', Same H H' → Q .non H'))
def spNeedWa (K : PySem.W.Frag) (CW : Addr) : Sp := fun vs H Q E => ∃ (n : Addr) (zs : List Str) (v : V) (k : Kd), vs = [.ref n, v] ∧ H n = some (.lst (zs.map V.str)) ∧ Th K H v k ∧
  (walkB zs v = false → ∀ d H', Same H H' → H' d = some (.xd [("walker", v)]) → E (.ref CW) (some d) H') ∧ (walkB zs v = true → ∀ H', Same H H' → Q .non H')
section
variable {P : Program} {w : World} {K : PySem.W.Frag} {mg : Str → Option Value} {base : Heap} {C CB fB fE CP fP CS fS CW fW : Addr}
theorem scWalkersOf : FnScope ["path"] ["path"] (defScope sWalkersOf) := ⟨rfl, rfl, rfl, by decide +kernel, rfl, by decide +kernel, by decide +kernel⟩
theorem ok_walkersOf {f fw : Addr} {fd fdw : FuncData} (F : Fun K "walkers_of" "walkers_of" sWalkersOf f fd) (B : B0 K mg) (T : PT0 P K mg C CB fB) (T1 : PT1 K C fE) (EP : ErrAt P K mg "BadPath" "thing" CP fP)
    (FW : Fun K "walkers" "Path.walkers" sWalkers fw fdw) (bw : Binds K fdw ["self"] []) (mw : Meth K C "walkers" fw) : FnOk P w K mg base (L2.CX P w) 2 f fd ["path"] (spWalkersOf K C CP) := by
  have GW : FnOk P w K mg base CX0 1 fw fdw ["self"] (spWalkers C) := ok_walkers FW B T
  refine F.okX scWalkersOf (fun vs H Q E h => ?_) (fun cdv A outer s H vs Q E hr h => ?_)
  · obtain ⟨v, rfl, _⟩ := h
    rfl
  · obtain ⟨v, rfl, h⟩ := h
    refine ⟨_, pss_cons (ps_if (pt_not (pt_val (pe_callB call_isiZ (by rfl) B.isi (by decide +kernel) (pa_cons (pv 0) (pa_cons (pe_glob (v := .ref C) (by rfl) T.mgC rfl) pa_nil))))) (pss_one (ps_raiseX rfl EP.x EP.g hr (takes_of rfl rfl rfl rfl) (by exact (pa_cons (pv 0) pa_nil)))) pss_nil)
      (pss_one (ps_ret (pe_meth0 (pv 0) T.cl mw GW hr bw .nil pass0))), ?_⟩
    rcases h with ⟨k, ht, kbad⟩ | ⟨p, t, zs, rfl, hp, kgood⟩
    · refine ⟨_, rfl, v, .ref C, _, .ref C, false, rfl, .own C, ht.ty, kit_no T1 k, false, rfl, iteT ?_⟩
      exact ⟨_, rfl, _, rfl, fun d hd => kbad d _ (same_upd hd) upd_same⟩
    · refine ⟨_, rfl, .ref p, .ref C, _, .ref C, true, rfl, .own C, hp.ty T T1, kit_yes, true, rfl, iteF ?_⟩
      obtain ⟨dy, ho⟩ := hp.ob
      exact ⟨_, rfl, p, dy, _, rfl, ho, fNames_no t (by decide +kernel), p, t, zs, rfl, hp, fun l hl => kgood l hl⟩
theorem scNeedSt : FnScope ["names", "stand"] ["names", "stand"] (defScope sNeedSt) := ⟨rfl, rfl, rfl, by decide +kernel, rfl, by decide +kernel, by decide +kernel⟩
theorem ok_needSt {f fT : Addr} {fd fdT : FuncData} (F : Fun K "need_stand" "need_stand" sNeedSt f fd) (ES : ErrAt P K mg "BadStand" "stand" CS fS)
    (GT : FnOk P w K mg base CX0 3 fT fdT ["names", "thing"] (spStanding K)) (bT : Binds K fdT ["names", "thing"] []) (gT : mg "is_standing" = some (.ref fT)) (kT : PySem.W.keepIn K (.ref fT) = true) :
    FnOk P w K mg base (L2.CX P w) 4 f fd ["names", "stand"] (spNeedSt K CS) := by
  refine F.okX scNeedSt (fun vs H Q E h => ?_) (fun cdv A outer s H vs Q E hr h => ?_)
  · obtain ⟨n, zs, v, k, rfl, _⟩ := h
    rfl
  · obtain ⟨n, zs, v, k, rfl, hn, h0, hl, ht, kno, kyes⟩ := h
    refine ⟨_, pss_one (ps_if (pt_not (pt_val (pe_call GT hr (by rfl) gT kT bT .nil pass0 (pa_cons (pv 0) (pa_cons (pv 1) pa_nil))))) (pss_one (ps_raiseX rfl ES.x ES.g hr (takes_of rfl rfl rfl rfl) (by exact (pa_cons (pv 1) pa_nil)))) pss_nil), ?_⟩
    refine ⟨_, rfl, _, rfl, n, zs, v, k, rfl, hn, h0, hl, ht, fun hk H1 s1 => ⟨false, rfl, iteT ⟨_, rfl, _, rfl, fun d hd => kno hk d _ (s1.trans (same_upd hd)) upd_same⟩⟩, fun hk => ?_⟩
    obtain ⟨dd, kvs, rfl, hd, hth, kbad, kgood⟩ := kyes hk
    refine ⟨dd, kvs, rfl, hd, hth, fun H1 s1 => ⟨_, rfl, ?_⟩⟩
    cases hB : standB zs kvs with
    | false => exact iteT ⟨_, rfl, _, rfl, fun d hd => kbad hB d _ (s1.trans (same_upd hd)) upd_same⟩
    | true => exact iteF (kgood hB H1 s1)
end
end RK

namespace L2
open PySem PySem.Spec PyProof.Rows
abbrev DTurn (g : TG) (tt : TT) (tk tv : TE) (vs : List Nat) (σ : St) (D : Addr) (Nx : Hp → Prop) (x : V) (G : Hp) : Prop :=
  g x (wipe σ vs) G fun ρ G1 => wipe ρ vs = wipe σ vs ∧ tt ρ G1 fun b G2 => if b = true then tk ρ G2 fun y G3 => tv ρ G3 fun z G4 => ∃ kvs k, y = kV k ∧ G4 D = some (.dK kvs) ∧ kvs.length < sizeLine ∧ Nx (upd G4 D (.dK (putK kvs k z))) else Nx G2
/-- a dict comprehension over a walk -/
theorem dc_it {J : It} {n : Nat} {G : Hp → Prop} {Y : Nat → Hp → V → Hp → Prop} (wk : Walk J n G Y) {D : Addr} {g : TG} {tt : TT} {tk tv : TE} {vs : List Nat} {σ : St} {H1 : Hp} {Qd : Hp → Prop} (Pv : Nat → Hp → Prop)
    (begins : Pv 0 (upd H1 D (.dK []))) (stands : ∀ i H, i ≤ n → Pv i H → G H) (turns : ∀ i x H H', i < n → Pv i H → Y i H x H' → DTurn g tt tk tv vs σ D (Pv (i + 1)) x H') (ends : ∀ H, Pv n H → Qd H) :
    ∃ W : Nat → Nat → Hp → Prop, (∃ m, W 0 m (upd H1 D (.dK []))) ∧ ∀ i m H, W i m H →
      (J.stop i H ∧ Qd H) ∨ (J.go i H ∧ ∃ Nx : Hp → Prop, (∀ H', Nx H' → ∃ m', m' < m ∧ W (i + 1) m' H') ∧ ∀ x H', J.yld i H x H' → DTurn g tt tk tv vs σ D Nx x H') := by
  refine ⟨fun i m H => i ≤ n ∧ m = n - i ∧ Pv i H, ⟨n, Nat.zero_le _, rfl, begins⟩, ?_⟩
  rintro i m H ⟨hi, rfl, p⟩
  rcases Nat.lt_or_eq_of_le hi with lt | rfl
  · exact .inr ⟨wk.goes i H lt (stands i H hi p), Pv (i + 1), fun H' p' => ⟨n - (i + 1), by omega, lt, rfl, p'⟩, fun x H' y => turns i x H H' lt p (wk.yields i H x H' lt (stands i H hi p) y)⟩
  · exact .inl ⟨wk.stops H (stands i H hi p), ends H p⟩
end L2
namespace RK
open PySem L2
/-! ### numbers below n, each once -/
theorem nodup_le : ∀ (n : Nat) (l : List Int), l.Nodup → (∀ x ∈ l, 0 ≤ x ∧ x < (n : Int)) → l.length ≤ n
  | 0, l, _, hb => by
    cases l with
    | nil => exact Nat.le_refl _
    | cons x r => have := hb x List.mem_cons_self; omega
  | n + 1, l, hn, hb => by
    have ih := nodup_le n (l.filter fun x => decide (x ≠ (n : Int))) (hn.sublist List.filter_sublist) (fun x hx => by
      rw [List.mem_filter] at hx
      have := hb x hx.1
      have h2 : x ≠ (n : Int) := of_decide_eq_true hx.2
      omega)
    have hc : l.length = (l.filter fun x => decide (x ≠ (n : Int))).length + (l.filter fun x => !decide (x ≠ (n : Int))).length := by
      clear ih hn hb
      induction l with
      | nil => rfl
      | cons y r ihr =>
        rw [List.filter_cons, List.filter_cons]
        by_cases h : y = (n : Int)
        · rw [if_neg (by simp [h]), if_pos (by simp [h]), List.length_cons, List.length_cons]; omega
        · rw [if_pos (by simp [h]), if_neg (by simp [h]), List.length_cons, List.length_cons]; omega
    have h1 : (l.filter fun x => !decide (x ≠ (n : Int))).length ≤ 1 := by
      have hs : (l.filter fun x => !decide (x ≠ (n : Int))).Nodup := hn.sublist List.filter_sublist
      have he : ∀ x ∈ (l.filter fun x => !decide (x ≠ (n : Int))), x = (n : Int) := fun x hx => by
        rw [List.mem_filter] at hx
        simpa using hx.2
      revert hs he
      generalize (l.filter fun x => !decide (x ≠ (n : Int))) = m
      intro hs he
      match m, hs, he with
      | [], _, _ => exact Nat.zero_le _
      | [x], _, _ => exact Nat.le_refl _
      | x :: y :: r, hs, he =>
        have e1 := he x List.mem_cons_self
        have e2 := he y (List.mem_cons_of_mem _ List.mem_cons_self)
        rw [List.nodup_cons] at hs
        exact absurd (by rw [e1, e2]; exact List.mem_cons_self) hs.1
    omega
theorem pigeon {n : Nat} {l : List Int} (hn : l.Nodup) (hb : ∀ x ∈ l, 0 ≤ x ∧ x < (n : Int)) (hl : l.length = n) {r : Int} (h0 : 0 ≤ r) (h1 : r < (n : Int)) : r ∈ l := by
  refine Classical.byContradiction fun h => ?_
  have := nodup_le n (r :: l) (List.nodup_cons.mpr ⟨h, hn⟩) (fun x hx => by
    rcases List.mem_cons.mp hx with rfl | hx
    · exact ⟨h0, h1⟩
    · exact hb x hx)
  rw [List.length_cons] at this
  omega
/-! ### who is right ahead -/
def nextOf (zs : List Str) (kvs : List (Key × V)) (z : Str) : Option Str := zs.find? fun y => decide (placeOf kvs y % (zs.length : Int) = (placeOf kvs z + 1) % (zs.length : Int))
theorem next_is {zs : List Str} {kvs : List (Key × V)} (h : standB zs kvs = true) (h0 : 0 < zs.length) (z : Str) : ∃ y, nextOf zs kvs z = some y ∧ y ∈ zs ∧ placeOf kvs y % (zs.length : Int) = (placeOf kvs z + 1) % (zs.length : Int) := by
  have hpos : (0 : Int) < (zs.length : Nat) := by omega
  have hnd : (restsOf zs kvs).Nodup := of_decide_eq_true (Bool.and_eq_true_iff.mp (Bool.and_eq_true_iff.mp h).2).2
  have hlen : (restsOf zs kvs).length = zs.length := by unfold restsOf placesOf; rw [List.length_map, List.length_map]
  have hm : (placeOf kvs z + 1) % (zs.length : Int) ∈ restsOf zs kvs := pigeon hnd (fun x hx => by
    unfold restsOf at hx
    obtain ⟨p, _, rfl⟩ := List.mem_map.mp hx
    exact ⟨Int.emod_nonneg _ (by omega), Int.emod_lt_of_pos _ hpos⟩) hlen (Int.emod_nonneg _ (by omega)) (Int.emod_lt_of_pos _ hpos)
  unfold restsOf placesOf at hm
  rw [List.map_map] at hm
  obtain ⟨y, hy, e⟩ := List.mem_map.mp hm
  cases q : nextOf zs kvs z with
  | none =>
    have := List.find?_eq_none.mp q y hy
    exact absurd (decide_eq_true e) this
  | some u =>
    have q2 := q
    unfold nextOf at q2
    have q3 := List.find?_some (p := fun y => decide (placeOf kvs y % (zs.length : Int) = (placeOf kvs z + 1) % (zs.length : Int))) q2
    exact ⟨u, rfl, List.mem_of_find?_eq_some q2, of_decide_eq_true q3⟩
theorem val_rests {g : Str → Int} {r : Int} : ∀ {zs : List Str}, valV (zs.map fun z => ((Sum.inl (g z) : Key), V.str z)) (Sum.inl r : Key) = (zs.find? fun y => decide (g y = r)).map V.str
  | [] => rfl
  | z :: t => by
    rw [List.map_cons, List.find?_cons]
    by_cases h : g z = r
    · rw [valV_pos (by rw [h]), decide_eq_true h]
      rfl
    · rw [valV_neg (fun e => h (Sum.inl.inj e)), decide_eq_false h]
      exact val_rests
theorem put_new {kvs : List (Key × V)} {k : Key} {v : V} (h : ∀ kv ∈ kvs, kv.1 ≠ k) : putK kvs k v = kvs ++ [(k, v)] := by
  unfold putK
  rw [if_neg]
  intro q
  obtain ⟨kv, hkv, e⟩ := List.any_eq_true.mp q
  exact h kv hkv (of_decide_eq_true e)
theorem nodup_take {α : Type} {l : List α} {i : Nat} {x : α} (hn : l.Nodup) (h : l[i]? = some x) : x ∉ l.take i := by
  have e := take_more h
  have hs : (l.take (i + 1)).Nodup := hn.sublist (List.take_sublist _ _)
  rw [e] at hs
  have := (List.nodup_append.mp hs).2.2
  exact fun hm => this x hm x List.mem_cons_self rfl
end RK

namespace RK
open PySem L2
/-! ### first places, who is ahead -/
def firstKv (zs : List Str) : List (Key × V) := zs.zipIdx.map fun p => ((Sum.inr p.1 : Key), V.int (p.2 : Nat))
theorem first_more {l : List Str} {x : Str} : firstKv (l ++ [x]) = firstKv l ++ [((Sum.inr x : Key), V.int (l.length : Nat))] := by
  unfold firstKv
  rw [List.zipIdx_append, List.map_append]
  simp
theorem first_keys {l : List Str} : (firstKv l).map (·.1) = l.map fun z => (Sum.inr z : Key) := by
  unfold firstKv
  rw [List.map_map]
  have e : ((fun x => x.1) ∘ fun (p : Str × Nat) => ((Sum.inr p.1 : Key), V.int (p.2 : Nat))) = (fun z => (Sum.inr z : Key)) ∘ Prod.fst := rfl
  rw [e, ← List.map_map, List.zipIdx_map_fst]
theorem no_key {l : List Str} {x : Str} {kvs : List (Key × V)} (hk : kvs.map (·.1) = l.map fun z => (Sum.inr z : Key)) (h : x ∉ l) : ∀ kv ∈ kvs, kv.1 ≠ (Sum.inr x : Key) := fun kv hkv e => by
  have hm : kv.1 ∈ kvs.map (·.1) := List.mem_map_of_mem hkv
  rw [hk, e] at hm
  obtain ⟨z, hz, e2⟩ := List.mem_map.mp hm
  exact h (Sum.inr.inj e2 ▸ hz)
theorem name_at {zs : List Str} {i : Nat} {x : V} (hx : (zs.map V.str)[i]? = some x) : ∃ z, zs[i]? = some z ∧ z ∈ zs ∧ x = .str z := by
  rw [List.getElem?_map] at hx
  cases qz : zs[i]? with
  | none => rw [qz] at hx; cases hx
  | some z => rw [qz] at hx; cases hx; exact ⟨z, rfl, List.mem_of_getElem? qz, rfl⟩
def spFirstPl (_K : PySem.W.Frag) : Sp := fun vs H Q _ => ∃ (n : Addr) (zs : List Str), vs = [.ref n] ∧ H n = some (.lst (zs.map V.str)) ∧ zs.Nodup ∧ zs.length ≤ 1000 ∧ ∀ d H', H d = none → H' d = some (.dK (firstKv zs)) → Same H H' → Q (.ref d) H'
/-- the dict that tells who is ahead -/
def aheadKv (zs : List Str) (kvs : List (Key × V)) : List (Key × V) := zs.map fun z => ((Sum.inr z : Key), V.str ((nextOf zs kvs z).getD z))
section
variable {P : Program} {w : World} {K : PySem.W.Frag} {mg : Str → Option Value} {base : Heap}
theorem scFirstPl : FnScope ["names", "index", "name"] ["names"] (defScope sFirstPl) := ⟨rfl, rfl, rfl, by decide +kernel, rfl, by decide +kernel, by decide +kernel⟩
theorem ok_firstPl {f : Addr} {fd : FuncData} (F : Fun K "first_places" "first_places" sFirstPl f fd) (B : B0 K mg) : FnOk P w K mg base CX0 1 f fd ["names"] (spFirstPl K) := by
  refine F.ok scFirstPl (fun vs H Q E h => ?_) (fun cdv A outer s H vs Q E hr h => ?_)
  · obtain ⟨n, zs, rfl, _⟩ := h
    rfl
  · obtain ⟨n, zs, rfl, hn, hnd, hl, q⟩ := h
    refine ⟨_, pss_one (ps_ret (pe_dc (tk := tVar 2) (tv := tVar 1) (own := [("index", 1), ("name", 2)]) (g := gTup K 2 (gCons (gName 1) (gCons (gName 2) gNil))) (tt := tYes) rfl scFirstPl.nd (pi_enum (by rfl) B.enum (pa_cons (pv 0) pa_nil)) (blkOk_by (N := ["names", "index", "name"]) (sc := defScope sFirstPl) (by decide +kernel))
      (fun _ _ _ _ _ => by exact (pg_tup rfl (pgs_cons (pg_name (i := 1) scFirstPl.nd rfl (Or.inl rfl)) (pgs_cons (pg_name (i := 2) scFirstPl.nd rfl (Or.inl rfl)) pgs_nil)))) (fun _ _ _ _ _ => pts_nil)
      (fun _ _ _ _ _ => by exact (pv 2)) (fun _ _ _ _ _ => by exact (pv 1)))), ?_⟩
    refine ⟨_, rfl, n, _, rfl, SqL.of hn, fun D hD => ?_⟩
    have hlen : (zs.map V.str).length = zs.length := List.length_map _
    refine dc_it (walk_enum (K := K) (a := n) (xs := zs.map V.str)) (fun i H' => Same H H' ∧ H' D = some (.dK (firstKv (zs.take i)))) ⟨same_upd hD, upd_same⟩ (fun i H' _ p => SqL.of (p.1 _ _ hn)) ?_ ?_
    · rintro i x H1 H2 hi ⟨sm, hacc⟩ ⟨T, x1, y, rfl, hT, rfl, hx1, hy⟩
      cases hx1
      replace hy : (zs.map V.str)[i]? = some y := hy
      obtain ⟨z, hz, hzm, rfl⟩ := name_at hy
      have sT := same_upd (o := .tup [.int (i : Nat), V.str z]) hT
      have hli : (zs.take i).length = i := by rw [List.length_take]; rw [hlen] at hi; omega
      refine ⟨T, _, rfl, SqT.of upd_same, rfl, _, _, rfl, _, _, rfl, rfl, rfl, tyes ?_⟩
      refine ⟨_, rfl, _, rfl, firstKv (zs.take i), (Sum.inr z : Key), rfl, sT _ _ hacc, ?_, fun b u hb => ?_, ?_⟩
      · unfold firstKv
        rw [List.length_map, List.length_zipIdx, hli]
        exact Nat.lt_of_le_of_lt (Nat.le_trans (Nat.le_of_lt hi) (by rw [hlen]; exact hl)) (by decide)
      · rw [upd_ne (ne_of_none hb hD)]
        exact sT _ _ (sm _ _ hb)
      · rw [upd_same, put_new (no_key first_keys (nodup_take hnd hz)), take_more hz, first_more, hli]
    · rintro H1 ⟨sm, hacc⟩
      rw [show (zs.map V.str).length = zs.length from hlen, List.take_length] at hacc
      exact q D H1 hD hacc sm
end
end RK

namespace RK
open PySem L2
/-! ### going round -/
/-- of one rest there is one walker -/
theorem rest_inj {zs : List Str} {kvs : List (Key × V)} (h : standB zs kvs = true) {y z : Str} (hy : y ∈ zs) (hz : z ∈ zs) (e : placeOf kvs y % (zs.length : Int) = placeOf kvs z % (zs.length : Int)) : y = z := by
  have hnd : (restsOf zs kvs).Nodup := of_decide_eq_true (Bool.and_eq_true_iff.mp (Bool.and_eq_true_iff.mp h).2).2
  unfold restsOf placesOf at hnd
  rw [List.map_map] at hnd
  obtain ⟨i, hi, rfl⟩ := List.getElem_of_mem hy
  obtain ⟨j, hj, rfl⟩ := List.getElem_of_mem hz
  have hl : ∀ {k : Nat}, k < zs.length → k < (zs.map ((fun p => p % (zs.length : Int)) ∘ placeOf kvs)).length := fun hk => by rw [List.length_map]; exact hk
  have q := (List.getElem_inj (h₀ := hl hi) (h₁ := hl hj) hnd).mp (by rw [List.getElem_map, List.getElem_map]; exact e)
  subst q
  rfl
section
variable {P : Program} {w : World} {K : PySem.W.Frag} {mg : Str → Option Value} {base : Heap} {C CP CS CW : Addr}
end
end RK

/-! comprehensions over zip of two lists or of two tuples -/
namespace L2
open PySem PySem.Spec PyProof.Rows RZ
theorem walk_zipT {K : PySem.W.Frag} {a b : Addr} {xs ys : List V} {n : Nat} (hn : n = min xs.length ys.length) : Walk (ItzT K a b) n (fun H => SqT K H a xs ∧ SqT K H b ys) (YPair (fun i => xs[i]?) (fun i => ys[i]?)) := by
  subst hn
  refine ⟨fun i _ hi q => ?_, fun _ q => ⟨xs, ys, q.1, q.2, ?_⟩, fun i H v H' _ q y => ?_⟩
  · obtain ⟨h1, h2⟩ : i < xs.length ∧ i < ys.length := by omega
    exact ⟨xs, ys, xs[i], ys[i], q.1, q.2, by simp [h1], by simp [h2]⟩
  · omega
  · obtain ⟨T, x, z, e1, e2, e3, e4, e5⟩ := y
    exact ⟨T, x, z, e1, e2, e3, e4 xs q.1, e5 ys q.2⟩
theorem lc_zipA {K : PySem.W.Frag} {a b : Addr} {xs ys : List V} {g : TG} {tt : TT} {te : TE} {vs : List Nat} {σ : St} {H : Hp} {Q : Addr → Hp → Prop} (hl : xs.length = ys.length)
    (hq : (SqL K H a xs ∧ SqL K H b ys) ∨ (SqT K H a xs ∧ SqT K H b ys)) (Pv : Addr → Nat → Hp → Prop) (h0 : ∀ D, H D = none → Pv D 0 (upd H D (.lst [])))
    (hk : ∀ D i H', H D = none → Pv D i H' → Same H H')
    (hs : ∀ D i x y T H', H D = none → xs[i]? = some x → ys[i]? = some y → Pv D i H' → H' T = none → g (.ref T) (wipe σ vs) (upd H' T (.tup [x, y])) fun σ2 H2 => wipe σ2 vs = wipe σ vs ∧ tt σ2 H2 fun b H3 =>
      if b = true then te σ2 H3 fun y H4 => ∃ acc, H4 D = some (.lst acc) ∧ acc.length < sizeLine ∧ Pv D (i + 1) (upd H4 D (.lst (acc ++ [y]))) else Pv D (i + 1) H3) (hd : ∀ D H', H D = none → Pv D xs.length H' → Q D H') :
    (SqL K H a xs ∧ SqL K H b ys ∧ ∀ D, H D = none → ∃ W : Nat → Nat → Hp → Prop, (∃ m, W 0 m (upd H D (.lst []))) ∧ ∀ i m H', W i m H' →
      ((Itz K a b).stop i H' ∧ Q D H') ∨ ((Itz K a b).go i H' ∧ ∃ Nx : Hp → Prop, (∀ H', Nx H' → ∃ m', m' < m ∧ W (i + 1) m' H') ∧ ∀ x H2, (Itz K a b).yld i H' x H2 → g x (wipe σ vs) H2 fun σ2 H2 => wipe σ2 vs = wipe σ vs ∧ tt σ2 H2 fun b H3 =>
        if b = true then te σ2 H3 fun y H4 => ∃ acc, H4 D = some (.lst acc) ∧ acc.length < sizeLine ∧ Nx (upd H4 D (.lst (acc ++ [y]))) else Nx H3)) ∨
    (SqT K H a xs ∧ SqT K H b ys ∧ ∀ D, H D = none → ∃ W : Nat → Nat → Hp → Prop, (∃ m, W 0 m (upd H D (.lst []))) ∧ ∀ i m H', W i m H' →
      ((ItzT K a b).stop i H' ∧ Q D H') ∨ ((ItzT K a b).go i H' ∧ ∃ Nx : Hp → Prop, (∀ H', Nx H' → ∃ m', m' < m ∧ W (i + 1) m' H') ∧ ∀ x H2, (ItzT K a b).yld i H' x H2 → g x (wipe σ vs) H2 fun σ2 H2 => wipe σ2 vs = wipe σ vs ∧ tt σ2 H2 fun b H3 =>
        if b = true then te σ2 H3 fun y H4 => ∃ acc, H4 D = some (.lst acc) ∧ acc.length < sizeLine ∧ Nx (upd H4 D (.lst (acc ++ [y]))) else Nx H3)) := by
  have keepT : ∀ {H' : Hp} {c : Addr} {zs : List V}, SqT K H c zs → Same H H' → SqT K H' c zs := fun {H' c zs} h e => by
    rcases h with (h | ⟨o, h⟩) | h
    · exact .inl (.inl (e _ _ h))
    · exact .inl (.inr ⟨o, e _ _ h⟩)
    · exact .inr h
  rcases hq with ⟨q1, q2⟩ | ⟨q1, q2⟩
  · refine .inl ⟨q1, q2, fun D hD => lc_it (Qd := fun H' => Q D H') (walk_zip (K := K) (a := a) (b := b) (xs := xs) (ys := ys) (n := xs.length) (by omega)) (Pv D) (h0 D hD) (fun i H' _ p => ⟨(hk D i H' hD p).seq q1, (hk D i H' hD p).seq q2⟩) ?_ (fun H' p => hd D H' hD p)⟩
    rintro i x H1 H2 hi p ⟨T, x1, y, rfl, hT, rfl, e1, e2⟩
    exact hs D i x1 y T H1 hD e1 e2 p hT
  · refine .inr ⟨q1, q2, fun D hD => lc_it (Qd := fun H' => Q D H') (walk_zipT (K := K) (a := a) (b := b) (xs := xs) (ys := ys) (n := xs.length) (by omega)) (Pv D) (h0 D hD) (fun i H' _ p => ⟨keepT q1 (hk D i H' hD p), keepT q2 (hk D i H' hD p)⟩) ?_ (fun H' p => hd D H' hD p)⟩
    rintro i x H1 H2 hi p ⟨T, x1, y, rfl, hT, rfl, e1, e2⟩
    exact hs D i x1 y T H1 hD e1 e2 p hT
end L2

namespace RK
open PySem L2 RZ
/-- two things that are told alike, to the depth n -/
theorem get_map {α : Type} {l : List α} {f : α → V} {i : Nat} {x : V} (h : (l.map f)[i]? = some x) : ∃ t, l[i]? = some t ∧ x = f t := by
  rw [List.getElem?_map] at h
  cases q : l[i]? with
  | none => rw [q] at h; cases h
  | some t => rw [q] at h; cases h; exact ⟨t, rfl, rfl⟩
theorem paired_get {α β : Type} {F : α → β → Prop} : ∀ {l : List α} {m : List β} {i : Nat} {a : α}, Paired F l m → l[i]? = some a → ∃ b, m[i]? = some b ∧ F a b
  | _, _, 0, _, .cons h _, e => by cases e; exact ⟨_, rfl, h⟩
  | _, _, i + 1, _, .cons _ t, e => paired_get (i := i) t e
def keyOk : Key → Prop
  | .inl _ => True
  | .inr z => z.length ≤ 1000
/-- alike, of the same kinds, down to depth n -/
inductive SameD (H : Hp) : Nat → V → V → Prop where
  | non {n : Nat} : SameD H n .non .non
  | int {n : Nat} (i : Int) : SameD H n (.int i) (.int i)
  | bl {n : Nat} (b : Bool) : SameD H n (.bl b) (.bl b)
  | str {n : Nat} {z : Str} (h : z.length ≤ 1000) : SameD H n (.str z) (.str z)
  | lst {n : Nat} {a b : Addr} {xs ys : List V} (ha : H a = some (.lst xs)) (hb : H b = some (.lst ys)) (hl : xs.length = ys.length) (h1 : xs.length ≤ 1000) (h : ∀ (i : Nat) (x y : V), xs[i]? = some x → ys[i]? = some y → SameD H n x y) : SameD H (n + 1) (.ref a) (.ref b)
  | tup {n : Nat} {a b : Addr} {xs ys : List V} (ha : H a = some (.tup xs)) (hb : H b = some (.tup ys)) (hl : xs.length = ys.length) (h1 : xs.length ≤ 1000) (h : ∀ (i : Nat) (x y : V), xs[i]? = some x → ys[i]? = some y → SameD H n x y) : SameD H (n + 1) (.ref a) (.ref b)
  | dict {n : Nat} {a b : Addr} {ks ls : List (Key × V)} (ha : H a = some (.dK ks)) (hb : H b = some (.dK ls)) (hl : ks.length = ls.length) (h1 : ks.length ≤ 1000) (hk : ∀ (i : Nat) (p q : Key × V), ks[i]? = some p → ls[i]? = some q → p.1 = q.1 ∧ keyOk p.1)
      (h : ∀ (i : Nat) (p q : Key × V), ks[i]? = some p → ls[i]? = some q → SameD H n p.2 q.2) : SameD H (n + 3) (.ref a) (.ref b)
theorem SameD.mono {H H' : Hp} (s : Same H H') : ∀ {n : Nat} {x y : V}, SameD H n x y → SameD H' n x y
  | _, _, _, .non => .non
  | _, _, _, .int i => .int i
  | _, _, _, .bl b => .bl b
  | _, _, _, .str h => .str h
  | _, _, _, .lst ha hb hl h1 h => .lst (s _ _ ha) (s _ _ hb) hl h1 fun i x y e1 e2 => SameD.mono s (h i x y e1 e2)
  | _, _, _, .tup ha hb hl h1 h => .tup (s _ _ ha) (s _ _ hb) hl h1 fun i x y e1 e2 => SameD.mono s (h i x y e1 e2)
  | _, _, _, .dict ha hb hl h1 hk h => .dict (s _ _ ha) (s _ _ hb) hl h1 hk fun i p q e1 e2 => SameD.mono s (h i p q e1 e2)
/-- both are of one kind -/
theorem SameD.kd {K : PySem.W.Frag} {H : Hp} {n : Nat} {x y : V} (h : SameD H n x y) : ∃ k, Th K H x k ∧ Th K H y k ∧ (k.isDict = true → k.isSeq = false) ∧ (k.isSeq = false → k.isDict = false → x = y ∧ scal x y = true) := by
  cases h with
  | non => exact ⟨.non, .non, .non, (fun q => nomatch q), fun _ _ => ⟨rfl, rfl⟩⟩
  | int i => exact ⟨.int, .int i, .int i, (fun q => nomatch q), fun _ _ => ⟨rfl, rfl⟩⟩
  | bl b => exact ⟨.bool, .bl b, .bl b, (fun q => nomatch q), fun _ _ => ⟨rfl, rfl⟩⟩
  | str h => exact ⟨.str, .str h, .str h, (fun q => nomatch q), fun _ _ => ⟨rfl, rfl⟩⟩
  | lst ha hb hl h1 h => exact ⟨.list, .lst ha, .lst hb, (fun q => nomatch q), fun q => nomatch q⟩
  | tup ha hb hl h1 h => exact ⟨.tup, .tup ha, .tup hb, (fun q => nomatch q), fun q => nomatch q⟩
  | dict ha hb hl h1 hk h => exact ⟨.dict, .dict ha, .dict hb, fun _ => rfl, fun _ q => nomatch q⟩
def spSame (n : Nat) : Sp := fun vs H Q _ => ∃ x y, vs = [x, y] ∧ SameD H n x y ∧ ∀ H', Same H H' → Q (.bl true) H'
theorem kit_seq3 {K : PySem.W.Frag} (k : Kd) : PySem.W.kitAny K (.type k.nm) [.type "dict", .type "list", .type "tuple"] = some (k.isDict || k.isSeq) := by
  cases k <;> first
    | exact kitAny_cons (b := true) (kit_ty (by decide +kernel)) (fun z => nomatch z) (fun _ => rfl)
    | exact kitAny_cons (b := false) (kit_ty (by decide +kernel)) (fun _ => kit_seq _) (fun z => nomatch z)
section
variable {P : Program} {w : World} {K : PySem.W.Frag} {mg : Str → Option Value} {base : Heap}
theorem scSame : FnScope ["found", "due", "one", "other"] ["found", "due"] (defScope sSame) := ⟨rfl, rfl, rfl, by decide +kernel, rfl, by decide +kernel, by decide +kernel⟩
theorem ok_same0 {f : Addr} {fd : FuncData} (F : Fun K "_law_same" "_law_same" sSame f fd) (B : B0 K mg) : FnOk P w K mg base CX0 1 f fd ["found", "due"] (spSame 0) := by
  refine F.ok scSame (fun vs H Q E h => ?_) (fun cdv A outer s H vs Q E hr h => ?_)
  · obtain ⟨x, y, rfl, _⟩ := h
    rfl
  · obtain ⟨x, y, rfl, hd, q⟩ := h
    refine ⟨_, pss_cons (ps_if (pt_val (pe_callB call_isiZ (by rfl) B.isi (by decide +kernel) (pa_cons (pv 1) (pa_cons (pe_bltn (v := .ty "dict") (by rfl) B.dict (by decide +kernel) rfl) pa_nil)))) pss_never pss_nil)
      (pss_cons (ps_if (pt_val (pe_callB call_isiTZ (by rfl) B.isi (by decide +kernel) (pa_cons (pv 1) (pa_cons (pe_tup (pa_cons (pe_bltn (v := .ty "list") (by rfl) B.list (by decide +kernel) rfl) (pa_cons (pe_bltn (v := .ty "tuple") (by rfl) B.tuple (by decide +kernel) rfl) pa_nil))) pa_nil)))) pss_never pss_nil)
      (pss_cons (ps_if (PW.pt (pw_or (pt_val (pe_callB call_isiTZ (by rfl) B.isi (by decide +kernel) (pa_cons (pv 0) (pa_cons (pe_tup (pa_cons (pe_bltn (v := .ty "dict") (by rfl) B.dict (by decide +kernel) rfl) (pa_cons (pe_bltn (v := .ty "list") (by rfl) B.list (by decide +kernel) rfl) (pa_cons (pe_bltn (v := .ty "tuple") (by rfl) B.tuple (by decide +kernel) rfl) pa_nil)))) pa_nil))))
          (pw_or1 (pt_cmpR op_ne (pe_callB call_isiZ (by rfl) B.isi (by decide +kernel) (pa_cons (pv 0) (pa_cons (pe_bltn (v := .ty "bool") (by rfl) B.bool (by decide +kernel) rfl) pa_nil))) (pe_callB call_isiZ (by rfl) B.isi (by decide +kernel) (pa_cons (pv 1) (pa_cons (pe_bltn (v := .ty "bool") (by rfl) B.bool (by decide +kernel) rfl) pa_nil))) (nomark _))))) (pss_one (ps_ret pe_bl)) pss_nil)
      (pss_one (ps_ret (pe_cmpR op_eq (pv 0) (pv 1) (nomark _)))))), ?_⟩
    obtain ⟨k, hx, hy, _, kleaf⟩ := hd.kd (K := K)
    have kseq : k.isSeq = false := by
      cases hd <;> cases hx <;> first | rfl | contradiction
    have kdict : k.isDict = false := by
      cases hd <;> cases hx <;> first | rfl | contradiction
    have hleaf := kleaf kseq kdict
    refine ⟨_, rfl, y, .ty "dict", _, .type "dict", false, rfl, .ty _, hy.ty, kdict ▸ kit_dict k, false, rfl, iteF ?_⟩
    refine ⟨_, rfl, by show 2 ≤ sizeLine; decide, fun p hp => ?_⟩
    have s1 := same_upd (o := .tup [.ty "list", .ty "tuple"]) hp
    refine ⟨y, p, [.ty "list", .ty "tuple"], _, [.type "list", .type "tuple"], false, rfl, upd_same, .cons (.ty _) (.cons (.ty _) .nil), (hy.same s1).ty, kseq ▸ kit_seq k, false, rfl, iteF ?_⟩
    refine ⟨_, rfl, by show 3 ≤ sizeLine; decide, fun p2 hp2 => ?_⟩
    have s2 := s1.trans (same_upd (o := .tup [.ty "dict", .ty "list", .ty "tuple"]) hp2)
    refine ⟨x, p2, [.ty "dict", .ty "list", .ty "tuple"], _, [.type "dict", .type "list", .type "tuple"], false, rfl, upd_same, .cons (.ty _) (.cons (.ty _) (.cons (.ty _) .nil)), (hx.same s2).ty, ?_, false, rfl, iteF ?_⟩
    · rw [kit_seq3, kdict, kseq]; rfl
    refine ⟨_, rfl, x, .ty "bool", _, .type "bool", _, rfl, .ty _, (hx.same s2).ty, kit_bool k, _, rfl, y, .ty "bool", _, .type "bool", _, rfl, .ty _, (hy.same s2).ty, kit_bool k, rfl, _, rfl, iteNS rfl ?_⟩
    refine ⟨_, rfl, _, rfl, hleaf.2, ?_⟩
    rw [decide_eq_true hleaf.1]
    exact q _ s2
theorem SameD.seq {H : Hp} {n : Nat} {x y : V} {k : Kd} (h : SameD H n x y) (hx : Th K H x k) (e : k.isSeq = true) : ∃ m a b xs ys, n = m + 1 ∧ x = .ref a ∧ y = .ref b ∧ xs.length = ys.length ∧ xs.length ≤ 1000 ∧ (∀ (i : Nat) (x y : V), xs[i]? = some x → ys[i]? = some y → SameD H m x y) ∧
    ((H a = some (.lst xs) ∧ H b = some (.lst ys) ∧ k.isList = true ∧ k.isTup = false) ∨ (H a = some (.tup xs) ∧ H b = some (.tup ys) ∧ k.isList = false ∧ k.isTup = true)) := by
  cases h with
  | non => cases hx; cases e
  | int i => cases hx; cases e
  | bl b => cases hx; cases e
  | str h => cases hx; cases e
  | lst ha hb hl h1 h =>
    cases hx with
    | lst q => exact ⟨_, _, _, _, _, rfl, rfl, rfl, hl, h1, h, .inl ⟨ha, hb, rfl, rfl⟩⟩
    | tup q => rw [ha] at q; cases q
    | dict q => cases e
    | fn q c => cases e
  | tup ha hb hl h1 h =>
    cases hx with
    | lst q => rw [ha] at q; cases q
    | tup q => exact ⟨_, _, _, _, _, rfl, rfl, rfl, hl, h1, h, .inr ⟨ha, hb, rfl, rfl⟩⟩
    | dict q => cases e
    | fn q c => cases e
  | dict ha hb hl h1 hk h =>
    cases hx with
    | lst q => rw [ha] at q; cases q
    | tup q => rw [ha] at q; cases q
    | dict q => cases e
    | fn q c => cases e
theorem SameD.dct {H : Hp} {n : Nat} {x y : V} {k : Kd} (h : SameD H n x y) (hx : Th K H x k) (e : k.isDict = true) : ∃ m a b ks ls, n = m + 3 ∧ x = .ref a ∧ y = .ref b ∧ H a = some (.dK ks) ∧ H b = some (.dK ls) ∧ ks.length = ls.length ∧ ks.length ≤ 1000 ∧
    (∀ (i : Nat) (p q : Key × V), ks[i]? = some p → ls[i]? = some q → p.1 = q.1 ∧ keyOk p.1) ∧ ∀ (i : Nat) (p q : Key × V), ks[i]? = some p → ls[i]? = some q → SameD H m p.2 q.2 := by
  cases h with
  | non => cases hx; cases e
  | int i => cases hx; cases e
  | bl b => cases hx; cases e
  | str h => cases hx; cases e
  | lst ha hb hl h1 h =>
    cases hx with
    | lst q => cases e
    | tup q => cases e
    | dict q => rw [ha] at q; cases q
    | fn q c => cases e
  | tup ha hb hl h1 h =>
    cases hx with
    | lst q => cases e
    | tup q => cases e
    | dict q => rw [ha] at q; cases q
    | fn q c => cases e
  | dict ha hb hl h1 hk h => exact ⟨_, _, _, _, _, rfl, rfl, rfl, ha, hb, hl, h1, hk, h⟩
theorem ok_same {f : Addr} {fd : FuncData} (F : Fun K "_law_same" "_law_same" sSame f fd) (B : B0 K mg) (bS : Binds K fd ["found", "due"] []) (gS : mg "_law_same" = some (.ref f)) : ∀ n, FnOk P w K mg base CX0 (n + 1) f fd ["found", "due"] (spSame n)
  | 0 => ok_same0 F B
  | n + 1 => by
    have G : FnOk P w K mg base CX0 (n + 1) f fd ["found", "due"] (spSame n) := ok_same F B bS gS n
    refine F.ok scSame (fun vs H Q E h => ?_) (fun cdv A outer s H vs Q E hr h => ?_)
    · obtain ⟨x, y, rfl, _⟩ := h
      rfl
    · obtain ⟨x, y, rfl, hd, q⟩ := h
      refine ⟨_, pss_cons (ps_if (pt_val (pe_callB call_isiZ (by rfl) B.isi (by decide +kernel) (pa_cons (pv 1) (pa_cons (pe_bltn (v := .ty "dict") (by rfl) B.dict (by decide +kernel) rfl) pa_nil))))
          (pss_one (ps_ret (pe_and (pe_callB call_isiZ (by rfl) B.isi (by decide +kernel) (pa_cons (pv 0) (pa_cons (pe_bltn (v := .ty "dict") (by rfl) B.dict (by decide +kernel) rfl) pa_nil)))
            (pe_one (pe_call G hr (by rfl) gS F.kp bS .nil pass0 (pa_cons (LiI.pe_listItems rfl (pv 0) (by rfl) B.list (by decide +kernel)) (pa_cons (LiI.pe_listItems rfl (pv 1) (by rfl) B.list (by decide +kernel)) pa_nil))))))) pss_nil)
        (pss_cons (ps_if (pt_val (pe_callB call_isiTZ (by rfl) B.isi (by decide +kernel) (pa_cons (pv 1) (pa_cons (pe_tup (pa_cons (pe_bltn (v := .ty "list") (by rfl) B.list (by decide +kernel) rfl) (pa_cons (pe_bltn (v := .ty "tuple") (by rfl) B.tuple (by decide +kernel) rfl) pa_nil))) pa_nil))))
          (pss_cons (ps_if (PW.pt (pw_or (pt_cmpR op_ne (pe_callB call_isiZ (by rfl) B.isi (by decide +kernel) (pa_cons (pv 0) (pa_cons (pe_bltn (v := .ty "list") (by rfl) B.list (by decide +kernel) rfl) pa_nil))) (pe_callB call_isiZ (by rfl) B.isi (by decide +kernel) (pa_cons (pv 1) (pa_cons (pe_bltn (v := .ty "list") (by rfl) B.list (by decide +kernel) rfl) pa_nil))) (nomark _))
              (pw_or1 (pt_cmpR op_ne (pe_callB call_isiZ (by rfl) B.isi (by decide +kernel) (pa_cons (pv 0) (pa_cons (pe_bltn (v := .ty "tuple") (by rfl) B.tuple (by decide +kernel) rfl) pa_nil))) (pe_callB call_isiZ (by rfl) B.isi (by decide +kernel) (pa_cons (pv 1) (pa_cons (pe_bltn (v := .ty "tuple") (by rfl) B.tuple (by decide +kernel) rfl) pa_nil))) (nomark _))))) (pss_one (ps_ret pe_bl)) pss_nil)
          (pss_one (ps_ret (pe_and (pe_cmpR op_eq (pe_callB call_len_seq (by rfl) B.len PySem.boot_len (pa_cons (pv 0) pa_nil)) (pe_callB call_len_seq (by rfl) B.len PySem.boot_len (pa_cons (pv 1) pa_nil)) (nomark _))
            (pe_one (pe_callB (cr_all rfl) (by rfl) B.all (by decide +kernel) (pa_cons (pe_lc (te := tCall (spSame n) [] E0 (tCons (tVar 2) (tCons (tVar 3) tNil))) (own := [("one", 2), ("other", 3)]) (g := gTup K 2 (gCons (gName 2) (gCons (gName 3) gNil))) (tt := tYes) rfl scSame.nd (pi_zipA (by rfl) B.zip (pa_cons (pv 0) (pa_cons (pv 1) pa_nil)))
              (blkOk_by (N := ["found", "due", "one", "other"]) (sc := defScope sSame) (by decide +kernel)) (fun _ _ _ _ _ => by exact (pg_tup rfl (pgs_cons (pg_name (i := 2) scSame.nd rfl (Or.inl rfl)) (pgs_cons (pg_name (i := 3) scSame.nd rfl (Or.inl rfl)) pgs_nil)))) (fun _ _ _ _ _ => pts_nil)
              (fun _ _ _ _ _ => by exact (pe_call G hr (by rfl) gS F.kp bS .nil pass0 (pa_cons (pv 2) (pa_cons (pv 3) pa_nil))))) pa_nil))))))) pss_nil)
        (pss_cons (ps_if (PW.pt (pw_or (pt_val (pe_callB call_isiTZ (by rfl) B.isi (by decide +kernel) (pa_cons (pv 0) (pa_cons (pe_tup (pa_cons (pe_bltn (v := .ty "dict") (by rfl) B.dict (by decide +kernel) rfl) (pa_cons (pe_bltn (v := .ty "list") (by rfl) B.list (by decide +kernel) rfl) (pa_cons (pe_bltn (v := .ty "tuple") (by rfl) B.tuple (by decide +kernel) rfl) pa_nil)))) pa_nil))))
            (pw_or1 (pt_cmpR op_ne (pe_callB call_isiZ (by rfl) B.isi (by decide +kernel) (pa_cons (pv 0) (pa_cons (pe_bltn (v := .ty "bool") (by rfl) B.bool (by decide +kernel) rfl) pa_nil))) (pe_callB call_isiZ (by rfl) B.isi (by decide +kernel) (pa_cons (pv 1) (pa_cons (pe_bltn (v := .ty "bool") (by rfl) B.bool (by decide +kernel) rfl) pa_nil))) (nomark _))))) (pss_one (ps_ret pe_bl)) pss_nil)
        (pss_one (ps_ret (pe_cmpR op_eq (pv 0) (pv 1) (nomark _)))))), ?_⟩
      obtain ⟨k, hx, hy, kds, kleaf⟩ := hd.kd (K := K)
      refine ⟨_, rfl, y, .ty "dict", _, .type "dict", _, rfl, .ty _, hy.ty, kit_dict k, _, rfl, ?_⟩
      cases kdict : k.isDict with
      | true =>
        obtain ⟨m, a, b, ks, ls, hm, rfl, rfl, ha, hb, hl, h1, hk, hv⟩ := hd.dct hx kdict
        refine iteT ⟨_, rfl, .ref a, .ty "dict", _, .type "dict", _, rfl, .ty _, hx.ty, kit_dict k, _, rfl, ?_⟩
        rw [kdict]
        refine iteT ⟨_, rfl, a, ks, rfl, ha, fun H1 p1 ts1 s1 hp1 hts1 hpt1 e1 t1 => ?_⟩
        refine ⟨_, rfl, b, ls, rfl, s1 _ _ hb, fun H2 p2 ts2 s2 hp2 hts2 hpt2 e2 t2 => ?_⟩
        have hn : n = m + 2 := by omega
        subst hn
        have l1 : ts1.length = ks.length := Paired.length t1
        have l2 : ts2.length = ls.length := Paired.length t2
        refine ⟨.ref p1, .ref p2, rfl, .lst (s2 _ _ e1) e2 (by rw [List.length_map, List.length_map, l1, l2, hl]) (by rw [List.length_map, l1]; exact h1) (fun i u v eu ev => ?_), fun H3 s3 => q H3 (Same.trans s1 (Same.trans s2 s3))⟩
        obtain ⟨tu, htu, rfl⟩ := get_map eu
        obtain ⟨tv, htv, rfl⟩ := get_map ev
        obtain ⟨p, hp, ep⟩ := paired_get t1 htu
        obtain ⟨w2, hw, ew⟩ := paired_get t2 htv
        refine .tup (s2 _ _ ep) ew rfl (by show 2 ≤ 1000; decide) fun n' x1 x2 g1 g2 => ?_
        obtain ⟨ek, ok⟩ := hk i p w2 hp hw
        match n', g1, g2 with
        | 0, rfl, g2 =>
          have e2 : kV w2.1 = x2 := Option.some.inj g2
          rw [← e2, ← ek]
          cases hkk : p.1 with
          | inl j => exact .int j
          | inr z => rw [hkk] at ok; exact .str ok
        | 1, rfl, rfl => exact (hv i p w2 hp hw).mono (Same.trans s1 s2)
      | false =>
      refine ⟨_, rfl, by show 2 ≤ sizeLine; decide, fun p hp => ?_⟩
      have s1 := same_upd (o := .tup [.ty "list", .ty "tuple"]) hp
      refine ⟨y, p, [.ty "list", .ty "tuple"], _, [.type "list", .type "tuple"], k.isSeq, rfl, upd_same, .cons (.ty _) (.cons (.ty _) .nil), (hy.same s1).ty, kit_seq k, _, rfl, ?_⟩
      cases kseq : k.isSeq with
      | true =>
        refine iteT ?_
        obtain ⟨m, a, b, xs, ys, hm, rfl, rfl, hl, h1, hin, hkind⟩ := hd.seq hx kseq
        cases hm
        refine ⟨_, rfl, .ref a, .ty "list", _, .type "list", _, rfl, .ty _, (hx.same s1).ty, kit_list k, _, rfl, .ref b, .ty "list", _, .type "list", _, rfl, .ty _, (hy.same s1).ty, kit_list k, rfl, _, rfl, iteNS rfl ?_⟩
        refine ⟨_, rfl, .ref a, .ty "tuple", _, .type "tuple", _, rfl, .ty _, (hx.same s1).ty, kit_tup k, _, rfl, .ref b, .ty "tuple", _, .type "tuple", _, rfl, .ty _, (hy.same s1).ty, kit_tup k, rfl, _, rfl, iteNS rfl ?_⟩
        have hq0 : (SqL K _ a xs ∧ SqL K _ b ys) ∨ (SqT K _ a xs ∧ SqT K _ b ys) := hkind.elim (fun e => .inl ⟨SqL.of (s1 _ _ e.1), SqL.of (s1 _ _ e.2.1)⟩) fun e => .inr ⟨SqT.of (s1 _ _ e.1), SqT.of (s1 _ _ e.2.1)⟩
        have la : SqL K _ a xs ∨ SqT K _ a xs := hq0.elim (fun e => .inl e.1) fun e => .inr e.1
        have lb : SqL K _ b ys ∨ SqT K _ b ys := hq0.elim (fun e => .inl e.2) fun e => .inr e.2
        refine ⟨_, rfl, a, xs, rfl, la, _, rfl, b, ys, rfl, lb, rfl, true, by rw [hl]; exact congrArg V.bl (decide_eq_true rfl), iteT ?_⟩
        refine ⟨_, rfl, _, rfl, a, b, xs, ys, rfl, lc_zipA hl hq0 (fun D i H' => Same (upd H p (.tup [.ty "list", .ty "tuple"])) H' ∧ H' D = some (.lst (List.replicate i (V.bl true)))) (fun D hD => ⟨same_upd hD, upd_same⟩) (fun D i H' hD pv => pv.1) ?_ ?_⟩
        · rintro D i x y T H' hD ex ey ⟨sm, hacc⟩ hT
          have sT := same_upd (o := .tup [x, y]) hT
          refine ⟨T, _, rfl, SqT.of upd_same, rfl, _, _, rfl, _, _, rfl, rfl, rfl, tyes ?_⟩
          refine ⟨_, rfl, _, rfl, x, y, rfl, (hin i x y ex ey).mono (s1.trans (sm.trans sT)), fun H3 sm3 => ⟨_, sm3 _ _ (sT _ _ hacc), ?_, ?_, ?_⟩⟩
          · rw [List.length_replicate]
            exact Nat.lt_of_lt_of_le (List.getElem?_eq_some_iff.mp ex).1 (Nat.le_trans h1 (by decide))
          · exact fun c o e => by rw [upd_ne (ne_of_none e hD)]; exact sm3 _ _ (sT _ _ (sm c o e))
          · rw [upd_same, ← List.replicate_succ']
        · rintro D H' hD ⟨sm, hacc⟩
          refine ⟨D, List.replicate xs.length true, rfl, SqL.of (by rw [hacc, List.map_replicate]), ?_⟩
          have e : (List.replicate xs.length true).all id = true := by simp
          rw [e]
          exact q _ (s1.trans sm)
      | false =>
        refine iteF ?_
        refine ⟨_, rfl, by show 3 ≤ sizeLine; decide, fun p2 hp2 => ?_⟩
        have s2 := s1.trans (same_upd (o := .tup [.ty "dict", .ty "list", .ty "tuple"]) hp2)
        refine ⟨x, p2, [.ty "dict", .ty "list", .ty "tuple"], _, [.type "dict", .type "list", .type "tuple"], false, rfl, upd_same, .cons (.ty _) (.cons (.ty _) (.cons (.ty _) .nil)), (hx.same s2).ty, ?_, false, rfl, iteF ?_⟩
        · rw [kit_seq3, kdict, kseq]; rfl
        refine ⟨_, rfl, x, .ty "bool", _, .type "bool", _, rfl, .ty _, (hx.same s2).ty, kit_bool k, _, rfl, y, .ty "bool", _, .type "bool", _, rfl, .ty _, (hy.same s2).ty, kit_bool k, rfl, _, rfl, iteNS rfl ?_⟩
        have hleaf : x = y ∧ scal x y = true := kleaf kseq kdict
        refine ⟨_, rfl, _, rfl, hleaf.2, ?_⟩
        rw [decide_eq_true hleaf.1]
        exact q _ s2
end
end RK

namespace L2
open PySem PySem.Spec PyProof.Rows
/-- len of a dict, also of one that is walked -/
theorem call_lenR {X : Cx} : CallR X (.builtin "len") (fun xs H Q => ∃ a kvs, xs = [V.ref a] ∧ Rd H a (.dK kvs) ∧ Q (.int (kvs.length : Nat)) H) := by
  intro pins s σ H xs us Q I r h
  obtain ⟨a, kvs, rfl, ha, q⟩ := h
  cases r with
  | cons r1 r2 =>
    cases r2
    cases r1
    exact d_len I ha fun t s' I' => ⟨.int (kvs.length : Nat), H, I', ⟨t, rfl⟩, q⟩
end L2
namespace RK
open PySem L2
/-! ### stands as the law keeps them -/
structure Sta (zs ks : List Str) (kvs : List (Key × V)) : Prop where
  eq : kvs = ks.map fun z => ((Sum.inr z : Key), V.int (placeOf kvs z))
  pm : ks.Perm zs
  ok : standB zs kvs = true
theorem Sta.len {zs ks : List Str} {kvs : List (Key × V)} (h : Sta zs ks kvs) : kvs.length = zs.length := by
  rw [h.eq, List.length_map, h.pm.length_eq]
theorem Sta.val {zs ks : List Str} {kvs : List (Key × V)} (h : Sta zs ks kvs) {z : Str} (hz : z ∈ zs) : valV kvs (Sum.inr z : Key) = some (.int (placeOf kvs z)) := dict_place (Bool.and_eq_true_iff.mp h.ok).1 z hz
def spRest : Sp := fun vs H Q _ => ∃ (d : Addr) (z : Str) (m p : Int) (kvs : List (Key × V)), vs = [.ref d, .str z, .int m] ∧ Rd H d (.dK kvs) ∧ valV kvs (Sum.inr z : Key) = some (.int p) ∧ 0 < kvs.length ∧ ∀ H', Same H H' → Q (.int ((p + m) % (kvs.length : Int))) H'
def spWAhead : Sp := fun vs H Q _ => ∃ (d : Addr) (zs ks : List Str) (kvs : List (Key × V)) (z : Str), vs = [.ref d, .str z] ∧ H d = some (.dK kvs) ∧ Sta zs ks kvs ∧ z ∈ zs ∧ 0 < zs.length ∧ zs.length ≤ 1000 ∧ ∀ H', Same H H' → Q (.str ((nextOf zs kvs z).getD z)) H'
section
variable {P : Program} {w : World} {K : PySem.W.Frag} {mg : Str → Option Value} {base : Heap}
theorem scWRest : FnScope ["stand", "one", "many"] ["stand", "one", "many"] (defScope sWRest) := ⟨rfl, rfl, rfl, by decide +kernel, rfl, by decide +kernel, by decide +kernel⟩
theorem ok_rest {f : Addr} {fd : FuncData} (F : Fun K "_law_w_rest" "_law_w_rest" sWRest f fd) (B : B0 K mg) : FnOk P w K mg base CX0 1 f fd ["stand", "one", "many"] spRest := by
  refine F.ok scWRest (fun vs H Q E h => ?_) (fun cdv A outer s H vs Q E hr h => ?_)
  · obtain ⟨d, z, m, p, kvs, rfl, _⟩ := h
    rfl
  · obtain ⟨d, z, m, p, kvs, rfl, hd, hv, h0, q⟩ := h
    have hu := hu_of hr
    refine ⟨_, pss_one (ps_ret (pe_op op_mod (pe_callTy call_int1 (by rfl) B.int (by decide +kernel) (pa_cons (pe_op op_add (pe_dget hu (pv 0) (pv 1) (fun _ _ => rfl)) (pv 2)) pa_nil)) (pe_callB call_lenR (by rfl) B.len PySem.boot_len (pa_cons (pv 0) pa_nil)))), ?_⟩
    refine ⟨_, rfl, _, rfl, d, _, rfl, hv ▸ Or.inl ⟨kvs, (Sum.inr z : Key), hd, rfl, rfl⟩, _, rfl, _, _, rfl, rfl, .inl ⟨_, rfl, _, rfl, d, kvs, rfl, hd, _, _, rfl, rfl, by omega, q H (Same.refl H)⟩⟩
theorem scWAhead : FnScope ["stand", "one", "rest", "name"] ["stand", "one"] (defScope sWAhead) := ⟨rfl, rfl, rfl, by decide +kernel, rfl, by decide +kernel, by decide +kernel⟩
theorem ok_wahead {f fR : Addr} {fd fdR : FuncData} (F : Fun K "_law_w_ahead" "_law_w_ahead" sWAhead f fd) (B : B0 K mg) (GR : FnOk P w K mg base CX0 1 fR fdR ["stand", "one", "many"] spRest) (bR : Binds K fdR ["stand", "one", "many"] []) (gR : mg "_law_w_rest" = some (.ref fR)) (kR : PySem.W.keepIn K (.ref fR) = true) :
    FnOk P w K mg base CX0 2 f fd ["stand", "one"] spWAhead := by
  refine F.ok scWAhead (fun vs H Q E h => ?_) (fun cdv A outer s H vs Q E hr h => ?_)
  · obtain ⟨d, zs, ks, kvs, z, rfl, _⟩ := h
    rfl
  · obtain ⟨d, zs, ks, kvs, z, rfl, hd, hst, hz, h0, hl, q⟩ := h
    refine ⟨_, pss_cons (ps_set (i := 2) scWAhead.nd rfl (Or.inr rfl) (pe_call GR hr (by rfl) gR kR bR .nil pass0 (pa_cons (pv 0) (pa_cons (pv 1) (pa_cons pe_int pa_nil)))))
      (pss_one (ps_ret (pe_ix ix_list (pe_lock (pe_lc (te := tVar 3) (own := [("name", 3)]) (g := gName 3) (tt := tTest (tOp rEq (tCall spRest [] E0 (tCons (tVar 0) (tCons (tVar 3) (tCons (L2.tC (.int 0)) tNil)))) (tVar 2))) rfl scWAhead.nd (pi_keys (pv 0)) (blkOk_by (N := ["stand", "one", "rest", "name"]) (sc := defScope sWAhead) (by decide +kernel))
        (fun _ _ _ _ _ => pg_name (i := 3) scWAhead.nd rfl (Or.inl rfl)) (fun _ _ _ _ _ => by exact (pts_one (pt_cmpR op_eq (pe_call GR hr (by rfl) gR kR bR .nil pass0 (pa_cons (pv 0) (pa_cons (pv 3) (pa_cons pe_int pa_nil)))) (pv 2) (nomark _)))) (fun _ _ _ _ _ => by exact (pv 3)))) pe_int (fun _ _ => rfl)))), ?_⟩
    have hpos : (0 : Int) < (zs.length : Nat) := by omega
    have hlen := hst.len
    obtain ⟨y, hy1, hy2, hy3⟩ := next_is hst.ok h0 z
    have hks : ∀ {i : Nat} {k : Key} {v : V}, kvs[i]? = some (k, v) → ∃ u, ks[i]? = some u ∧ u ∈ zs ∧ k = Sum.inr u := fun {i k v} e => by
      have e2 := e
      rw [hst.eq, List.getElem?_map] at e2
      cases q : ks[i]? with
      | none => rw [q] at e2; cases e2
      | some u => rw [q] at e2; cases e2; exact ⟨u, rfl, hst.pm.mem_iff.mp (List.mem_of_getElem? q), rfl⟩
    refine ⟨_, rfl, _, rfl, d, z, 1, _, kvs, rfl, .inl hd, hst.val hz, by omega, fun H1 s1 => ?_⟩
    rw [hlen]
    refine ⟨d, .dK kvs, s1 _ _ hd, trivial, fun od => ?_⟩
    have hf : (upd H1 d (.frz od (.dK kvs))) d = some (.frz od (.dK kvs)) := upd_same
    have b1 : ∀ b o, b ≠ d → H1 b = some o → (upd H1 d (.frz od (.dK kvs))) b = some o := fun b o hb e => by rw [upd_ne hb]; exact e
    generalize upd H1 d (.frz od (.dK kvs)) = H2 at hf b1
    refine ⟨_, rfl, d, od, rfl, .inl ⟨kvs, hf, fun D hD => ?_⟩⟩
    have hdD : d ≠ D := ne_of_none hf hD
    refine lc_it (walk_keys (d := d) (o := od) (kvs := kvs)) (fun i G => Same H2 G ∧ G D = some (.lst (((ks.take i).filter fun u => decide (placeOf kvs u % (zs.length : Int) = (placeOf kvs z + 1) % (zs.length : Int))).map V.str))) ⟨same_upd hD, upd_same⟩ (fun i G _ p => p.1 _ _ hf) ?_ ?_
    · rintro i x G G' hi ⟨sm, hacc⟩ ⟨rfl, k, v, hkv, rfl⟩
      obtain ⟨u, hu1, hu2, rfl⟩ := hks hkv
      refine ⟨rfl, ?_⟩
      refine ⟨_, rfl, _, rfl, d, u, 0, _, kvs, rfl, .inr ⟨od, sm _ _ hf⟩, hst.val hu2, by omega, fun G3 s3 => ?_⟩
      rw [hlen, Int.add_zero]
      refine ⟨_, rfl, rfl, _, rfl, ?_⟩
      have hacc3 := s3 _ _ hacc
      have e1 : decide (V.int (placeOf kvs u % (zs.length : Int)) = V.int ((placeOf kvs z + 1) % (zs.length : Int))) = decide (placeOf kvs u % (zs.length : Int) = (placeOf kvs z + 1) % (zs.length : Int)) := by
        by_cases e : placeOf kvs u % (zs.length : Int) = (placeOf kvs z + 1) % (zs.length : Int)
        · rw [e, decide_eq_true rfl, decide_eq_true rfl]
        · rw [decide_eq_false e, decide_eq_false (fun q => e (V.int.inj q))]
      rw [e1]
      by_cases e : placeOf kvs u % (zs.length : Int) = (placeOf kvs z + 1) % (zs.length : Int)
      · rw [decide_eq_true e]
        refine iteT ⟨_, rfl, _, hacc3, ?_, fun b o hb => ?_, ?_⟩
        · rw [List.length_map]
          exact Nat.lt_of_le_of_lt (Nat.le_trans (List.length_filter_le _ _) (Nat.le_trans (by rw [List.length_take]; exact Nat.min_le_right _ _) (by rw [hst.pm.length_eq]; exact hl))) (by decide)
        · rw [upd_ne (ne_of_none hb hD)]
          exact s3 _ _ (sm _ _ hb)
        · rw [upd_same, take_more hu1, List.filter_append, List.map_append, List.filter_cons, if_pos (decide_eq_true e)]
          rfl
      · rw [decide_eq_false e]
        refine iteF ⟨Same.trans sm s3, ?_⟩
        rw [hacc3, take_more hu1, List.filter_append, List.filter_cons, if_neg (fun q => e (of_decide_eq_true q)), List.filter_nil, List.append_nil]
    · rintro G ⟨sm, hacc⟩
      refine ⟨sm _ _ hf, ?_⟩
      have hkl : ks.take kvs.length = ks := List.take_of_length_le (by rw [hlen, hst.pm.length_eq]; exact Nat.le_refl _)
      rw [hkl] at hacc
      have hyk : y ∈ ks := hst.pm.mem_iff.mpr hy2
      have hfin : Same H (upd G d (.dK kvs)) := fun b o e => by
        by_cases hb : b = d
        · subst hb
          rw [hd] at e
          cases e
          exact upd_same
        · rw [upd_ne hb]
          exact sm _ _ (b1 _ _ hb (s1 _ _ e))
      cases hf2 : ks.filter fun u => decide (placeOf kvs u % (zs.length : Int) = (placeOf kvs z + 1) % (zs.length : Int)) with
      | nil =>
        have : y ∈ ks.filter fun u => decide (placeOf kvs u % (zs.length : Int) = (placeOf kvs z + 1) % (zs.length : Int)) := List.mem_filter.mpr ⟨hyk, decide_eq_true hy3⟩
        rw [hf2] at this
        cases this
      | cons u r =>
        have hu : u ∈ ks.filter fun u => decide (placeOf kvs u % (zs.length : Int) = (placeOf kvs z + 1) % (zs.length : Int)) := by rw [hf2]; exact List.mem_cons_self
        have hum := List.mem_filter.mp hu
        have e1 : placeOf kvs u % (zs.length : Int) = (placeOf kvs z + 1) % (zs.length : Int) := of_decide_eq_true hum.2
        have e2 : u = y := rest_inj hst.ok (hst.pm.mem_iff.mp hum.1) hy2 (e1.trans hy3.symm)
        rw [hf2] at hacc
        subst e2
        have q' := q _ hfin
        rw [hy1] at q'
        refine ⟨D, _, 0, .str u, rfl, rfl, SqL.of (by rw [upd_ne (Ne.symm hdD)]; exact hacc), atI_nat (j := 0) rfl, q'⟩
end
end RK

namespace RK
open PySem L2
/-! ### stands made of places -/
def kvOf (ks : List Str) (g : Str → Int) : List (Key × V) := ks.map fun u => ((Sum.inr u : Key), V.int (g u))
theorem val_kv {g : Str → Int} {z : Str} : ∀ {ks : List Str}, z ∈ ks → valV (kvOf ks g) (Sum.inr z : Key) = some (.int (g z))
  | [], h => nomatch h
  | y :: r, h => by
    unfold kvOf
    rw [List.map_cons]
    by_cases e : y = z
    · subst e; rw [valV_pos rfl]
    · rw [valV_neg (fun t => e (Sum.inr.inj t))]
      exact val_kv ((List.mem_cons.mp h).resolve_left fun t => e t.symm)
theorem place_kv {ks : List Str} {g : Str → Int} {z : Str} (h : z ∈ ks) : placeOf (kvOf ks g) z = g z := by
  unfold placeOf
  rw [val_kv h]
theorem kv_congr {ks : List Str} {g g' : Str → Int} (h : ∀ z ∈ ks, g z = g' z) : kvOf ks g = kvOf ks g' := List.map_congr_left fun z hz => by rw [h z hz]
theorem Sta.mk' {zs ks : List Str} {g : Str → Int} (pm : ks.Perm zs) (hs : (zs.map g).sum = (zs.length : Int) * ((zs.length : Int) - 1) / 2) (hr : (zs.map fun u => g u % (zs.length : Int)).Nodup) : Sta zs ks (kvOf ks g) := by
  have hp : ∀ z ∈ zs, placeOf (kvOf ks g) z = g z := fun z hz => place_kv (pm.mem_iff.mpr hz)
  refine ⟨?_, pm, ?_⟩
  · show kvOf ks g = kvOf ks fun z => placeOf (kvOf ks g) z
    exact kv_congr fun z hz => (place_kv hz).symm
  · have e1 : placesOf zs (kvOf ks g) = zs.map g := List.map_congr_left hp
    have e2 : restsOf zs (kvOf ks g) = zs.map fun u => g u % (zs.length : Int) := by
      unfold restsOf
      rw [e1, List.map_map]
      rfl
    have hd : dictB zs (kvOf ks g) = true := by
      unfold dictB
      have hl : (kvOf ks g).length = zs.length := by unfold kvOf; rw [List.length_map, pm.length_eq]
      rw [decide_eq_true hl, Bool.true_and, List.all_eq_true]
      intro z hz
      rw [val_kv (pm.mem_iff.mpr hz)]
      rfl
    unfold standB
    rw [hd, e1, e2, decide_eq_true hs, decide_eq_true hr]
    rfl
theorem Sta.kv {zs ks : List Str} {kvs : List (Key × V)} (h : Sta zs ks kvs) : kvs = kvOf ks (placeOf kvs) := h.eq
theorem Sta.sum {zs ks : List Str} {kvs : List (Key × V)} (h : Sta zs ks kvs) : (zs.map (placeOf kvs)).sum = (zs.length : Int) * ((zs.length : Int) - 1) / 2 := of_decide_eq_true (Bool.and_eq_true_iff.mp (Bool.and_eq_true_iff.mp h.ok).2).1
theorem put_kv {ks : List Str} {g : Str → Int} {z : Str} {v : Int} (h : z ∈ ks) : putK (kvOf ks g) (Sum.inr z : Key) (.int v) = kvOf ks fun u => if u = z then v else g u := by
  unfold putK
  rw [if_pos]
  · unfold kvOf
    rw [List.map_map]
    refine List.map_congr_left fun u hu => ?_
    show (if (Sum.inr u : Key) = Sum.inr z then ((Sum.inr u : Key), V.int v) else ((Sum.inr u : Key), V.int (g u))) = _
    by_cases e : u = z
    · subst e
      rw [if_pos rfl]
      show _ = ((Sum.inr u : Key), V.int (if u = u then v else g u))
      rw [if_pos rfl]
    · rw [if_neg (fun t => e (Sum.inr.inj t))]
      show _ = ((Sum.inr u : Key), V.int (if u = z then v else g u))
      rw [if_neg e]
  · rw [valV_any, val_kv h]
    rfl
theorem sum_one {z : Str} {c : Int} : ∀ {l : List Str}, l.Nodup → (l.map fun u => if u = z then c else 0).sum = if z ∈ l then c else 0
  | [], _ => rfl
  | y :: r, h => by
    rw [List.nodup_cons] at h
    rw [List.map_cons, List.sum_cons, sum_one h.2]
    by_cases e : y = z
    · subst e
      rw [if_pos rfl, if_neg h.1, if_pos List.mem_cons_self]
      omega
    · rw [if_neg e]
      by_cases hz : z ∈ r
      · rw [if_pos hz, if_pos (List.mem_cons_of_mem _ hz)]; omega
      · rw [if_neg hz, if_neg (fun q => (List.mem_cons.mp q).elim (fun t => e t.symm) hz)]; omega
theorem sum_add {f g : Str → Int} : ∀ {l : List Str}, (l.map fun u => f u + g u).sum = (l.map f).sum + (l.map g).sum
  | [] => rfl
  | y :: r => by
    rw [List.map_cons, List.sum_cons, List.map_cons, List.sum_cons, List.map_cons, List.sum_cons, sum_add]
    omega
theorem nodup_inj {α : Type} {f : Str → α} : ∀ {l : List Str}, l.Nodup → (∀ a ∈ l, ∀ b ∈ l, f a = f b → a = b) → (l.map f).Nodup
  | [], _, _ => .nil
  | y :: r, h, hi => by
    rw [List.nodup_cons] at h
    rw [List.map_cons, List.nodup_cons]
    refine ⟨fun q => ?_, nodup_inj h.2 fun a ha b hb => hi a (List.mem_cons_of_mem _ ha) b (List.mem_cons_of_mem _ hb)⟩
    obtain ⟨u, hu, e⟩ := List.mem_map.mp q
    exact h.1 (hi u (List.mem_cons_of_mem _ hu) y List.mem_cons_self e ▸ hu)
/-- one overtakes the one right ahead: the places behind it -/
def overOf (zs : List Str) (kvs : List (Key × V)) (z : Str) (u : Str) : Int := if u = (nextOf zs kvs z).getD z then placeOf kvs ((nextOf zs kvs z).getD z) - 1 else if u = z then placeOf kvs z + 1 else placeOf kvs u
theorem next_ne {zs : List Str} {kvs : List (Key × V)} {z y : Str} (h2 : 2 ≤ zs.length) (e : placeOf kvs y % (zs.length : Int) = (placeOf kvs z + 1) % (zs.length : Int)) : y ≠ z := by
  intro q
  subst q
  have hn : (2 : Int) ≤ (zs.length : Nat) := by omega
  have h1 := Int.emod_emod_of_dvd (placeOf kvs y + 1 - placeOf kvs y) (Int.dvd_refl (zs.length : Int))
  have h3 : (placeOf kvs y + 1 - placeOf kvs y) % (zs.length : Int) = 0 := by
    rw [Int.sub_emod, ← e, Int.sub_self]
    rfl
  rw [show placeOf kvs y + 1 - placeOf kvs y = 1 by omega, Int.emod_eq_of_lt (by omega) (by omega)] at h3
  cases h3
theorem Sta.over {zs ks : List Str} {kvs : List (Key × V)} (h : Sta zs ks kvs) (nd : zs.Nodup) (h2 : 2 ≤ zs.length) {z : Str} (hz : z ∈ zs) : Sta zs ks (kvOf ks (overOf zs kvs z)) := by
  obtain ⟨y, hy1, hy2, hy3⟩ := next_is h.ok (by omega) z
  have hne : y ≠ z := next_ne h2 hy3
  have ho : ∀ u, overOf zs kvs z u = if u = y then placeOf kvs y - 1 else if u = z then placeOf kvs z + 1 else placeOf kvs u := fun u => by
    unfold overOf
    rw [hy1]
    rfl
  have hpos : (0 : Int) < (zs.length : Nat) := by omega
  refine Sta.mk' h.pm ?_ ?_
  · have e : ∀ u ∈ zs, overOf zs kvs z u = placeOf kvs u + ((if u = z then 1 else 0) + (if u = y then -1 else 0)) := fun u _ => by
      rw [ho u]
      by_cases e1 : u = y
      · rw [if_pos e1, if_neg (fun q => hne (e1 ▸ q)), if_pos e1, e1]; omega
      · rw [if_neg e1, if_neg e1]
        by_cases e2 : u = z
        · rw [if_pos e2, if_pos e2, e2]; omega
        · rw [if_neg e2, if_neg e2]; omega
    rw [List.map_congr_left e, sum_add, sum_add, sum_one nd, sum_one nd, if_pos hz, if_pos hy2, ← h.sum]
    omega
  · have swap : ∀ u ∈ zs, overOf zs kvs z u % (zs.length : Int) = placeOf kvs (if u = y then z else if u = z then y else u) % (zs.length : Int) := fun u _ => by
      rw [ho u]
      by_cases e1 : u = y
      · rw [if_pos e1, if_pos e1, Int.sub_emod, hy3, ← Int.sub_emod]
        congr 1
        omega
      · rw [if_neg e1, if_neg e1]
        by_cases e2 : u = z
        · rw [if_pos e2, if_pos e2, hy3]
        · rw [if_neg e2, if_neg e2]
    have mem : ∀ u ∈ zs, (if u = y then z else if u = z then y else u) ∈ zs := fun u hu => by
      by_cases e1 : u = y
      · rw [if_pos e1]; exact hz
      · rw [if_neg e1]
        by_cases e2 : u = z
        · rw [if_pos e2]; exact hy2
        · rw [if_neg e2]; exact hu
    refine nodup_inj nd fun a ha b hb e => ?_
    rw [swap a ha, swap b hb] at e
    have q := rest_inj h.ok (mem a ha) (mem b hb) e
    have inv : ∀ u, (if (if u = y then z else if u = z then y else u) = y then z else if (if u = y then z else if u = z then y else u) = z then y else (if u = y then z else if u = z then y else u)) = u := fun u => by
      by_cases e1 : u = y
      · rw [if_pos e1, if_neg (fun t => hne t.symm), if_pos rfl, e1]
      · rw [if_neg e1]
        by_cases e2 : u = z
        · rw [if_pos e2, if_pos rfl, e2]
        · rw [if_neg e2, if_neg e1, if_neg e2]
    rw [← inv a, q, inv b]
end RK

namespace RK
open PySem L2
theorem merge_app : ∀ {more acc : List (Key × V)}, ((acc ++ more).map (·.1)).Nodup → mergeK acc more = acc ++ more
  | [], acc, _ => by rw [List.append_nil]; rfl
  | kv :: r, acc, h => by
    have e : acc ++ kv :: r = (acc ++ [kv]) ++ r := by simp
    show mergeK (putK acc kv.1 kv.2) r = _
    rw [put_new fun p hp q => ?_, e]
    · exact merge_app (by rw [← e]; exact h)
    · rw [List.map_append, List.map_cons] at h
      have := (List.nodup_append.mp h).2.2
      exact this p.1 (List.mem_map_of_mem hp) kv.1 List.mem_cons_self q
theorem merge_self {kvs : List (Key × V)} (h : (kvs.map (·.1)).Nodup) : mergeK [] kvs = kvs := merge_app (acc := []) h
theorem keys_kv {ks : List Str} {g : Str → Int} : (kvOf ks g).map (·.1) = ks.map fun z => (Sum.inr z : Key) := by
  unfold kvOf
  rw [List.map_map]
  rfl
theorem nodup_keys {ks : List Str} (h : ks.Nodup) : (ks.map fun z => (Sum.inr z : Key)).Nodup := nodup_inj h fun _ _ _ _ e => Sum.inr.inj e
theorem Sta.keys {zs ks : List Str} {kvs : List (Key × V)} (h : Sta zs ks kvs) (nd : zs.Nodup) : (kvs.map (·.1)).Nodup := by
  rw [h.kv, keys_kv]
  exact nodup_keys (h.pm.nodup_iff.mpr nd)
def spWFirst : Sp := fun vs H Q _ => ∃ (n : Addr) (zs : List Str), vs = [.ref n] ∧ H n = some (.lst (zs.map V.str)) ∧ zs.Nodup ∧ zs.length ≤ 1000 ∧ ∀ d H', H d = none → H' d = some (.dK (firstKv zs)) → Same H H' → Q (.ref d) H'
def spWOver : Sp := fun vs H Q _ => ∃ (d : Addr) (zs ks : List Str) (kvs : List (Key × V)) (z : Str), vs = [.ref d, .str z] ∧ H d = some (.dK kvs) ∧ Sta zs ks kvs ∧ zs.Nodup ∧ z ∈ zs ∧ 2 ≤ zs.length ∧ zs.length ≤ 1000 ∧
  ∀ e H', H e = none → H' e = some (.dK (kvOf ks (overOf zs kvs z))) → Same H H' → Q (.ref e) H'
section
variable {P : Program} {w : World} {K : PySem.W.Frag} {mg : Str → Option Value} {base : Heap}
theorem scWFirst : FnScope ["names", "rank", "name"] ["names"] (defScope sWFirst) := ⟨rfl, rfl, rfl, by decide +kernel, rfl, by decide +kernel, by decide +kernel⟩
theorem ok_wfirst {f : Addr} {fd : FuncData} (F : Fun K "_law_w_first" "_law_w_first" sWFirst f fd) (B : B0 K mg) : FnOk P w K mg base CX0 1 f fd ["names"] spWFirst := by
  refine F.ok scWFirst (fun vs H Q E h => ?_) (fun cdv A outer s H vs Q E hr h => ?_)
  · obtain ⟨n, zs, rfl, _⟩ := h
    rfl
  · obtain ⟨n, zs, rfl, hn, hnd, hl, q⟩ := h
    refine ⟨_, pss_one (ps_ret (pe_callTy (call_dictP rfl) (by rfl) B.dict (by decide +kernel) (pa_cons (pe_lc (te := tTup (tCons (tVar 2) (tCons (tVar 1) tNil))) (own := [("rank", 1), ("name", 2)]) (g := gTup K 2 (gCons (gName 1) (gCons (gName 2) gNil))) (tt := tYes) rfl scWFirst.nd (pi_enum (by rfl) B.enum (pa_cons (pv 0) pa_nil)) (blkOk_by (N := ["names", "rank", "name"]) (sc := defScope sWFirst) (by decide +kernel))
      (fun _ _ _ _ _ => by exact (pg_tup rfl (pgs_cons (pg_name (i := 1) scWFirst.nd rfl (Or.inl rfl)) (pgs_cons (pg_name (i := 2) scWFirst.nd rfl (Or.inl rfl)) pgs_nil)))) (fun _ _ _ _ _ => pts_nil)
      (fun _ _ _ _ _ => by exact (pe_tup (pa_cons (pv 2) (pa_cons (pv 1) pa_nil))))) pa_nil))), ?_⟩
    refine ⟨_, rfl, n, _, rfl, SqL.of hn, fun D hD => ?_⟩
    have hlen : (zs.map V.str).length = zs.length := List.length_map _
    refine lc_it (walk_enum (K := K) (a := n) (xs := zs.map V.str)) (fun i H' => Same H H' ∧ ∃ ts : List Addr, H' D = some (.lst (ts.map V.ref)) ∧ Paired (fun (t : Addr) (kv : Key × V) => t ≠ D ∧ H' t = some (.tup [kV kv.1, kv.2])) ts (firstKv (zs.take i))) ⟨same_upd hD, [], upd_same, .nil⟩ (fun i H' _ p => SqL.of (p.1 _ _ hn)) ?_ ?_
    · rintro i x H1 H2 hi ⟨sm, ts, hacc, hpr⟩ ⟨T, x1, y, rfl, hT, rfl, hx1, hy⟩
      cases hx1
      replace hy : (zs.map V.str)[i]? = some y := hy
      obtain ⟨z, hz, hzm, rfl⟩ := name_at hy
      have sT := same_upd (o := .tup [.int (i : Nat), V.str z]) hT
      have hli : (zs.take i).length = i := by rw [List.length_take]; rw [hlen] at hi; omega
      have htl : ts.length = i := by
        rw [Paired.length hpr]
        unfold firstKv
        rw [List.length_map, List.length_zipIdx, hli]
      refine ⟨T, _, rfl, SqT.of upd_same, rfl, _, _, rfl, _, _, rfl, rfl, rfl, tyes ?_⟩
      refine ⟨_, rfl, _, rfl, by show 2 ≤ sizeLine; decide, fun U hU => ?_⟩
      have sU := same_upd (o := .tup [V.str z, .int (i : Nat)]) hU
      have hacc2 := sU _ _ (sT _ _ hacc)
      refine ⟨_, hacc2, ?_, fun b u hb => ?_, ts ++ [U], ?_, ?_⟩
      · rw [List.length_map, htl]
        exact Nat.lt_of_le_of_lt (Nat.le_trans (Nat.le_of_lt hi) (by rw [hlen]; exact hl)) (by decide)
      · rw [upd_ne (ne_of_none hb hD)]
        exact sU _ _ (sT _ _ (sm _ _ hb))
      · rw [upd_same, List.map_append]
        rfl
      · rw [take_more hz, first_more, hli]
        exact Paired.snoc (Paired.mono (fun t kv h => ⟨h.1, by rw [upd_ne h.1]; exact sU _ _ (sT _ _ h.2)⟩) hpr) ⟨Ne.symm (ne_of_none (sT _ _ hacc) hU), by rw [upd_ne (Ne.symm (ne_of_none (sT _ _ hacc) hU)), upd_same]; rfl⟩
    · rintro H1 ⟨sm, ts, hacc, hpr⟩
      rw [show (zs.map V.str).length = zs.length from hlen, List.take_length] at hpr
      refine ⟨D, ts, firstKv zs, rfl, SqL.of hacc, Paired.mono (fun t kv h => SqT.of h.2) hpr, fun p hp => ?_⟩
      rw [merge_self (by rw [first_keys]; exact nodup_keys hnd)]
      exact q p _ (Same.free sm hp) upd_same (Same.trans sm (same_upd hp))
theorem scWOver : FnScope ["stand", "one", "other", "later"] ["stand", "one"] (defScope sWOver) := ⟨rfl, rfl, rfl, by decide +kernel, rfl, by decide +kernel, by decide +kernel⟩
theorem ok_wover {f fA : Addr} {fd fdA : FuncData} (F : Fun K "_law_w_over" "_law_w_over" sWOver f fd) (B : B0 K mg) (GA : FnOk P w K mg base CX0 2 fA fdA ["stand", "one"] spWAhead) (bA : Binds K fdA ["stand", "one"] []) (gA : mg "_law_w_ahead" = some (.ref fA)) (kA : PySem.W.keepIn K (.ref fA) = true) :
    FnOk P w K mg base CX0 3 f fd ["stand", "one"] spWOver := by
  refine F.ok scWOver (fun vs H Q E h => ?_) (fun cdv A outer s H vs Q E hr h => ?_)
  · obtain ⟨d, zs, ks, kvs, z, rfl, _⟩ := h
    rfl
  · obtain ⟨d, zs, ks, kvs, z, rfl, hd, hst, hnd, hz, h2, hl, q⟩ := h
    have hu := hu_of hr
    refine ⟨_, pss_cons (ps_par (i := 2) (j := 3) rfl scWOver.nd rfl rfl (by decide) rfl rfl (pa_cons (pe_call GA hr (by rfl) gA kA bA .nil pass0 (pa_cons (pv 0) (pa_cons (pv 1) pa_nil))) (pa_cons (pe_callTy (call_dictP rfl) (by rfl) B.dict (by decide +kernel) (pa_cons (LiI.pe_listItems rfl (pv 0) (by rfl) B.list (by decide +kernel)) pa_nil)) pa_nil)) (by rfl))
      (pss_cons (ps_asg (pe_tup (pa_cons (pe_op op_add (pe_dget hu (pv 0) (pv 1) (fun _ _ => rfl)) pe_int) (pa_cons (pe_op op_sub (pe_dget hu (pv 0) (pv 2) (fun _ _ => rfl)) pe_int) pa_nil))) (pg_tup rfl (pgs_cons (pg_sub (pv 3) (pv 1) (set_dict hu)) (pgs_cons (pg_sub (pv 3) (pv 2) (set_dict hu)) pgs_nil))))
      (pss_one (ps_ret (pv 3)))), ?_⟩
    obtain ⟨y, hy1, hy2, hy3⟩ := next_is hst.ok (by omega) z
    have hne : y ≠ z := next_ne h2 hy3
    refine ⟨_, rfl, _, rfl, d, zs, ks, kvs, z, rfl, hd, hst, hz, by omega, hl, fun H1 s1 => ?_⟩
    have hyv : (nextOf zs kvs z).getD z = y := by rw [hy1]; rfl
    rw [hyv]
    refine ⟨_, rfl, d, kvs, rfl, s1 _ _ hd, fun H2 p ts s2 hp hts hpt e2 t2 => ⟨p, ts, kvs, rfl, SqL.of e2, Paired.mono (fun t kv h => SqT.of h) t2, fun r hr => ?_⟩⟩
    rw [merge_self (hst.keys hnd)]
    have s12 : Same H H2 := Same.trans s1 s2
    have s3 := same_upd (o := .dK kvs) hr
    have er : (upd H2 r (.dK kvs)) r = some (.dK kvs) := upd_same
    have rfree : H r = none := s12.free hr
    generalize upd H2 r (.dK kvs) = H3 at s3 er
    have hd3 := s3 _ _ (s12 _ _ hd)
    have hdr : d ≠ r := ne_of_none hd rfree
    refine ⟨_, _, rfl, ?_⟩
    refine ⟨_, rfl, _, rfl, d, _, rfl, hst.val hz ▸ DGet.k (k := (Sum.inr z : Key)) hd3, _, _, rfl, rfl, _, rfl, _, rfl, d, _, rfl, hst.val hy2 ▸ DGet.k (k := (Sum.inr y : Key)) hd3, _, _, rfl, rfl, by show 2 ≤ sizeLine; decide, fun T hT => ?_⟩
    have s4 := same_upd (o := .tup [.int (placeOf kvs z + 1), .int (placeOf kvs y - 1)]) hT
    have er4 := s4 _ _ er
    have rT : r ≠ T := ne_of_none er hT
    refine ⟨T, _, rfl, SqT.of upd_same, rfl, _, _, rfl, _, rfl, _, rfl, r, _, rfl, DPut.k (k := (Sum.inr z : Key)) er4 (Nat.lt_of_le_of_lt (by rw [hst.len]; exact hl) (by decide)), ?_⟩
    have hzk : z ∈ ks := hst.pm.mem_iff.mpr hz
    have hyk : y ∈ ks := hst.pm.mem_iff.mpr hy2
    have ep : putK kvs (Sum.inr z : Key) (.int (placeOf kvs z + 1)) = kvOf ks (fun u => if u = z then placeOf kvs z + 1 else placeOf kvs u) := by
      have := put_kv (ks := ks) (g := placeOf kvs) (v := placeOf kvs z + 1) hzk
      rw [← hst.kv] at this
      exact this
    have ep2 : putK (putK kvs (Sum.inr z : Key) (.int (placeOf kvs z + 1))) (Sum.inr y : Key) (.int (placeOf kvs y - 1)) = kvOf ks (overOf zs kvs z) := by
      rw [ep, put_kv hyk]
      refine kv_congr fun u _ => ?_
      unfold overOf
      rw [hyv]
    refine ⟨_, _, rfl, _, rfl, _, rfl, r, _, rfl, DPut.k (k := (Sum.inr y : Key)) upd_same ?_, rfl, ?_⟩
    · have l1 : (putK kvs (Sum.inr z : Key) (.int (placeOf kvs z + 1))).length = ks.length := by rw [ep]; unfold kvOf; rw [List.length_map]
      show (putK kvs (Sum.inr z : Key) (.int (placeOf kvs z + 1))).length < sizeLine
      rw [l1, hst.pm.length_eq]
      exact Nat.lt_of_le_of_lt hl (by decide)
    · refine ⟨_, rfl, q r _ rfree ?_ fun b u hb => ?_⟩
      · rw [upd_same]
        exact congrArg (fun x => some (HO.dK x)) ep2
      · rw [upd_ne (ne_of_none hb rfree), upd_ne (ne_of_none hb rfree)]
        exact s4 _ _ (s3 _ _ (s12 _ _ hb))
end
end RK

namespace RK
open PySem L2
theorem SpAt.lst {H : Hp} {a : Addr} {m : Nat} (h : SpAt H a m) : ∃ ys, H a = some (.lst ys) := by
  obtain ⟨o, ho, x, y, c, rfl, _⟩ := h
  exact ⟨_, ho⟩
theorem SpAt.same {H H' : Hp} {a : Addr} {m : Nat} (h : SpAt H a m) (s : Same H H') : SpAt H' a m := by
  obtain ⟨o, ho, q⟩ := h
  exact ⟨o, s _ _ ho, q⟩
theorem keys_list {ks : List Str} {g : Str → Int} : ((kvOf ks g).map fun kv => kV kv.1) = ks.map V.str := by
  unfold kvOf
  rw [List.map_map]
  rfl
theorem over_le {zs ks : List Str} {kvs : List (Key × V)} {z : Str} {B : Nat} (h : Sta zs ks kvs) (h0 : 0 < zs.length) (hz : z ∈ zs) (hb : ∀ u ∈ zs, (placeOf kvs u).natAbs ≤ B) : ∀ u ∈ zs, (placeOf (kvOf ks (overOf zs kvs z)) u).natAbs ≤ B + 1 := fun u hu => by
  rw [place_kv (h.pm.mem_iff.mpr hu)]
  obtain ⟨y, hy1, hy2, _⟩ := next_is h.ok h0 z
  have e1 := hb y hy2
  have e2 := hb z hz
  have e3 := hb u hu
  unfold overOf
  rw [hy1]
  show (if u = y then placeOf kvs y - 1 else if u = z then placeOf kvs z + 1 else placeOf kvs u).natAbs ≤ B + 1
  split
  · omega
  · split
    · omega
    · omega
/-- a run of overtakings from one stand to another -/
inductive Goes (zs ks : List Str) : List (Key × V) → List (Str × Str) → List (Key × V) → Prop where
  | nil {kvs : List (Key × V)} : Goes zs ks kvs [] kvs
  | snoc {kvs kv1 : List (Key × V)} {rn : List (Str × Str)} {z : Str} (h : Goes zs ks kvs rn kv1) (hz : z ∈ zs) : Goes zs ks kvs (rn ++ [(z, (nextOf zs kv1 z).getD z)]) (kvOf ks (overOf zs kv1 z))
/-- a list of pairs at r -/
def PairsAt (H : Hp) (r : Addr) (rn : List (Str × Str)) : Prop := ∃ ts : List Addr, H r = some (.lst (ts.map V.ref)) ∧ Paired (fun (t : Addr) (pr : Str × Str) => t ≠ r ∧ H t = some (.tup [.str pr.1, .str pr.2])) ts rn
theorem PairsAt.same {H H' : Hp} {r : Addr} {rn : List (Str × Str)} (h : PairsAt H r rn) (s : Same H H') : PairsAt H' r rn := by
  obtain ⟨ts, h1, h2⟩ := h
  exact ⟨ts, s _ _ h1, Paired.mono (fun t pr e => ⟨e.1, s _ _ e.2⟩) h2⟩
/-- a stand that is told: at e, in the order ks, its places by g -/
def spWRun : Sp := fun vs H Q _ => ∃ (a d : Addr) (zs ks : List Str) (kvs : List (Key × V)) (N m B : Nat), vs = [.ref a, .ref d, .int (N : Nat)] ∧ (∀ z ∈ zs, (placeOf kvs z).natAbs ≤ B) ∧ a ≠ d ∧ SpAt H a m ∧ m + N < 2000000000 ∧ H d = some (.dK kvs) ∧ Sta zs ks kvs ∧ zs.Nodup ∧ 2 ≤ zs.length ∧ zs.length ≤ 1000 ∧ N ≤ 1000 ∧
  ∀ p r e kvs' rn H', H' p = some (.tup [.ref r, .ref e]) → PairsAt H' r rn → Goes zs ks kvs rn kvs' → rn.length = N → H r = none → H' e = some (.dK kvs') → Sta zs ks kvs' → (∀ z ∈ zs, (placeOf kvs' z).natAbs ≤ B + N) → e ≠ a → SpAt H' a (m + N) → But a H H' → Q (.ref p) H'
section
variable {P : Program} {w : World} {K : PySem.W.Frag} {mg : Str → Option Value} {base : Heap}
theorem scWRun : FnScope ["spring", "stand", "many", "run", "here", "k", "one"] ["spring", "stand", "many"] (defScope sWRun) := ⟨rfl, rfl, rfl, by decide +kernel, rfl, by decide +kernel, by decide +kernel⟩
theorem ok_wrun {f fP fA fO : Addr} {fd fdP fdA fdO : FuncData} (F : Fun K "_law_w_run" "_law_w_run" sWRun f fd) (B : B0 K mg)
    (GP : FnOk P w K mg base CX0 2 fP fdP ["spring", "some"] spPick) (bP : Binds K fdP ["spring", "some"] []) (gP : mg "_law_pick" = some (.ref fP)) (kP : PySem.W.keepIn K (.ref fP) = true)
    (GA : FnOk P w K mg base CX0 2 fA fdA ["stand", "one"] spWAhead) (bA : Binds K fdA ["stand", "one"] []) (gA : mg "_law_w_ahead" = some (.ref fA)) (kA : PySem.W.keepIn K (.ref fA) = true)
    (GO : FnOk P w K mg base CX0 3 fO fdO ["stand", "one"] spWOver) (bO : Binds K fdO ["stand", "one"] []) (gO : mg "_law_w_over" = some (.ref fO)) (kO : PySem.W.keepIn K (.ref fO) = true) :
    FnOk P w K mg base CX0 4 f fd ["spring", "stand", "many"] spWRun := by
  refine F.ok scWRun (fun vs H Q E h => ?_) (fun cdv A outer s H vs Q E hr h => ?_)
  · obtain ⟨a, d, zs, ks, kvs, N, m, B0, rfl, _⟩ := h
    rfl
  · obtain ⟨a, d, zs, ks, kvs, N, m, B1, rfl, hB1, had, hsp, hm, hd, hst, hnd, h2, hl, hN, q⟩ := h
    have hr2 : Room 2 _ := hr.mono (by decide)
    refine ⟨_, pss_cons (ps_par (i := 3) (j := 4) rfl scWRun.nd rfl rfl (by decide) rfl rfl (pa_cons (pe_lst pa_nil) (pa_cons (pv 1) pa_nil)) (by rfl))
      (pss_cons (ps_for PassesOwn.never rfl (pi_range1 (by rfl) B.range (pa_cons (pv 2) pa_nil)) (pg_name (i := 5) scWRun.nd rfl (Or.inl rfl))
        (pss_cons (ps_set (i := 6) scWRun.nd rfl (Or.inl rfl) (pe_call GP hr2 (by rfl) gP kP bP .nil pass0 (pa_cons (pv 0) (pa_cons (pe_callTy (call_list_dK rfl) (by rfl) B.list (by decide +kernel) (pa_cons (pv 1) pa_nil)) pa_nil))))
        (pss_cons (ps_expr (pe_bm PySem.F.plainAttrs_list PySem.F.slot_list_append PySem.F.type_list_append mt_append (pv 3) (pa_cons (pe_tup (pa_cons (pv 6) (pa_cons (pe_call GA hr2 (by rfl) gA kA bA .nil pass0 (pa_cons (pv 4) (pa_cons (pv 6) pa_nil))) pa_nil))) pa_nil)))
        (pss_one (ps_set (i := 4) scWRun.nd rfl (Or.inl rfl) (pe_call GO hr (by rfl) gO kO bO .nil pass0 (pa_cons (pv 4) (pa_cons (pv 6) pa_nil))))))))
      (pss_one (ps_ret (pe_tup (pa_cons (pv 3) (pa_cons (pv 4) pa_nil)))))), ?_⟩
    obtain ⟨osp, hosp, hok0⟩ := id hsp
    refine ⟨by show 0 ≤ sizeLine; decide, fun r hr0 => ?_⟩
    have s1 := same_upd (o := .lst []) hr0
    have er : (upd H r (.lst [])) r = some (.lst []) := upd_same
    have har : a ≠ r := ne_of_none hosp hr0
    have hdr : d ≠ r := ne_of_none hd hr0
    generalize upd H r (.lst []) = H1 at s1 er
    refine ⟨_, rfl, _, _, rfl, ?_⟩
    refine ⟨_, rfl, N, rfl, by omega, ?_⟩
    refine ⟨by omega, for_range (n := ((N : Nat) : Int).toNat) (fun i σ G => ∃ (e : Addr) (kvs' : List (Key × V)) (w5 w6 : Option V) (xs : List V) (rn : List (Str × Str)), σ = [some (.ref a), some (.ref d), some (.int (N : Nat)), some (.ref r), some (.ref e), w5, w6] ∧ G r = some (.lst xs) ∧ PairsAt G r rn ∧ Goes zs ks kvs rn kvs' ∧ rn.length = i ∧ xs.length = i ∧ G e = some (.dK kvs') ∧ Sta zs ks kvs' ∧ (∀ z ∈ zs, (placeOf kvs' z).natAbs ≤ B1 + i) ∧ e ≠ a ∧ SpAt G a (m + i) ∧ But a H G)
      ⟨d, kvs, none, none, [], [], rfl, er, ⟨[], er, .nil⟩, .nil, rfl, rfl, s1 _ _ hd, hst, hB1, Ne.symm had, hsp.same s1, Same.but s1⟩ ?_ ?_⟩
    · rintro i σ G hi ⟨e, kvs', w5, w6, xs, rn, rfl, hrG, hpG, hgo, hrn, hxs, heG, hst', hBi, hea, hspG, bG⟩
      rw [Int.toNat_natCast] at hi
      have hera : e ≠ r := ne_of heG hrG (fun q => nomatch q)
      refine ⟨_, rfl, _, rfl, d, kvs, rfl, bG _ _ (Ne.symm had) hd, fun L hL => ?_⟩
      have hkl : (kvs.map fun kv => kV kv.1) = ks.map V.str := by rw [hst.kv]; exact keys_list
      rw [hkl]
      have s2 := same_upd (o := .lst (ks.map V.str)) hL
      have eL : (upd G L (.lst (ks.map V.str))) L = some (.lst (ks.map V.str)) := upd_same
      obtain ⟨ya, hya⟩ := hspG.lst
      have haL : a ≠ L := ne_of_none hya hL
      have hspL := hspG.same s2
      generalize upd G L (.lst (ks.map V.str)) = G2 at s2 eL hspL
      have kl : (ks.map V.str).length = zs.length := by rw [List.length_map, hst.pm.length_eq]
      refine ⟨a, L, ks.map V.str, m + i, rfl, haL, hspL, by omega, eL, by omega, by omega, fun v o hv ho => ?_⟩
      obtain ⟨z, hzk, rfl⟩ := List.mem_map.mp hv
      have hz : z ∈ zs := hst.pm.mem_iff.mp hzk
      have hsp3 : SpAt (upd G2 a o) a (m + i + 1) := ⟨o, upd_same, ho⟩
      have b3 : But a G (upd G2 a o) := (Same.but s2).trans But.upd
      generalize upd G2 a o = G3 at hsp3 b3
      have hr3 := b3 _ _ (Ne.symm har) hrG
      have he3 := b3 _ _ hea heG
      refine ⟨_, rfl, .inl ⟨rfl, _, SqL.of hr3⟩, _, rfl, _, rfl, _, rfl, e, zs, ks, kvs', z, rfl, he3, hst', hz, by omega, hl, fun G4 s4 => ⟨by show 2 ≤ sizeLine; decide, fun T hT => ?_⟩⟩
      have s5 := same_upd (o := .tup [V.str z, .str ((nextOf zs kvs' z).getD z)]) hT
      have s45 : Same G3 _ := Same.trans s4 s5
      have hr5 := s45 _ _ hr3
      have he5 := s45 _ _ he3
      have hsp5 := hsp3.same s45
      have hT5 : (upd G4 T (.tup [V.str z, .str ((nextOf zs kvs' z).getD z)])) T = some (.tup [V.str z, .str ((nextOf zs kvs' z).getD z)]) := upd_same
      generalize upd G4 T (.tup [V.str z, .str ((nextOf zs kvs' z).getD z)]) = G5 at s5 s45 hr5 he5 hsp5 hT5
      refine ⟨r, _, _, rfl, rfl, hr5, Nat.lt_of_le_of_lt (show xs.length ≤ 1000 by omega) (by decide), ?_⟩
      have he6 : (upd G5 r (.lst (xs ++ [.ref T]))) e = some (.dK kvs') := by rw [upd_ne hera]; exact he5
      refine ⟨_, rfl, _, rfl, e, zs, ks, kvs', z, rfl, he6, hst', hnd, hz, h2, hl, fun e2 G6 he2 hd6 s6 => ?_⟩
      have b6 : But a H G6 := fun b u hb hu => by
        have h1 := s45 _ _ (b3 _ _ hb (bG _ _ hb hu))
        refine s6 _ _ ?_
        rw [upd_ne (ne_of_none hu hr0)]
        exact h1
      obtain ⟨o5, ho5, hok5⟩ := hsp5
      have ha6 : (upd G5 r (.lst (xs ++ [.ref T]))) a = some o5 := by rw [upd_ne har]; exact ho5
      have hp6 : PairsAt G6 r (rn ++ [(z, (nextOf zs kvs' z).getD z)]) := by
        obtain ⟨ts, q1, q2⟩ := hpG
        rw [hrG] at q1
        cases q1
        have hrT : T ≠ r := Ne.symm (ne_of_none (s4 _ _ hr3) hT)
        refine ⟨ts ++ [T], s6 _ _ (by rw [upd_same, List.map_append]; rfl), Paired.snoc (Paired.mono (fun t pr e => ⟨e.1, s6 _ _ (by rw [upd_ne e.1]; exact s45 _ _ (b3 _ _ (fun q => by rw [q, hya] at e; cases e.2) e.2))⟩) q2) ⟨hrT, s6 _ _ (by rw [upd_ne hrT]; exact hT5)⟩⟩
      refine ⟨e2, _, _, _, xs ++ [.ref T], rn ++ [(z, (nextOf zs kvs' z).getD z)], rfl, s6 _ _ upd_same, hp6, .snoc hgo hz, by rw [List.length_append, hrn]; rfl, by rw [List.length_append, hxs]; rfl, hd6, hst'.over hnd h2 hz, over_le hst' (by omega) hz hBi, ?_, ⟨o5, s6 _ _ ha6, hok5⟩, b6⟩
      exact fun q => by rw [q] at he2; rw [ha6] at he2; cases he2
    · rintro σ G ⟨e, kvs', w5, w6, xs, rn, rfl, hrG, hpG, hgo, hrn, hxs, heG, hst', hBi, hea, hspG, bG⟩
      rw [Int.toNat_natCast] at hspG
      refine ⟨_, rfl, _, rfl, by show 2 ≤ sizeLine; decide, fun p hp => ?_⟩
      have s2 := same_upd (o := .tup [V.ref r, .ref e]) hp
      rw [Int.toNat_natCast] at hrn
      exact q p r e kvs' rn _ upd_same (hpG.same s2) hgo hrn hr0 (s2 _ _ heG) (by
        have : ks.Perm zs := hst'.pm
        exact ⟨hst'.eq, this, hst'.ok⟩) (by rw [Int.toNat_natCast] at hBi; exact hBi) hea (hspG.same s2) (bG.trans (Same.but s2))
end
end RK

namespace RK
open PySem L2
/-! ### the first stand is one -/
theorem sum_range : ∀ n : Nat, 2 * ((List.range n).map fun i => ((i : Nat) : Int)).sum = (n : Int) * ((n : Int) - 1)
  | 0 => rfl
  | n + 1 => by
    rw [List.range_succ, List.map_append, List.sum_append, List.map_singleton, List.sum_singleton, Int.mul_add, sum_range n]
    have e : ((n + 1 : Nat) : Int) = (n : Int) + 1 := by omega
    rw [e, show (n : Int) + 1 - 1 = n by omega, Int.add_mul, Int.mul_sub, Int.one_mul, Int.mul_one]
    omega
theorem half_sum (n : Nat) : ((List.range n).map fun i => ((i : Nat) : Int)).sum = (n : Int) * ((n : Int) - 1) / 2 := by
  have := sum_range n
  omega
theorem idx_range {zs : List Str} (nd : zs.Nodup) : (zs.map fun z => ((zs.idxOf z : Nat) : Int)) = (List.range zs.length).map fun i => ((i : Nat) : Int) := by
  refine List.ext_getElem (by rw [List.length_map, List.length_map, List.length_range]) fun i h1 h2 => ?_
  rw [List.getElem_map, List.getElem_map, List.getElem_range]
  rw [List.length_map] at h1
  rw [nd.idxOf_getElem i h1]
theorem first_kv {zs : List Str} (nd : zs.Nodup) : firstKv zs = kvOf zs fun z => ((zs.idxOf z : Nat) : Int) := by
  unfold firstKv kvOf
  refine List.ext_getElem (by rw [List.length_map, List.length_map, List.length_zipIdx]) fun i h1 h2 => ?_
  rw [List.length_map] at h2
  rw [List.getElem_map, List.getElem_map, List.getElem_zipIdx]
  show ((Sum.inr zs[i] : Key), V.int ((0 + i : Nat) : Int)) = ((Sum.inr zs[i] : Key), V.int ((zs.idxOf zs[i] : Nat) : Int))
  rw [nd.idxOf_getElem i h2, Nat.zero_add]
theorem first_sta {zs : List Str} (nd : zs.Nodup) (h0 : 0 < zs.length) : Sta zs zs (firstKv zs) := by
  rw [first_kv nd]
  refine Sta.mk' (List.Perm.refl _) ?_ ?_
  · rw [idx_range nd]
    exact half_sum _
  · refine nodup_inj nd fun x hx y hy e => ?_
    have h1 := List.idxOf_lt_length_of_mem hx
    have h2 := List.idxOf_lt_length_of_mem hy
    rw [Int.emod_eq_of_lt (by omega) (by omega), Int.emod_eq_of_lt (by omega) (by omega)] at e
    have e' : zs.idxOf x = zs.idxOf y := by omega
    rw [← List.getElem_idxOf h1, ← List.getElem_idxOf h2]
    congr 1
theorem first_le {zs : List Str} (nd : zs.Nodup) {n : Nat} (hl : zs.length ≤ n) : ∀ z ∈ zs, (placeOf (firstKv zs) z).natAbs ≤ n := fun z hz => by
  rw [first_kv nd, place_kv hz]
  have := List.idxOf_lt_length_of_mem hz
  omega
def spWNear : Sp := fun vs H Q _ => ∃ (a n : Addr) (zs : List Str) (N m : Nat), vs = [.ref a, .ref n, .int (N : Nat)] ∧ a ≠ n ∧ SpAt H a m ∧ m < 1000000000 ∧ H n = some (.lst (zs.map V.str)) ∧ zs.Nodup ∧ 2 ≤ zs.length ∧ zs.length ≤ 1000 ∧ N < 1000 ∧
  ∀ e kvs H', H' e = some (.dK kvs) → Sta zs zs kvs → (∀ z ∈ zs, (placeOf kvs z).natAbs ≤ 2000) → e ≠ a → SpAt H' a (m + 1000) → But a H H' → Q (.ref e) H'
section
variable {P : Program} {w : World} {K : PySem.W.Frag} {mg : Str → Option Value} {base : Heap}
theorem scWNear : FnScope ["spring", "names", "many"] ["spring", "names", "many"] (defScope sWNear) := ⟨rfl, rfl, rfl, by decide +kernel, rfl, by decide +kernel, by decide +kernel⟩
theorem ok_wnear {f fR fF fD : Addr} {fd fdR fdF fdD : FuncData} (F : Fun K "_law_w_near" "_law_w_near" sWNear f fd)
    (GR : FnOk P w K mg base CX0 4 fR fdR ["spring", "stand", "many"] spWRun) (bR : Binds K fdR ["spring", "stand", "many"] []) (gR : mg "_law_w_run" = some (.ref fR)) (kR : PySem.W.keepIn K (.ref fR) = true)
    (GF : FnOk P w K mg base CX0 1 fF fdF ["names"] spWFirst) (bF : Binds K fdF ["names"] []) (gF : mg "_law_w_first" = some (.ref fF)) (kF : PySem.W.keepIn K (.ref fF) = true)
    (GD : FnOk P w K mg base CX0 1 fD fdD ["spring", "many"] spDraw) (bD : Binds K fdD ["spring", "many"] []) (gD : mg "_law_draw" = some (.ref fD)) (kD : PySem.W.keepIn K (.ref fD) = true) :
    FnOk P w K mg base CX0 5 f fd ["spring", "names", "many"] spWNear := by
  refine F.ok scWNear (fun vs H Q E h => ?_) (fun cdv A outer s H vs Q E hr h => ?_)
  · obtain ⟨a, n, zs, N, m, rfl, _⟩ := h
    rfl
  · obtain ⟨a, n, zs, N, m, rfl, han, hsp, hm, hn, hnd, h2, hl, hN, q⟩ := h
    have hr1 : Room 1 _ := hr.mono (by decide)
    refine ⟨_, pss_one (ps_ret (pe_ix ix_tup (pe_call GR hr (by rfl) gR kR bR .nil pass0 (pa_cons (pv 0) (pa_cons (pe_call GF hr1 (by rfl) gF kF bF .nil pass0 (pa_cons (pv 1) pa_nil)) (pa_cons (pe_call GD hr1 (by rfl) gD kD bD .nil pass0 (pa_cons (pv 0) (pa_cons (pe_op op_add (pv 2) pe_int) pa_nil))) pa_nil)))) pe_int (fun _ _ => rfl))), ?_⟩
    obtain ⟨osp, hosp, _⟩ := id hsp
    refine ⟨_, rfl, _, rfl, n, zs, rfl, hn, hnd, hl, fun d H1 hd0 hd1 s1 => ?_⟩
    have had : a ≠ d := ne_of_none hosp hd0
    refine ⟨_, rfl, _, rfl, _, _, rfl, rfl, a, (N : Int) + 1, m, rfl, by omega, by omega, hsp.same s1, by omega, fun x o hx0 hx1 ho => ?_⟩
    obtain ⟨k, rfl⟩ : ∃ k : Nat, x = (k : Int) := ⟨x.toNat, by omega⟩
    refine ⟨a, d, zs, zs, firstKv zs, k, m + 1, 1000, rfl, (first_le hnd hl), had, ⟨o, upd_same, ho⟩, by omega, by rw [upd_ne (Ne.symm had)]; exact hd1, first_sta hnd (by omega), hnd, h2, hl, by omega, fun p r e kvs rn H' hp _ _ _ _ he hst hbd hea hsp' hb => ?_⟩
    refine ⟨p, _, 1, .ref e, rfl, rfl, SqT.of hp, rfl, q e kvs H' he hst (fun z hz => Nat.le_trans (hbd z hz) (by omega)) hea ?_ ?_⟩
    · obtain ⟨o', ho', hok'⟩ := hsp'
      exact ⟨o', ho', hok'.mono (by omega)⟩
    · intro b u hb0 hu
      exact hb _ _ hb0 (by rw [upd_ne hb0]; exact s1 _ _ hu)
end
end RK

namespace RK
open PySem L2
theorem paired_perm {α β : Type} {F : α → β → Prop} {ts' ts : List α} (h : ts'.Perm ts) : ∀ {ms : List β}, Paired F ts ms → ∃ ms', ms'.Perm ms ∧ Paired F ts' ms' := by
  induction h with
  | nil => intro ms q; exact ⟨ms, List.Perm.refl _, q⟩
  | cons x _ ih =>
    intro ms q
    cases q with
    | cons q1 q2 =>
      obtain ⟨ms', p, r⟩ := ih q2
      exact ⟨_, p.cons _, .cons q1 r⟩
  | swap x y l =>
    intro ms q
    cases q with
    | cons q1 q2 =>
      cases q2 with
      | cons q3 q4 => exact ⟨_, List.Perm.swap _ _ _, .cons q3 (.cons q1 q4)⟩
  | trans _ _ ih1 ih2 =>
    intro ms q
    obtain ⟨m2, p2, r2⟩ := ih2 q
    obtain ⟨m1, p1, r1⟩ := ih1 r2
    exact ⟨m1, p1.trans p2, r1⟩
def unRef : V → Addr
  | .ref a => a
  | _ => 0
theorem perm_refs {ys : List V} {ts : List Addr} (h : ys.Perm (ts.map V.ref)) : ∃ ts' : List Addr, ts'.Perm ts ∧ ys = ts'.map V.ref := by
  have q := h.map unRef
  rw [List.map_map, show (unRef ∘ V.ref) = id from rfl, List.map_id] at q
  refine ⟨_, q, ?_⟩
  rw [List.map_map]
  have e : ∀ y ∈ ys, (V.ref ∘ unRef) y = y := fun y hy => by
    obtain ⟨t, _, rfl⟩ := List.mem_map.mp (h.mem_iff.mp hy)
    rfl
  rw [List.map_congr_left e, List.map_id'']
  exact fun _ => rfl
theorem perm_kv {ks : List Str} {g : Str → Int} {kvs : List (Key × V)} (h : kvs.Perm (kvOf ks g)) : ∃ ks', ks'.Perm ks ∧ kvs = kvOf ks' g := by
  let f : Key × V → Str := fun kv => match kv.1 with | .inr z => z | .inl _ => ⟨#[]⟩
  have q := h.map f
  have e1 : (kvOf ks g).map f = ks := by
    unfold kvOf
    rw [List.map_map]
    exact List.map_id' _
  rw [e1] at q
  refine ⟨_, q, ?_⟩
  unfold kvOf
  rw [List.map_map]
  have e : ∀ kv ∈ kvs, ((fun u => ((Sum.inr u : Key), V.int (g u))) ∘ f) kv = kv := fun kv hkv => by
    obtain ⟨t, _, rfl⟩ := List.mem_map.mp (h.mem_iff.mp hkv)
    rfl
  rw [List.map_congr_left e, List.map_id'']
  exact fun _ => rfl
theorem But.free {a : Addr} {H H' : Hp} (b : But a H H') {e : Addr} (h : H' e = none) (ha : H' a ≠ none) : H e = none := by
  cases q : H e with
  | none => rfl
  | some u =>
    by_cases ea : e = a
    · subst ea; exact absurd h ha
    · rw [b _ _ ea q] at h; cases h
theorem SpAt.ne {H : Hp} {a : Addr} {m : Nat} (h : SpAt H a m) : H a ≠ none := by
  obtain ⟨o, ho, _⟩ := h
  rw [ho]
  exact fun q => nomatch q
def spHanded : Sp := fun vs H Q _ => ∃ (a d : Addr) (zs ks : List Str) (kvs : List (Key × V)) (m : Nat), vs = [.ref a, .ref d] ∧ a ≠ d ∧ SpAt H a m ∧ m < 1000000000 ∧ H d = some (.dK kvs) ∧ Sta zs ks kvs ∧ zs.Nodup ∧ zs.length ≤ 1000 ∧
  ∀ e ks' kvs' H', H e = none → H' e = some (.dK kvs') → Sta zs ks' kvs' → (∀ z ∈ zs, placeOf kvs' z = placeOf kvs z) → e ≠ a → SpAt H' a (m + 1000) → But a H H' → Q (.ref e) H'
section
variable {P : Program} {w : World} {K : PySem.W.Frag} {mg : Str → Option Value} {base : Heap}
theorem scWHanded : FnScope ["spring", "some"] ["spring", "some"] (defScope sWHanded) := ⟨rfl, rfl, rfl, by decide +kernel, rfl, by decide +kernel, by decide +kernel⟩
theorem ok_whanded {f fM : Addr} {fd fdM : FuncData} (F : Fun K "_law_w_handed" "_law_w_handed" sWHanded f fd) (B : B0 K mg)
    (GM : FnOk P w K mg base CX0 2 fM fdM ["spring", "some"] spMixed) (bM : Binds K fdM ["spring", "some"] []) (gM : mg "_law_mixed" = some (.ref fM)) (kM : PySem.W.keepIn K (.ref fM) = true) :
    FnOk P w K mg base CX0 3 f fd ["spring", "some"] spHanded := by
  refine F.ok scWHanded (fun vs H Q E h => ?_) (fun cdv A outer s H vs Q E hr h => ?_)
  · obtain ⟨a, d, zs, ks, kvs, m, rfl, _⟩ := h
    rfl
  · obtain ⟨a, d, zs, ks, kvs, m, rfl, had, hsp, hm, hd, hst, hnd, hl, q⟩ := h
    refine ⟨_, pss_one (ps_ret (pe_callTy (call_dictP rfl) (by rfl) B.dict (by decide +kernel) (pa_cons (pe_call GM hr (by rfl) gM kM bM .nil pass0 (pa_cons (pv 0) (pa_cons (LiI.pe_listItems rfl (pv 1) (by rfl) B.list (by decide +kernel)) pa_nil))) pa_nil))), ?_⟩
    obtain ⟨osp, hosp, _⟩ := id hsp
    refine ⟨_, rfl, _, rfl, d, kvs, rfl, hd, fun H1 p ts s1 hp hts hpt e1 t1 => ?_⟩
    have tl : ts.length = kvs.length := Paired.length t1
    have xl : (ts.map V.ref).length ≤ 1000 := by rw [List.length_map, tl, hst.len]; exact hl
    refine ⟨a, p, ts.map V.ref, m, rfl, ne_of_none hosp hp, SpAt.same hsp s1, by omega, e1, xl, fun p2 ys H2 hperm hp2 hp2' hsp2 b2 => ?_⟩
    obtain ⟨ts', hts', rfl⟩ := perm_refs hperm
    have t12 : Paired (fun (t : Addr) (kv : Key × V) => H2 t = some (.tup [kV kv.1, kv.2])) ts kvs := by
      refine Paired.mono (fun t kv h => ?_) t1
      refine b2 _ _ (fun q => ?_) h
      subst q
      have : H1 t = some osp := s1 _ _ hosp
      obtain ⟨o, ho, x, y, c, rfl, _⟩ := hsp
      rw [hosp] at ho
      cases ho
      rw [this] at h
      cases h
    obtain ⟨kvs', hkp, t2⟩ := paired_perm hts' t12
    obtain ⟨ks', hks, rfl⟩ := perm_kv (hkp.trans (List.Perm.of_eq hst.kv))
    refine ⟨p2, ts', _, rfl, SqL.of hp2', Paired.mono (fun t kv h => SqT.of h) t2, fun e he => ?_⟩
    have hks2 : ks'.Perm zs := hks.trans hst.pm
    rw [merge_self (by rw [keys_kv]; exact nodup_keys (hks2.nodup_iff.mpr hnd))]
    have hpl : ∀ z ∈ zs, placeOf (kvOf ks' (placeOf kvs)) z = placeOf kvs z := fun z hz => place_kv (hks2.mem_iff.mpr hz)
    have b02 : But a H H2 := (Same.but s1).trans b2
    have he0 : H e = none := b02.free he hsp2.ne
    have s3 := same_upd (o := .dK (kvOf ks' (placeOf kvs))) he
    have hea : e ≠ a := fun q => hsp2.ne (by rw [← q]; exact he)
    obtain ⟨o2, ho2, hok2⟩ := hsp2
    refine q e ks' _ _ he0 upd_same ?_ hpl hea ⟨o2, s3 _ _ ho2, hok2.mono (by omega)⟩ (b02.trans (Same.but s3))
    refine Sta.mk' hks2 hst.sum ?_
    have := (Bool.and_eq_true_iff.mp (Bool.and_eq_true_iff.mp hst.ok).2).2
    have hn := of_decide_eq_true this
    unfold restsOf placesOf at hn
    rw [List.map_map] at hn
    exact hn
end
end RK

namespace RK
open PySem L2
/-! ### the law's own look whether a thing is a stand -/
theorem sorted_range {n : Nat} {l l' : List Int} (hp : l'.Perm l) (hs : l'.Pairwise (· ≤ ·)) (hb : ∀ x ∈ l, 0 ≤ x ∧ x < (n : Int)) (hl : l.length = n) : l' = (List.range n).map (fun i => ((i : Nat) : Int)) ↔ l.Nodup := by
  constructor
  · intro e
    rw [← hp.nodup_iff, e]
    refine List.Pairwise.map _ (fun a b h => ?_) (List.nodup_range (n := n))
    intro q
    exact h (by omega)
  · intro hn
    have hn' : l'.Nodup := hp.nodup_iff.mpr hn
    have hmem : ∀ x, x ∈ l' ↔ x ∈ (List.range n).map (fun i => ((i : Nat) : Int)) := fun x => by
      rw [hp.mem_iff, List.mem_map]
      constructor
      · intro hx
        have := hb x hx
        exact ⟨x.toNat, List.mem_range.mpr (by omega), by omega⟩
      · rintro ⟨i, hi, rfl⟩
        exact pigeon hn hb hl (by omega) (by have := List.mem_range.mp hi; omega)
    have hr : ((List.range n).map (fun i => ((i : Nat) : Int))).Pairwise (· ≤ ·) := List.Pairwise.map _ (fun a b (h : a < b) => by omega) List.pairwise_lt_range
    have hrn : ((List.range n).map (fun i => ((i : Nat) : Int))).Nodup := List.Pairwise.map _ (fun a b (h : a ≠ b) q => h (by omega)) (List.nodup_range (n := n))
    have hperm : l'.Perm ((List.range n).map (fun i => ((i : Nat) : Int))) := (List.perm_ext_iff_of_nodup hn' hrn).mpr hmem
    exact hperm.eq_of_pairwise (fun a b _ _ h1 h2 => Int.le_antisymm h1 h2) hs hr
def spWIsSt (K : PySem.W.Frag) : Sp := fun vs H Q _ => ∃ (n : Addr) (zs : List Str) (v : V) (k : Kd), vs = [.ref n, v] ∧ H n = some (.lst (zs.map V.str)) ∧ 0 < zs.length ∧ zs.length ≤ 60 ∧ Th K H v k ∧
  (k.isDict = false → ∀ H', Same H H' → Q (.bl false) H') ∧
  (k.isDict = true → ∃ d kvs, v = .ref d ∧ H d = some (.dK kvs) ∧ (∀ kv ∈ kvs, ∃ kx, Th K H kv.2 kx) ∧ ∀ H', Same H H' → Q (.bl (standB zs kvs)) H')
theorem dpAll_ints {K : PySem.W.Frag} {H : Hp} : ∀ ns : List Int, DpAll K H (ns.map V.int) (ns.map PyData.int)
  | [] => .nil
  | i :: r => .cons (.int i) (dpAll_ints r)
theorem eqv_ints : ∀ ns ms : List Int, PyData.eqv (.list (ns.map PyData.int)) (.list (ms.map PyData.int)) = decide (ns = ms) := by
  have key : ∀ ns ms : List Int, PyData.eqvAll (ns.map PyData.int) (ms.map PyData.int) = decide (ns = ms) := by
    intro ns
    induction ns with
    | nil => intro ms; cases ms <;> simp [PyData.eqvAll]
    | cons z r ih =>
      intro ms
      cases ms with
      | nil => simp [PyData.eqvAll]
      | cons y t =>
        rw [List.map_cons, List.map_cons, PyData.eqvAll, ih t]
        have e1 : PyData.eqv (PyData.int z) (PyData.int y) = decide (z = y) := by
          rw [PyData.eqv]
          by_cases e : z = y
          · subst e; simp
          · simp [e]
        rw [e1]
        simp
  intro ns ms
  rw [PyData.eqv]
  exact key ns ms
theorem shaped_ints (ns : List Int) : SeqAt.shaped (.list (ns.map PyData.int)) = true := by
  have k1 : ∀ l : List Int, PyData.canLayAll0 (l.map PyData.int) = true := by
    intro l
    induction l with
    | nil => rw [List.map_nil, PyData.canLayAll0]
    | cons z r ih => rw [List.map_cons, PyData.canLayAll0, ih, PyData.canLay0]; rfl
  have k2 : ∀ l : List Int, PyData.depthAll (l.map PyData.int) = 0 := by
    intro l
    induction l with
    | nil => rw [List.map_nil, PyData.depthAll]
    | cons z r ih => rw [List.map_cons, PyData.depthAll, ih, PyData.depth]; rfl
  unfold SeqAt.shaped
  rw [PyData.canLay0, k1, PyData.depth, k2]
  rfl
section
variable {P : Program} {w : World} {K : PySem.W.Frag} {mg : Str → Option Value} {base : Heap}
theorem scWIsSt : FnScope ["names", "thing", "places", "rests", "name", "place"] ["names", "thing"] (defScope sWIsSt) := ⟨rfl, rfl, rfl, by decide +kernel, rfl, by decide +kernel, by decide +kernel⟩
theorem ok_wisst {f : Addr} {fd : FuncData} (F : Fun K "_law_w_is_stand" "_law_w_is_stand" sWIsSt f fd) (B : B0 K mg) (zsum : mg "sum" = none) (zsort : mg "sorted" = none) : FnOk P w K mg base CX0 1 f fd ["names", "thing"] (spWIsSt K) := by
  refine F.ok scWIsSt (fun vs H Q E h => ?_) (fun cdv A outer s H vs Q E hr h => ?_)
  · obtain ⟨n, zs, v, k, rfl, _⟩ := h
    rfl
  · obtain ⟨n, zs, v, k, rfl, hn, h0, hl60, ht, kno, kyes⟩ := h
    have hl : zs.length ≤ 1000 := by omega
    have hu := hu_of hr
    refine ⟨_, pss_cons (ps_if (PW.pt (pw_or (pt_not (pt_val (pe_callB call_isiZ (by rfl) B.isi (by decide +kernel) (pa_cons (pv 1) (pa_cons (pe_bltn (v := .ty "dict") (by rfl) B.dict (by decide +kernel) rfl) pa_nil))))) (pw_or (pt_cmpR op_ne (pe_callB call_lenD (by rfl) B.len PySem.boot_len (pa_cons (pv 1) pa_nil)) (pe_callB call_len_seq (by rfl) B.len PySem.boot_len (pa_cons (pv 0) pa_nil)) (nomark _)) (pw_or1 (pt_not (pt_val (pe_callB (cr_all rfl) (by rfl) B.all (by decide +kernel) (pa_cons (pe_lc (te := tDIn (tVar 4) (tVar 1)) (own := [("name", 4)]) (g := gName 4) (tt := tYes) rfl scWIsSt.nd (pi_list (pv 0)) (blkOk_by (N := ["names", "thing", "places", "rests", "name", "place"]) (sc := defScope sWIsSt) (by decide +kernel)) (fun _ _ _ _ _ => pg_name (i := 4) scWIsSt.nd rfl (Or.inl rfl)) (fun _ _ _ _ _ => pts_nil) (fun _ _ _ _ _ => by exact (pe_cmp (pc_din hu (pv 4) (pv 1))))) pa_nil)))))))) (pss_one (ps_ret pe_bl)) pss_nil)
      (pss_cons (ps_setLc (i := 2) (te := tDGet (tVar 1) (tVar 4)) (own := [("name", 4)]) (g := gName 4) (tt := tYes) rfl scWIsSt.nd rfl rfl (by rfl) (pi_list (pv 0)) (blkOk_by (N := ["names", "thing", "places", "rests", "name", "place"]) (sc := defScope sWIsSt) (by decide +kernel)) (fun _ _ _ _ _ => pg_name (i := 4) scWIsSt.nd rfl (Or.inl rfl)) (fun _ _ _ _ _ => pts_nil) (fun _ _ _ _ _ => by exact (pe_dget hu (pv 1) (pv 4) (fun _ _ => rfl))))
      (pss_cons (ps_if (pt_not (pt_val (pe_callB (cr_all rfl) (by rfl) B.all (by decide +kernel) (pa_cons (pe_lc (te := tAndV (tCB (rIsiZ K) (tCons (tVar 5) (tCons (L2.tC (.ty "int")) tNil))) (tNotV (tCB (rIsiZ K) (tCons (tVar 5) (tCons (L2.tC (.ty "bool")) tNil))))) (own := [("place", 5)]) (g := gName 5) (tt := tYes) rfl scWIsSt.nd (pi_list (pv 2)) (blkOk_by (N := ["names", "thing", "places", "rests", "name", "place"]) (sc := defScope sWIsSt) (by decide +kernel)) (fun _ _ _ _ _ => pg_name (i := 5) scWIsSt.nd rfl (Or.inl rfl)) (fun _ _ _ _ _ => pts_nil) (fun _ _ _ _ _ => by exact (pe_and (pe_callB call_isiZ (by rfl) B.isi (by decide +kernel) (pa_cons (pv 5) (pa_cons (pe_bltn (v := .ty "int") (by rfl) B.int (by decide +kernel) rfl) pa_nil))) (pe_one (pe_not (pe_callB call_isiZ (by rfl) B.isi (by decide +kernel) (pa_cons (pv 5) (pa_cons (pe_bltn (v := .ty "bool") (by rfl) B.bool (by decide +kernel) rfl) pa_nil)))))))) pa_nil)))) (pss_one (ps_ret pe_bl)) pss_nil)
      (pss_cons (ps_set (i := 3) scWIsSt.nd rfl (Or.inl rfl) (pe_callB cr_sorted (by rfl) zsort (by decide +kernel) (pa_cons (pe_lc (te := tOp (rI (fun _ j => 0 < j) fun i j => .int (i % j)) (tCB (fun xs H Q => (∃ i, xs = [.int i] ∧ Q (.int i) H) ∨ ∃ k, xs = [.bl k] ∧ Q (.int (if k then 1 else 0)) H) (tCons (tVar 5) tNil)) (tCB (fun xs H Q => ∃ p ys, xs = [.ref p] ∧ (SqL K H p ys ∨ SqT K H p ys) ∧ Q (.int ys.length) H) (tCons (tVar 0) tNil))) (own := [("place", 5)]) (g := gName 5) (tt := tYes) rfl scWIsSt.nd (pi_list (pv 2)) (blkOk_by (N := ["names", "thing", "places", "rests", "name", "place"]) (sc := defScope sWIsSt) (by decide +kernel)) (fun _ _ _ _ _ => pg_name (i := 5) scWIsSt.nd rfl (Or.inl rfl)) (fun _ _ _ _ _ => pts_nil) (fun _ _ _ _ _ => by exact (pe_op op_mod (pe_callTy call_int1 (by rfl) B.int (by decide +kernel) (pa_cons (pv 5) pa_nil)) (pe_callB call_len_seq (by rfl) B.len PySem.boot_len (pa_cons (pv 0) pa_nil))))) pa_nil)))
      (pss_one (ps_ret (pe_and (pe_cmpR (op_eqD hr.units) (pv 3) (pe_listRg rfl (by rfl) B.list (prg_1 (by rfl) B.range (pe_callB call_len_seq (by rfl) B.len PySem.boot_len (pa_cons (pv 0) pa_nil)))) (nomark _)) (pe_one (pe_cmpR op_eq (pe_op op_mul pe_int (pe_callB (cr_sum rfl) (by rfl) zsum (by decide +kernel) (pa_cons (pv 2) pa_nil))) (pe_op op_mul (pe_callB call_len_seq (by rfl) B.len PySem.boot_len (pa_cons (pv 0) pa_nil)) (pe_op op_sub (pe_callB call_len_seq (by rfl) B.len PySem.boot_len (pa_cons (pv 0) pa_nil)) pe_int)) (nomark _))))))))), ?_⟩
    have hlen : (zs.map V.str).length = zs.length := List.length_map _
    refine ⟨_, rfl, v, .ty "dict", _, .type "dict", _, rfl, .ty _, ht.ty, kit_dict k, _, rfl, ?_⟩
    cases hk : k.isDict with
    | false => exact iteT (iteT (kno hk H (Same.refl H)))
    | true =>
      obtain ⟨d, kvs, rfl, hd, hth, q⟩ := kyes hk
      refine iteF ⟨_, rfl, d, kvs, rfl, hd, _, rfl, n, _, rfl, .inl (SqL.of hn), rfl, _, rfl, ?_⟩
      by_cases e : kvs.length = zs.length
      · have e' : (!decide (V.int (kvs.length : Nat) = V.int ((zs.map V.str).length : Nat))) = false := by rw [hlen, e]; simp
        rw [e']
        refine iteF ⟨_, rfl, n, rfl, ⟨_, SqL.of hn⟩, fun D hD => ?_⟩
        refine lc_it (walk_list (K := K) (a := n) (xs := zs.map V.str)) (fun i G => Same H G ∧ G D = some (.lst ((zs.take i).map fun z => V.bl (valV kvs (Sum.inr z : Key)).isSome))) ⟨same_upd hD, upd_same⟩ (fun i G _ p => SqL.of (p.1 _ _ hn)) ?_ ?_
        · rintro i x H1 H2 hi ⟨sm, hacc⟩ ⟨rfl, hx⟩
          obtain ⟨z, hz, hzm, rfl⟩ := name_at hx
          refine ⟨rfl, tyes ?_⟩
          refine ⟨_, rfl, _, rfl, d, _, rfl, DGet.k (k := (Sum.inr z : Key)) (sm _ _ hd), _, hacc, ?_, fun b u hb => ?_, ?_⟩
          · rw [List.length_map, List.length_take]
            exact Nat.lt_of_le_of_lt (Nat.le_trans (Nat.min_le_right _ _) hl) (by decide)
          · rw [upd_ne (ne_of_none hb hD)]
            exact sm _ _ hb
          · rw [upd_same, take_more hz, List.map_append]
            rfl
        · rintro H1 ⟨s1, hacc⟩
          have hacc' : H1 D = some (.lst ((zs.map fun z => (valV kvs (Sum.inr z : Key)).isSome).map V.bl)) := by
            rw [hacc, List.map_map, show (zs.map V.str).length = zs.length from hlen, List.take_length]
            rfl
          refine ⟨D, zs.map fun z => (valV kvs (Sum.inr z : Key)).isSome, rfl, SqL.of hacc', _, rfl, ?_⟩
          rw [all_take]
          cases hall : zs.all fun z => (valV kvs (Sum.inr z : Key)).isSome with
          | false =>
            have q' := q H1 s1
            have er : standB zs kvs = false := by
              have e2 : dictB zs kvs = false := by
                cases hB : dictB zs kvs with
                | false => rfl
                | true =>
                  have : (zs.all fun z => (valV kvs (Sum.inr z : Key)).isSome) = true := List.all_eq_true.mpr fun z hz => by rw [dict_place hB z hz]; rfl
                  rw [this] at hall
                  cases hall
              unfold standB
              rw [e2]
              rfl
            rw [er] at q'
            exact iteT q'
          | true =>
            have hsome : ∀ z ∈ zs, ∃ u, valV kvs (Sum.inr z : Key) = some u := fun z hz => Option.isSome_iff_exists.mp (List.all_eq_true.mp hall z hz)
            refine iteF ⟨_, rfl, n, rfl, ⟨_, SqL.of (s1 _ _ hn)⟩, fun D2 hD2 => ?_⟩
            refine lc_it (walk_list (K := K) (a := n) (xs := zs.map V.str)) (fun i G => Same H1 G ∧ G D2 = some (.lst ((zs.take i).map fun z => (valV kvs (Sum.inr z : Key)).getD .non))) ⟨same_upd hD2, upd_same⟩ (fun i G _ p => SqL.of (p.1 _ _ (s1 _ _ hn))) ?_ ?_
            · rintro i x H2 H3 hi ⟨sm, hacc2⟩ ⟨rfl, hx⟩
              obtain ⟨z, hz, hzm, rfl⟩ := name_at hx
              obtain ⟨u, hu2⟩ := hsome z hzm
              refine ⟨rfl, tyes ?_⟩
              refine ⟨_, rfl, _, rfl, d, _, rfl, hu2 ▸ DGet.k (k := (Sum.inr z : Key)) (sm _ _ (s1 _ _ hd)), _, hacc2, ?_, fun b u hb => ?_, ?_⟩
              · rw [List.length_map, List.length_take]
                exact Nat.lt_of_le_of_lt (Nat.le_trans (Nat.min_le_right _ _) hl) (by decide)
              · rw [upd_ne (ne_of_none hb hD2)]
                exact sm _ _ hb
              · rw [upd_same, take_more hz, List.map_append, List.map_singleton, hu2]
                rfl
            · rintro H2 ⟨s2, hacc2⟩
              rw [show (zs.map V.str).length = zs.length from hlen, List.take_length] at hacc2
              have s12 : Same H H2 := Same.trans s1 s2
              refine ⟨_, rfl, D2, rfl, ⟨_, SqL.of hacc2⟩, fun D3 hD3 => ?_⟩
              refine lc_it (walk_list (K := K) (a := D2) (xs := zs.map fun z => (valV kvs (Sum.inr z : Key)).getD .non)) (fun i G => Same H2 G ∧ G D3 = some (.lst ((zs.take i).map fun z => V.bl (isRight kvs z)))) ⟨same_upd hD3, upd_same⟩ (fun i G _ p => SqL.of (p.1 _ _ hacc2)) ?_ ?_
              · rintro i x H3 H4 hi ⟨sm, hacc3⟩ ⟨rfl, hx⟩
                obtain ⟨z, hz, rfl⟩ := get_map hx
                obtain ⟨u, hu2⟩ := hsome z (List.mem_of_getElem? hz)
                obtain ⟨kv, hkv, rfl⟩ := val_mem hu2
                obtain ⟨kx, hkx⟩ := hth kv hkv
                have hkx2 := (hkx.same s12).same sm
                have er : isRight kvs z = kx.isInt := by unfold isRight; rw [hu2, hkx.int_b]
                have fin : ∃ acc, H4 D3 = some (.lst acc) ∧ acc.length < sizeLine ∧ Same H2 (upd H4 D3 (.lst (acc ++ [V.bl kx.isInt]))) ∧ (upd H4 D3 (.lst (acc ++ [V.bl kx.isInt]))) D3 = some (.lst ((zs.take (i + 1)).map fun z => V.bl (isRight kvs z))) := by
                  refine ⟨_, hacc3, ?_, fun b u hb => ?_, ?_⟩
                  · rw [List.length_map, List.length_take]
                    exact Nat.lt_of_le_of_lt (Nat.le_trans (Nat.min_le_right _ _) hl) (by decide)
                  · rw [upd_ne (ne_of_none hb hD3)]
                    exact sm _ _ hb
                  · rw [upd_same, take_more hz, List.map_append, List.map_singleton, er]
                refine ⟨rfl, tyes ?_⟩
                rw [hu2]
                refine ⟨_, rfl, kv.2, .ty "int", _, .type "int", _, rfl, .ty _, hkx2.ty, kit_int kx, _, rfl, ?_⟩
                cases hik : (kx.isInt || kx.isBool) with
                | false =>
                  have e2 : kx.isInt = false := by revert hik; cases kx <;> decide
                  rw [e2] at fin
                  exact iteF fin
                | true =>
                  have e2 : (!kx.isBool) = kx.isInt := by revert hik; cases kx <;> decide
                  refine iteT ⟨_, rfl, kv.2, .ty "bool", _, .type "bool", _, rfl, .ty _, hkx2.ty, kit_bool kx, _, rfl, ?_⟩
                  rw [e2]
                  exact fin
              · rintro H3 ⟨s3, hacc3⟩
                have hpl3 : (zs.map fun z => (valV kvs (Sum.inr z : Key)).getD .non).length = zs.length := List.length_map _
                have hacc3' : H3 D3 = some (.lst ((zs.map fun z => isRight kvs z).map V.bl)) := by
                  rw [hacc3, List.map_map, hpl3, List.take_length]
                  rfl
                refine ⟨D3, zs.map fun z => isRight kvs z, rfl, SqL.of hacc3', _, rfl, ?_⟩
                rw [all_take]
                have s13 : Same H H3 := Same.trans s12 s3
                have edict : dictB zs kvs = zs.all fun z => isRight kvs z := by
                  unfold dictB
                  rw [decide_eq_true e, Bool.true_and]
                  rfl
                cases hint : zs.all fun z => isRight kvs z with
                | false =>
                  have q' := q H3 s13
                  have er : standB zs kvs = false := by unfold standB; rw [edict, hint]; rfl
                  rw [er] at q'
                  exact iteT q'
                | true =>
                  have hB : dictB zs kvs = true := by rw [edict, hint]
                  have hpl := dict_place hB
                  have hpls : (zs.map fun z => (valV kvs (Sum.inr z : Key)).getD .non) = (placesOf zs kvs).map V.int := by
                    unfold placesOf
                    rw [List.map_map]
                    exact List.map_congr_left fun z hz => by rw [hpl z hz]; rfl
                  have hD23 := s3 _ _ hacc2
                  rw [hpls] at hD23
                  have hpos : (0 : Int) < (zs.length : Nat) := by omega
                  have hn3 := s13 _ _ hn
                  have hpn : (placesOf zs kvs).length = zs.length := by unfold placesOf; rw [List.length_map]
                  refine iteF ⟨_, rfl, D2, rfl, ⟨_, SqL.of hD23⟩, fun D4 hD4 => ?_⟩
                  refine lc_it (walk_list (K := K) (a := D2) (xs := (placesOf zs kvs).map V.int)) (fun i G => Same H3 G ∧ G D4 = some (.lst (((restsOf zs kvs).take i).map V.int))) ⟨same_upd hD4, upd_same⟩ (fun i G _ p => SqL.of (p.1 _ _ hD23)) ?_ ?_
                  · rintro i x G G' hi ⟨sm, hacc4⟩ ⟨rfl, hx⟩
                    obtain ⟨p, hp, rfl⟩ := get_map hx
                    have hri : (restsOf zs kvs)[i]? = some (p % (zs.length : Int)) := by
                      unfold restsOf
                      rw [List.getElem?_map, hp]
                      rfl
                    refine ⟨rfl, tyes ?_⟩
                    refine ⟨_, rfl, .inl ⟨p, rfl, _, rfl, n, _, rfl, .inl (SqL.of (sm _ _ hn3)), _, _, rfl, rfl, by rw [hlen]; exact hpos, _, hacc4, ?_, fun b u hb => ?_, ?_⟩⟩
                    · rw [List.length_map, List.length_take]
                      exact Nat.lt_of_le_of_lt (Nat.le_trans (Nat.min_le_right _ _) (by unfold restsOf; rw [List.length_map, hpn]; exact hl)) (by decide)
                    · rw [upd_ne (ne_of_none hb hD4)]
                      exact sm _ _ hb
                    · rw [upd_same, take_more hri, List.map_append, hlen]
                      rfl
                  · rintro G ⟨s4, hacc4⟩
                    have hrl : (restsOf zs kvs).length = zs.length := by unfold restsOf; rw [List.length_map, hpn]
                    rw [List.length_map, hpn, List.take_of_length_le (Nat.le_of_eq hrl)] at hacc4
                    refine ⟨D4, restsOf zs kvs, rfl, SqL.of hacc4, by omega, fun ns' p hperm hpw hp => ?_⟩
                    have s5 := same_upd (o := .lst (ns'.map V.int)) hp
                    have e5 : (upd G p (.lst (ns'.map V.int))) p = some (.lst (ns'.map V.int)) := upd_same
                    generalize upd G p (.lst (ns'.map V.int)) = G5 at s5 e5
                    have s15 : Same H G5 := Same.trans s13 (Same.trans s4 s5)
                    have hn5 := s15 _ _ hn
                    have hD25 := s5 _ _ (s4 _ _ hD23)
                    refine ⟨_, rfl, _, rfl, n, _, rfl, .inl (SqL.of hn5), _, rfl, ?_⟩
                    rw [hlen]
                    refine ⟨RgOk.of_le (by omega) (by omega) (by omega) (by omega), fun R hR => ?_⟩
                    have erg : rgV 0 (zs.length : Nat) = ((List.range zs.length).map fun i => ((i : Nat) : Int)).map V.int := by
                      unfold rgV
                      rw [Int.sub_zero, Int.toNat_natCast, List.map_map]
                      exact List.map_congr_left fun i _ => by rw [Int.zero_add]; rfl
                    rw [erg]
                    have s6 := same_upd (o := .lst (((List.range zs.length).map fun i => ((i : Nat) : Int)).map V.int)) hR
                    refine ⟨_, _, .lst (SqL.of (s6 _ _ e5)) (dpAll_ints ns'), .lst (SqL.of upd_same) (dpAll_ints _), shaped_ints _, shaped_ints _, ?_⟩
                    rw [eqv_ints]
                    have iff := sorted_range (n := zs.length) hperm hpw (fun x hx => by
                      unfold restsOf at hx
                      obtain ⟨y, _, rfl⟩ := List.mem_map.mp hx
                      exact ⟨Int.emod_nonneg _ (by omega), Int.emod_lt_of_pos _ hpos⟩) hrl
                    have q' := q _ (Same.trans s15 s6)
                    by_cases hnd : (restsOf zs kvs).Nodup
                    · rw [decide_eq_true (iff.mpr hnd)]
                      refine ⟨_, rfl, iteT ?_⟩
                      refine ⟨_, rfl, D2, placesOf zs kvs, rfl, SqL.of (s6 _ _ hD25), _, _, rfl, rfl, .inl ⟨by omega, by omega⟩, _, rfl, n, _, rfl, .inl (SqL.of (s6 _ _ hn5)), _, rfl, n, _, rfl, .inl (SqL.of (s6 _ _ hn5)), _, _, rfl, rfl, _, _, rfl, rfl, .inl ⟨by rw [hlen]; omega, by rw [hlen]; omega⟩, rfl, ?_⟩
                      rw [hlen]
                      have er : standB zs kvs = decide (V.int (2 * (placesOf zs kvs).sum) = V.int ((zs.length : Int) * ((zs.length : Int) - 1))) := by
                        unfold standB
                        rw [hB, decide_eq_true hnd, Bool.true_and, Bool.and_true]
                        refine decide_eq_decide.mpr ?_
                        have hs := sum_range zs.length
                        exact ⟨fun e => congrArg V.int (by rw [e]; omega), fun e => by have := V.int.inj e; omega⟩
                      rw [er] at q'
                      exact q'
                    · rw [decide_eq_false (fun e => hnd (iff.mp e))]
                      have er : standB zs kvs = false := by unfold standB; rw [decide_eq_false hnd, Bool.and_false, Bool.and_false]
                      rw [er] at q'
                      exact ⟨_, rfl, iteF q'⟩
      · have e' : (!decide (V.int (kvs.length : Nat) = V.int ((zs.map V.str).length : Nat))) = true := by
          rw [hlen, decide_eq_false (fun z => e (by have := V.int.inj z; omega))]; rfl
        rw [e']
        have q' := q H (Same.refl H)
        have er : standB zs kvs = false := by
          have e2 : dictB zs kvs = false := by unfold dictB; rw [decide_eq_false e]; rfl
          unfold standB
          rw [e2]
          rfl
        rw [er] at q'
        exact iteT q'
end
end RK

namespace RK
open PySem L2
def spNoPa : Sp := fun vs H Q _ => ∃ (n : Addr) (zs : List Str), vs = [.ref n] ∧ H n = some (.lst (zs.map V.str)) ∧
  ∀ l b c H', H l = none → H' l = some (.lst [.non, .int 5, .str "ab", .ref b, .ref c, .bl true]) → H' b = some (.lst (zs.map V.str)) → H' c = some (.dK []) → Same H H' → Q (.ref l) H'
def spNoWa : Sp := fun vs H Q _ => ∃ (n : Addr) (z : Str) (zs : List Str), vs = [.ref n] ∧ H n = some (.lst ((z :: zs).map V.str)) ∧
  ∀ l b c d H', H l = none → H' l = some (.lst [.non, .int 5, .str "nobody", .str "", .ref b, .ref c, .bl true, .ref d]) → H' b = some (.lst [.str z]) → H' c = some (.tup [.str z]) → H' d = some (.dK []) → Same H H' → Q (.ref l) H'
section
variable {P : Program} {w : World} {K : PySem.W.Frag} {mg : Str → Option Value} {base : Heap}
theorem scNoPa : FnScope ["names"] ["names"] (defScope sNoPa) := ⟨rfl, rfl, rfl, by decide +kernel, rfl, by decide +kernel, by decide +kernel⟩
theorem ok_noPa {f : Addr} {fd : FuncData} (F : Fun K "_law_w_no_paths" "_law_w_no_paths" sNoPa f fd) (B : B0 K mg) : FnOk P w K mg base CX0 1 f fd ["names"] spNoPa := by
  refine F.ok scNoPa (fun vs H Q E h => ?_) (fun cdv A outer s H vs Q E hr h => ?_)
  · obtain ⟨n, zs, rfl, _⟩ := h
    rfl
  · obtain ⟨n, zs, rfl, hn, q⟩ := h
    refine ⟨_, pss_one (ps_ret (pe_lst (pa_cons pe_non (pa_cons pe_int (pa_cons pe_str (pa_cons (pe_callTy call_list_of (by rfl) B.list (by decide +kernel) (pa_cons (pv 0) pa_nil)) (pa_cons pe_dnewK (pa_cons pe_bl pa_nil)))))))), ?_⟩
    refine ⟨_, rfl, n, _, rfl, .inl (SqL.of hn), fun b hb => fun c hc => ⟨by show 6 ≤ sizeLine; decide, fun l hl => ?_⟩⟩
    have s1 := same_upd (o := .lst (zs.map V.str)) hb
    have s2 := same_upd (o := .dK []) hc
    have s3 := same_upd (o := .lst [.non, .int 5, .str "ab", .ref b, .ref c, .bl true]) hl
    exact q l b c _ (Same.free (Same.trans s1 s2) hl) upd_same (s3 _ _ (s2 _ _ upd_same)) (s3 _ _ upd_same) (Same.trans s1 (Same.trans s2 s3))
end
end RK

/-! a comprehension over zip of three lists of one length -/
namespace L2
open PySem PySem.Spec PyProof.Rows
def Itz3 (K : PySem.W.Frag) (a b c : Addr) : It :=
  ⟨fun i H => ∃ (xs ys us : List V), SqL K H a xs ∧ SqL K H b ys ∧ SqL K H c us ∧ i < xs.length ∧ ys.length = xs.length ∧ us.length = xs.length,
    fun i H v H' => ∃ T x y u, v = .ref T ∧ H T = none ∧ H' = upd H T (.tup [x, y, u]) ∧ (∀ xs, SqL K H a xs → xs[i]? = some x) ∧ (∀ ys, SqL K H b ys → ys[i]? = some y) ∧ ∀ us, SqL K H c us → us[i]? = some u,
    fun i H => ∃ (xs ys us : List V), SqL K H a xs ∧ SqL K H b ys ∧ SqL K H c us ∧ xs.length = i ∧ ys.length = i ∧ us.length = i⟩
theorem turn_zip3 {P : Program} {w : World} {K : PySem.W.Frag} {elts : List Expr} {kk : Nat} {tpos : Pos} {a b c z TI TO i1 i2 i3 : Addr} (D : ZipSep3 z TI TO i1 i2 i3 [i1, a] [i2, b] [i3, c]) (na : a ≠ i1) (nb : b ≠ i2) (nc : c ≠ i3) :
    Turn P w K (.Tuple elts kk tpos) (Itz3 K a b c) [z, TI, TO, i1, i2, i3] z (fun i h => IsZip h z TI TO .none ∧ IsTupOf3 h TI (.ref i1) (.ref i2) (.ref i3) ∧ (∃ a1 a2 a3, IsTupOf3 h TO a1 a2 a3) ∧ h.IsListIter i1 a i ∧ h.IsListIter i2 b i ∧ h.IsListIter i3 c i) where
  mem := by simp
  obj := fun i h st e hc => by
    obtain ⟨hz, hTI, ⟨x, y, u, hTO⟩, ⟨o1, e1, _, d1⟩, ⟨o2, e2, _, d2⟩, ⟨o3, e3, _, d3⟩⟩ := st
    rcases (show e = z ∨ e = TI ∨ e = TO ∨ e = i1 ∨ e = i2 ∨ e = i3 by simpa using hc) with q | q | q | q | q | q
    · rw [q]; exact ⟨_, hz, fun v q => nomatch q⟩
    · rw [q]; exact ⟨_, hTI, fun v q => nomatch q⟩
    · rw [q]; exact ⟨_, hTO, fun v q => nomatch q⟩
    · rw [q]; exact ⟨o1, e1, fun v q => by rw [d1] at q; cases q⟩
    · rw [q]; exact ⟨o2, e2, fun v q => by rw [d2] at q; cases q⟩
    · rw [q]; exact ⟨o3, e3, fun v q => by rw [d3] at q; cases q⟩
  keep := fun i h h' st k => by
    obtain ⟨hz, hTI, ⟨x, y, u, hTO⟩, h1, h2, h3⟩ := st
    exact ⟨k z (by simp) _ hz, k TI (by simp) _ hTI, ⟨x, y, u, k TO (by simp) _ hTO⟩, h1.at fun o q => k i1 (by simp) o q, h2.at fun o q => k i2 (by simp) o q, h3.at fun o q => k i3 (by simp) o q⟩
  item := by
    intro X hP hw hK hc i pins s σ H E I hf st hg
    subst hP hw hK
    obtain ⟨hz, hTI, hTO, h1, h2, h3⟩ := st
    obtain ⟨xs, ys, us, qx, qy, qu, hi, ly, lu⟩ := hg
    obtain ⟨t1, rv1, p1, _⟩ := I.list qx
    obtain ⟨t2, rv2, p2, _⟩ := I.list qy
    obtain ⟨t3, rv3, p3, _⟩ := I.list qu
    have l1 := rv1.length
    have l2 := rv2.length
    have l3 := rv3.length
    have G := GoesN.zip3 (prog := X.prog) (w := X.w) (A := X.A) (elts := elts) (x1 := kk) (pos := tpos) D (Draws.list (A := X.A.in1) (I.ok.hd hc) i1 a na t1.toArray) (Draws.list (A := X.A.in1) (I.ok.hd hc) i2 b nb t2.toArray) (Draws.list (A := X.A.in1) (I.ok.hd hc) i3 c nc t3.toArray)
    refine G.goes i s _ E ?_ ⟨hz, hTI, hTO, ⟨h1, p1.isList⟩, ⟨h2, p2.isList⟩, ⟨h3, p3.isList⟩⟩ fun v h' tk hY hst hkeep htk => ?_
    · simp only [List.size_toArray]
      omega
    obtain ⟨T, x', y', u', rfl, hT, hx, hy, hu, o, hTo, hTc, nT, hTd⟩ := hY
    obtain ⟨hz', hTI', hTO', ⟨h1', _⟩, ⟨h2', _⟩, ⟨h3', _⟩⟩ := hst
    obtain ⟨x, ex, rx⟩ : ∃ x, xs[i]? = some x ∧ RelV x x' := by
      obtain ⟨w, hw, rw_⟩ := rv1.get (List.getElem?_eq_getElem hi)
      have : t1[i]? = some x' := by simpa using hx
      rw [this] at hw
      cases hw
      exact ⟨_, List.getElem?_eq_getElem hi, rw_⟩
    obtain ⟨y, ey, ry⟩ : ∃ y, ys[i]? = some y ∧ RelV y y' := by
      have hi2 : i < ys.length := by omega
      obtain ⟨w, hw, rw_⟩ := rv2.get (List.getElem?_eq_getElem hi2)
      have : t2[i]? = some y' := by simpa using hy
      rw [this] at hw
      cases hw
      exact ⟨_, List.getElem?_eq_getElem hi2, rw_⟩
    obtain ⟨u, eu, ru⟩ : ∃ u, us[i]? = some u ∧ RelV u u' := by
      have hi3 : i < us.length := by omega
      obtain ⟨w, hw, rw_⟩ := rv3.get (List.getElem?_eq_getElem hi3)
      have : t3[i]? = some u' := by simpa using hu
      rw [this] at hw
      cases hw
      exact ⟨_, List.getElem?_eq_getElem hi3, rw_⟩
    have new : ObjOk X.prog X.w (upd H T (.tup [x, y, u])) h' T (.tup [x, y, u]) := ⟨by show 3 ≤ sizeLine; decide, [x', y', u'], .cons rx (.cons ry (.cons ru .nil)), ⟨o, hTo, hTc, nT, hTd⟩⟩
    have I1 : Inv X pins σ (upd H T (.tup [x, y, u])) { s with heap := h', toks := tk } :=
      I.turnedNew (ch := [z, TI, TO, i1, i2, i3]) (fun e ob hb q => hkeep e ob (fun m => hb (by
        simp only [List.mem_cons, List.not_mem_nil, or_false] at m ⊢
        rcases m with m | m | m | m | m <;> simp [m])) q) hf hT new
    refine ⟨.ref T, _, I1, rfl, ⟨_, x, y, u, rfl, I.hok.fresh hT, rfl, fun l q => by rw [I.list_inj q qx]; exact ex, fun l q => by rw [I.list_inj q qy]; exact ey, fun l q => by rw [I.list_inj q qu]; exact eu⟩, ⟨hz', hTI', hTO', h1', h2', h3'⟩, fun e hb => ?_⟩
    have hb' : e < s.heap.objs.size := by
      obtain ⟨_, _, _, hTO⟩ := hTO
      rcases (show e = z ∨ e = TI ∨ e = TO ∨ e = i1 ∨ e = i2 ∨ e = i3 by simpa using hb) with q | q | q | q | q | q
      · rw [q]; exact Heap.lt_size hz
      · rw [q]; exact Heap.lt_size hTI
      · rw [q]; exact Heap.lt_size hTO
      · rw [q]; obtain ⟨_, q, _⟩ := h1; exact Heap.lt_size q
      · rw [q]; obtain ⟨_, q, _⟩ := h2; exact Heap.lt_size q
      · rw [q]; obtain ⟨_, q, _⟩ := h3; exact Heap.lt_size q
    rw [upd_ne (Nat.ne_of_lt (Nat.lt_of_lt_of_le hb' hT))]
    exact (hf e hb).1
  done := by
    intro X hP hw hK hc i pins s σ H E I hf st hg
    subst hP hw hK
    obtain ⟨hz, hTI, hTO, h1, h2, h3⟩ := st
    obtain ⟨xs, ys, us, qx, qy, qu, lx, ly, lu⟩ := hg
    obtain ⟨t1, rv1, p1, _⟩ := I.list qx
    obtain ⟨t2, rv2, p2, _⟩ := I.list qy
    obtain ⟨t3, rv3, p3, _⟩ := I.list qu
    have l1 := rv1.length
    have l2 := rv2.length
    have l3 := rv3.length
    have G := GoesN.zip3 (prog := X.prog) (w := X.w) (A := X.A) (elts := elts) (x1 := kk) (pos := tpos) D (Draws.list (A := X.A.in1) (I.ok.hd hc) i1 a na t1.toArray) (Draws.list (A := X.A.in1) (I.ok.hd hc) i2 b nb t2.toArray) (Draws.list (A := X.A.in1) (I.ok.hd hc) i3 c nc t3.toArray)
    have hn : i = min (min t1.toArray.size t2.toArray.size) t3.toArray.size := by
      simp only [List.size_toArray]
      omega
    rw [hn] at h1 h2 h3
    exact wpAny_mono (G.stops s (fun s1 => Inv X pins σ H s1) E ⟨hz, hTI, hTO, ⟨h1, p1.isList⟩, ⟨h2, p2.isList⟩, ⟨h3, p3.isList⟩⟩ fun h' tk hk htk => I.turnedL (ch := [z, TI, TO, i1, i2, i3]) (fun e o hb q => hk e o (fun m => hb (by
        simp only [List.mem_cons, List.not_mem_nil, or_false] at m ⊢
        rcases m with m | m | m | m | m <;> simp [m])) q) hf) (fun r s1 z => z) fun _ _ z => z
  self := fun A i s Q E st h => wpAny_pyIter_zip st.1 h
def iZip3 (K : PySem.W.Frag) (ta : TA) : TI := fun σ H R => ta σ H fun vs H1 => ∃ a b c xs ys us, vs = [.ref a, .ref b, .ref c] ∧ SqL K H1 a xs ∧ SqL K H1 b ys ∧ SqL K H1 c us ∧ R (Itz3 K a b c) H1
theorem pi_zip3 {X : Cx} {e e2 e3 : Expr} {ta : TA} {p pos tpos : Pos} {elts : List Expr} {kk : Nat} (hg : Gl X "zip") (hm : X.mg "zip" = none) (ha : PA X [e, e2, e3] ta)
    (hs : starEach [e, e2, e3] X.env = (false, eval e X.env) :: starEach [e2, e3] X.env := by rfl) (hpl : (backTo pos (starEach [e2, e3] X.env)).any (·.1) = false := by rfl) :
    PI X (.Tuple elts kk tpos) (.Call (.Name "zip" p) [e, e2, e3] [] pos) (iZip3 X.K ta) := by
  refine ⟨fun pins s σ H R I h => ?_⟩
  refine Call_ (ld_blt I hg hm PyProof.Rows.boot_zip (PyProof.Rows.callWith_type1 (thn (ha.run pos pins s σ H _ I h) fun us s1 ⟨vs, H1, I1, r1, q1⟩ => ?_) hs hpl))
  obtain ⟨a, b, c, xs, ys, us, rfl, qx, qy, qu, q⟩ := q1
  cases r1 with
  | cons r rr =>
    cases rr with
    | cons r' rr =>
      cases rr with
      | cons r'' rr =>
        cases rr
        cases r
        cases r'
        cases r''
        obtain ⟨t1, rv1, p1, _⟩ := I1.list qx
        obtain ⟨t2, rv2, p2, _⟩ := I1.list qy
        obtain ⟨t3, rv3, p3, _⟩ := I1.list qu
        have la := p1.lt
        have lb := p2.lt
        have lc := p3.lt
        refine zip_begins3 (begins_list a t1.toArray) (begins_list b t2.toArray) (begins_list c t3.toArray) p1.isList p2.isList p3.isList fun h' hz hTI hTO h1 h2 h3 hsz hk => wpAny_pyIter_zip hz ?_
        refine ⟨s1.heap.objs.size + 5, [s1.heap.objs.size + 5, s1.heap.objs.size + 3, s1.heap.objs.size + 4, s1.heap.objs.size, s1.heap.objs.size + 1, s1.heap.objs.size + 2], _, _, H1, rfl, I1.kept (t' := s1.toks) hk,
          turn_zip3 (zip_sep3 (N := s1.heap.objs.size) (fp1 := [a]) (fp2 := [b]) (fp3 := [c]) (fun d hd => by rw [List.mem_singleton.mp hd]; exact la) (fun d hd => by rw [List.mem_singleton.mp hd]; exact lb) (fun d hd => by rw [List.mem_singleton.mp hd]; exact lc))
            (Nat.ne_of_lt la) (Nat.ne_of_lt (Nat.lt_succ_of_lt lb)) (Nat.ne_of_lt (Nat.lt_succ_of_lt (Nat.lt_succ_of_lt lc))), ⟨hz, hTI, ⟨_, _, _, hTO⟩, ⟨_, h1, rfl, rfl⟩, ⟨_, h2, rfl, rfl⟩, ⟨_, h3, rfl, rfl⟩⟩, fun e he => ?_, q⟩
        have hle : s1.heap.objs.size ≤ e := by
          rcases (show e = s1.heap.objs.size + 5 ∨ e = s1.heap.objs.size + 3 ∨ e = s1.heap.objs.size + 4 ∨ e = s1.heap.objs.size ∨ e = s1.heap.objs.size + 1 ∨ e = s1.heap.objs.size + 2 by simpa using he) with z | z | z | z | z | z <;> rw [z]
          · exact Nat.le_add_right _ _
          · exact Nat.le_add_right _ _
          · exact Nat.le_add_right _ _
          · exact Nat.le_refl _
          · exact Nat.le_add_right _ _
          · exact Nat.le_add_right _ _
        exact I1.fpOk hle (I1.hok.fresh hle)
def YTri (xs ys us : Nat → Option V) : Nat → Hp → V → Hp → Prop := fun i H v H' => ∃ T x y u, v = .ref T ∧ H T = none ∧ H' = upd H T (.tup [x, y, u]) ∧ xs i = some x ∧ ys i = some y ∧ us i = some u
theorem walk_zip3 {K : PySem.W.Frag} {a b c : Addr} {xs ys us : List V} (hy : ys.length = xs.length) (hu : us.length = xs.length) : Walk (Itz3 K a b c) xs.length (fun H => SqL K H a xs ∧ SqL K H b ys ∧ SqL K H c us) (YTri (fun i => xs[i]?) (fun i => ys[i]?) (fun i => us[i]?)) := by
  refine ⟨fun i _ hi q => ⟨xs, ys, us, q.1, q.2.1, q.2.2, hi, hy, hu⟩, fun _ q => ⟨xs, ys, us, q.1, q.2.1, q.2.2, rfl, hy, hu⟩, fun i H v H' _ q y => ?_⟩
  obtain ⟨T, x, z, u, h1, h2, h3, h4, h5, h6⟩ := y
  exact ⟨T, x, z, u, h1, h2, h3, h4 xs q.1, h5 ys q.2.1, h6 us q.2.2⟩
end L2

namespace RK
open PySem L2
/-! ### drawn stands -/
theorem perm_ints {ys : List V} {l : List Int} (h : ys.Perm (l.map V.int)) : ∃ rs : List Int, rs.Perm l ∧ ys = rs.map V.int := by
  have un : ∀ x ∈ ys, ∃ i, x = V.int i := fun x hx => by
    obtain ⟨i, _, e⟩ := List.mem_map.mp (h.mem_iff.mp hx)
    exact ⟨i, e.symm⟩
  let f : V → Int := fun v => match v with | .int i => i | _ => 0
  refine ⟨ys.map f, ?_, ?_⟩
  · have := h.map f
    rwa [List.map_map, show (f ∘ V.int) = id from rfl, List.map_id] at this
  · rw [List.map_map]
    refine (List.map_id ys).symm.trans (List.map_congr_left fun x hx => ?_)
    obtain ⟨i, rfl⟩ := un x hx
    rfl
theorem getD_range {l : List Int} {n : Nat} (h : l.length = n) : (List.range n).map (fun i => l.getD i 0) = l := by
  refine List.ext_getElem (by rw [List.length_map, List.length_range, h]) fun i h1 h2 => ?_
  rw [List.getElem_map, List.getElem_range, List.getD_eq_getElem?_getD, List.getElem?_eq_getElem h2]
  rfl
theorem idx_map {zs : List Str} (nd : zs.Nodup) (f : Nat → Int) : zs.map (fun z => f (zs.idxOf z)) = (List.range zs.length).map f := by
  refine List.ext_getElem (by rw [List.length_map, List.length_map, List.length_range]) fun i h1 h2 => ?_
  rw [List.getElem_map, List.getElem_map, List.getElem_range]
  rw [List.length_map] at h1
  rw [nd.idxOf_getElem i h1]
theorem sum_lin (f h : Nat → Int) (c : Int) : ∀ l : List Nat, (l.map fun i => f i + c * h i).sum = (l.map f).sum + c * (l.map h).sum
  | [] => by simp
  | x :: r => by
    rw [List.map_cons, List.map_cons, List.map_cons, List.sum_cons, List.sum_cons, List.sum_cons, sum_lin f h c r, Int.mul_add]
    omega
theorem perm_sum {l m : List Int} (h : l.Perm m) : l.sum = m.sum := by
  induction h with
  | nil => rfl
  | cons x _ ih => rw [List.sum_cons, List.sum_cons, ih]
  | swap x y l => rw [List.sum_cons, List.sum_cons, List.sum_cons, List.sum_cons]; omega
  | trans _ _ h1 h2 => exact h1.trans h2
def lapG (zs : List Str) (rs ls : List Int) (z : Str) : Int := rs.getD (zs.idxOf z) 0 + (zs.length : Int) * ls.getD (zs.idxOf z) 0
theorem lap_sta {zs : List Str} {rs ls : List Int} (nd : zs.Nodup) (h2 : 2 ≤ zs.length) (hr : rs.Perm ((List.range zs.length).map fun i => ((i : Nat) : Int))) (hl : ls.length = zs.length) (h0 : ls.sum = 0) : Sta zs zs (kvOf zs (lapG zs rs ls)) := by
  have lr : rs.length = zs.length := by rw [hr.length_eq, List.length_map, List.length_range]
  refine Sta.mk' (List.Perm.refl _) ?_ ?_
  · have e : zs.map (lapG zs rs ls) = _ := idx_map nd (fun i => rs.getD i 0 + (zs.length : Int) * ls.getD i 0)
    rw [e, sum_lin (fun i => rs.getD i 0) (fun i => ls.getD i 0), getD_range lr, getD_range hl, h0, Int.mul_zero, Int.add_zero, ← half_sum]
    exact perm_sum hr
  · have e : (zs.map fun u => lapG zs rs ls u % (zs.length : Int)) = (List.range zs.length).map fun i => (rs.getD i 0 + (zs.length : Int) * ls.getD i 0) % (zs.length : Int) := idx_map nd (fun i => (rs.getD i 0 + (zs.length : Int) * ls.getD i 0) % (zs.length : Int))
    rw [e]
    have e2 : ((List.range zs.length).map fun i => (rs.getD i 0 + (zs.length : Int) * ls.getD i 0) % (zs.length : Int)) = rs := by
      refine Eq.trans (List.map_congr_left fun i hi => ?_) (getD_range lr)
      have hi' := List.mem_range.mp hi
      have hm : rs.getD i 0 ∈ rs := by
        rw [List.getD_eq_getElem?_getD, List.getElem?_eq_getElem (by omega)]
        exact List.getElem_mem _
      obtain ⟨j, hj, ej⟩ := List.mem_map.mp (hr.mem_iff.mp hm)
      have hj' := List.mem_range.mp hj
      rw [Int.add_mul_emod_self_left]
      exact Int.emod_eq_of_lt (by omega) (by omega)
    rw [e2]
    refine (hr.nodup_iff).mpr ?_
    refine List.Pairwise.map _ (fun a b h => ?_) List.nodup_range
    intro q
    exact h (by omega)
theorem sum_le {N : Nat} : ∀ {ls : List Int}, (∀ x ∈ ls, x.natAbs ≤ N) → ls.sum.natAbs ≤ ls.length * N
  | [], _ => by simp
  | x :: r, h => by
    have ih := sum_le (ls := r) fun y hy => h y (List.mem_cons_of_mem _ hy)
    have := h x List.mem_cons_self
    rw [List.sum_cons, List.length_cons, Nat.add_mul]
    omega
theorem laps_le {N : Nat} {ls : List Int} (h : ∀ x ∈ ls, x.natAbs ≤ N) (hl : ls.length ≤ 100) : ∀ x ∈ ls ++ [0 - ls.sum], x.natAbs ≤ 100 * N := fun x hx => by
  rcases List.mem_append.mp hx with q | q
  · have := h x q
    omega
  · rw [List.mem_singleton.mp q]
    have h1 := sum_le h
    have h2 := Nat.mul_le_mul_right N hl
    omega
theorem lap_le {zs : List Str} {rs ls : List Int} {N : Nat} (hr : rs.Perm ((List.range zs.length).map fun i => ((i : Nat) : Int))) (hl : zs.length ≤ 100) (h : ∀ x ∈ ls, x.natAbs ≤ 100 * N) (hN : N < 10000000000000000) (z : Str) : (lapG zs rs ls z).natAbs < 2 ^ 100 := by
  have h1 : (rs.getD (zs.idxOf z) 0).natAbs ≤ 100 := by
    rw [List.getD_eq_getElem?_getD]
    cases e : rs[zs.idxOf z]? with
    | none => simp
    | some x =>
      have hm := hr.mem_iff.mp (List.mem_of_getElem? e)
      obtain ⟨i, hi, rfl⟩ := List.mem_map.mp hm
      have := List.mem_range.mp hi
      show ((i : Nat) : Int).natAbs ≤ 100
      omega
  have h2 : (ls.getD (zs.idxOf z) 0).natAbs ≤ 100 * N := by
    rw [List.getD_eq_getElem?_getD]
    cases e : ls[zs.idxOf z]? with
    | none => simp
    | some x => exact h x (List.mem_of_getElem? e)
  have h3 : ((zs.length : Int) * ls.getD (zs.idxOf z) 0).natAbs ≤ 100 * (100 * N) := by
    rw [Int.natAbs_mul, Int.natAbs_natCast]
    exact Nat.mul_le_mul hl h2
  unfold lapG
  have h4 : (2 : Nat) ^ 100 = 1267650600228229401496703205376 := by decide
  rw [h4]
  omega
def spWStand : Sp := fun vs H Q _ => ∃ (a n : Addr) (zs : List Str) (N m : Nat), vs = [.ref a, .ref n, .int (N : Nat)] ∧ a ≠ n ∧ SpAt H a m ∧ m < 1000000000 ∧ H n = some (.lst (zs.map V.str)) ∧ zs.Nodup ∧ 2 ≤ zs.length ∧ zs.length ≤ 100 ∧ N < 10000000000000000 ∧
  ∀ e kvs H', H' e = some (.dK kvs) → Sta zs zs kvs → (∀ z ∈ zs, (placeOf kvs z).natAbs < 2 ^ 100) → e ≠ a → SpAt H' a (m + 1000) → But a H H' → Q (.ref e) H'
section
variable {P : Program} {w : World} {K : PySem.W.Frag} {mg : Str → Option Value} {base : Heap}
theorem scWStand : FnScope ["spring", "names", "size", "rests", "many", "laps", "name", "rest", "lap"] ["spring", "names", "size"] (defScope sWStand) := ⟨rfl, rfl, rfl, by decide +kernel, rfl, by decide +kernel, by decide +kernel⟩
theorem ok_wstand {f fM fD : Addr} {fd fdM fdD : FuncData} (F : Fun K "_law_w_stand" "_law_w_stand" sWStand f fd) (B : B0 K mg) (zsum : mg "sum" = none)
    (GM : FnOk P w K mg base CX0 2 fM fdM ["spring", "some"] spMixed) (bM : Binds K fdM ["spring", "some"] []) (gM : mg "_law_mixed" = some (.ref fM)) (kM : PySem.W.keepIn K (.ref fM) = true)
    (GD : FnOk P w K mg base CX0 1 fD fdD ["spring", "many"] spDraw) (bD : Binds K fdD ["spring", "many"] []) (gD : mg "_law_draw" = some (.ref fD)) (kD : PySem.W.keepIn K (.ref fD) = true) :
    FnOk P w K mg base CX0 3 f fd ["spring", "names", "size"] spWStand := by
  refine F.ok scWStand (fun vs H Q E h => ?_) (fun cdv A outer s H vs Q E hr h => ?_)
  · obtain ⟨a, n, zs, N, m, rfl, _⟩ := h
    rfl
  · obtain ⟨a, n, zs, N, m, rfl, han, hsp, hm, hn, hnd, h2, hl, hN, q⟩ := h
    have hr1 : Room 1 _ := hr.mono (by decide)
    refine ⟨_, pss_cons (ps_asg (pe_tup (pa_cons (pe_call GM hr (by rfl) gM kM bM .nil pass0 (pa_cons (pv 0) (pa_cons (pe_listRg rfl (by rfl) B.list (prg_1 (by rfl) B.range (pe_callB call_len_seq (by rfl) B.len PySem.boot_len (pa_cons (pv 1) pa_nil)))) pa_nil))) (pa_cons (pe_callB call_len_seq (by rfl) B.len PySem.boot_len (pa_cons (pv 1) pa_nil)) pa_nil))) (pg_tup rfl (pgs_cons (pg_name (i := 3) scWStand.nd rfl (Or.inl rfl)) (pgs_cons (pg_name (i := 4) scWStand.nd rfl (Or.inr rfl)) pgs_nil))))
      (pss_cons (ps_setLc (i := 5) (te := tOp (rI0 fun i j => .int (i - j)) (tCall spDraw [] E0 (tCons (tVar 0) (tCons (tOp (rI0 fun i j => .int (i + j)) (tOp (rI CMul fun i j => .int (i * j)) (L2.tC (.int 2)) (tVar 2)) (L2.tC (.int 1))) tNil))) (tVar 2)) (own := [("name", 6)]) (g := gName 6) (tt := tYes) rfl scWStand.nd rfl rfl (by rfl) (pi_list (pe_slice sl_list (pv 1) (po_some pe_int) po_none)) (blkOk_by (N := ["spring", "names", "size", "rests", "many", "laps", "name", "rest", "lap"]) (sc := defScope sWStand) (by decide +kernel))
        (fun _ _ _ _ _ => pg_name (i := 6) scWStand.nd rfl (Or.inl rfl)) (fun _ _ _ _ _ => pts_nil)
        (fun _ _ _ _ _ => by exact (pe_op op_sub (pe_call GD hr1 (by rfl) gD kD bD .nil pass0 (pa_cons (pv 0) (pa_cons (pe_op op_add (pe_op op_mul pe_int (pv 2)) pe_int) pa_nil))) (pv 2))))
      (pss_cons (ps_expr (pe_bm PySem.F.plainAttrs_list PySem.F.slot_list_append PySem.F.type_list_append mt_append (pv 5) (pa_cons (pe_op op_sub pe_int (pe_callB (cr_sum rfl) (by rfl) zsum (by decide +kernel) (pa_cons (pv 5) pa_nil))) pa_nil)))
      (pss_one (ps_ret (pe_callTy (call_dictP rfl) (by rfl) B.dict (by decide +kernel) (pa_cons (pe_lc (te := tTup (tCons (tVar 6) (tCons (tOp (rI0 fun i j => .int (i + j)) (tVar 7) (tOp (rI CMul fun i j => .int (i * j)) (tVar 4) (tVar 8))) tNil))) (own := [("name", 6), ("rest", 7), ("lap", 8)]) (g := gTup K 3 (gCons (gName 6) (gCons (gName 7) (gCons (gName 8) gNil)))) (tt := tYes) rfl scWStand.nd
        (pi_zip3 (by rfl) B.zip (pa_cons (pv 1) (pa_cons (pv 3) (pa_cons (pv 5) pa_nil)))) (blkOk_by (N := ["spring", "names", "size", "rests", "many", "laps", "name", "rest", "lap"]) (sc := defScope sWStand) (by decide +kernel))
        (fun _ _ _ _ _ => by exact (pg_tup rfl (pgs_cons (pg_name (i := 6) scWStand.nd rfl (Or.inl rfl)) (pgs_cons (pg_name (i := 7) scWStand.nd rfl (Or.inl rfl)) (pgs_cons (pg_name (i := 8) scWStand.nd rfl (Or.inl rfl)) pgs_nil))))) (fun _ _ _ _ _ => pts_nil)
        (fun _ _ _ _ _ => by exact (pe_tup (pa_cons (pv 6) (pa_cons (pe_op op_add (pv 7) (pe_op op_mul (pv 4) (pv 8))) pa_nil))))) pa_nil)))))), ?_⟩
    obtain ⟨osp, hosp, _⟩ := id hsp
    have hlen : (zs.map V.str).length = zs.length := List.length_map _
    refine ⟨_, rfl, _, rfl, n, _, rfl, .inl (SqL.of hn), _, rfl, ?_⟩
    rw [hlen]
    refine ⟨RgOk.of_le (by omega) (by omega) (by omega) (by omega), fun R hR => ?_⟩
    have erg : rgV 0 (zs.length : Nat) = ((List.range zs.length).map fun i => ((i : Nat) : Int)).map V.int := by
      unfold rgV
      rw [Int.sub_zero, Int.toNat_natCast, List.map_map]
      exact List.map_congr_left fun i _ => by rw [Int.zero_add]; rfl
    rw [erg]
    have s1 := same_upd (o := .lst (((List.range zs.length).map fun i => ((i : Nat) : Int)).map V.int)) hR
    have rl : (((List.range zs.length).map fun i => ((i : Nat) : Int)).map V.int).length = zs.length := by rw [List.length_map, List.length_map, List.length_range]
    refine ⟨a, R, _, m, rfl, ne_of_none hosp hR, hsp.same s1, by omega, upd_same, by omega, fun p ys H2 hperm hp0 hp1 hsp2 b2 => ?_⟩
    rw [rl] at hsp2
    obtain ⟨rs, hrs, rfl⟩ := perm_ints hperm
    have lr : rs.length = zs.length := by rw [hrs.length_eq, List.length_map, List.length_range]
    have bH : But a H H2 := (Same.but s1).trans b2
    have hn2 := bH _ _ (Ne.symm han) hn
    refine ⟨_, rfl, n, _, rfl, .inl (SqL.of hn2), by show 2 ≤ sizeLine; decide, fun T hT => ?_⟩
    have s3 := same_upd (o := .tup [.ref p, .int ((zs.map V.str).length : Nat)]) hT
    rw [hlen] at s3 ⊢
    have hp3 := s3 _ _ hp1
    have hn3 := s3 _ _ hn2
    have hsp3 := hsp2.same s3
    have bH3 : But a H _ := bH.trans (Same.but s3)
    refine ⟨T, _, rfl, SqT.of upd_same, rfl, _, _, rfl, _, _, rfl, rfl, ?_⟩
    generalize upd H2 T (.tup [.ref p, .int (zs.length : Nat)]) = H3 at s3 hp3 hn3 hsp3 bH3
    have hap : p ≠ a := fun e => by
      obtain ⟨o, ho, _⟩ := hsp.same s1
      rw [e] at hp0
      rw [ho] at hp0
      cases hp0
    have h3a : ∃ oa, H3 a = some oa ∧ SpOk (m + zs.length) oa := hsp3
    have hpn : p ≠ n := fun e => by
      rw [e] at hp0
      rw [s1 _ _ hn] at hp0
      cases hp0
    -- laps
    have hcut : cutV (zs.map V.str) (some 1) none = (zs.map V.str).drop 1 := by
      unfold cutV
      rw [show (1 : Int) = ((1 : Nat) : Int) from rfl, HT.sIx_nat, HT.sIx_none]
      rw [hlen, Nat.min_eq_left (by omega)]
      exact List.take_of_length_le (by rw [List.length_drop, hlen]; exact Nat.le_refl _)
    refine ⟨_, rfl, _, rfl, n, _, rfl, SqL.of hn3, fun C hC => ?_⟩
    rw [hcut]
    have s4 := same_upd (o := .lst ((zs.map V.str).drop 1)) hC
    have hC4 : (upd H3 C (.lst ((zs.map V.str).drop 1))) C = some (.lst ((zs.map V.str).drop 1)) := upd_same
    have hsp4 := hsp3.same s4
    generalize upd H3 C (.lst ((zs.map V.str).drop 1)) = H4 at s4 hC4 hsp4
    have hCa : C ≠ a := fun e => by
      obtain ⟨o, ho, _⟩ := hsp3
      rw [e, ho] at hC
      cases hC
    have hdl : ((zs.map V.str).drop 1).length = zs.length - 1 := by rw [List.length_drop, hlen]
    refine ⟨C, rfl, ⟨_, SqL.of hC4⟩, fun D hD => ?_⟩
    have hDa : D ≠ a := fun e => by
      obtain ⟨o, ho, _⟩ := hsp4
      rw [e, ho] at hD
      cases hD
    refine lc_it (walk_list (K := K) (a := C) (xs := (zs.map V.str).drop 1)) (fun i G => ∃ ls : List Int, ls.length = i ∧ (∀ x ∈ ls, x.natAbs ≤ N) ∧ G D = some (.lst (ls.map V.int)) ∧ SpAt G a (m + zs.length + i) ∧ But a H4 G)
      ⟨[], rfl, (fun _ z => nomatch z), upd_same, hsp4.same (same_upd hD), Same.but (same_upd hD)⟩ (fun i G _ ⟨_, _, _, _, _, b⟩ => SqL.of (b _ _ hCa hC4)) ?_ ?_
    · rintro i x G G' hi ⟨ls, hls, hlb, hacc, hspG, bG⟩ ⟨rfl, hx⟩
      rw [hdl] at hi
      refine ⟨rfl, tyes ?_⟩
      refine ⟨_, rfl, _, rfl, _, _, rfl, rfl, .inl ⟨by decide, by decide⟩, _, _, rfl, rfl, a, _, _, rfl, by omega, by omega, hspG, by omega, fun r o hr0 hr1 ho => ?_⟩
      refine ⟨_, rfl, _, _, rfl, rfl, ls.map V.int, by rw [upd_ne hDa]; exact hacc, ?_, ls ++ [r - (N : Int)], by rw [List.length_append, hls]; rfl, (fun x hx => (List.mem_append.mp hx).elim (hlb x) fun q => by rw [List.mem_singleton.mp q]; omega), by rw [upd_same, List.map_append]; rfl, ⟨o, by rw [upd_ne (Ne.symm hDa), upd_same], ho⟩, fun b u hb hu => ?_⟩
      · rw [List.length_map, hls]
        exact Nat.lt_of_lt_of_le hi (Nat.le_trans (show zs.length - 1 ≤ 100 by omega) (by decide))
      · rw [upd_ne (ne_of_none hu hD), upd_ne hb]
        exact bG _ _ hb hu
    · rintro G ⟨ls, hls, hlb, hacc, hspG, bG⟩
      rw [hdl] at hls
      have hnG : G n = some (.lst (zs.map V.str)) := bG _ _ (Ne.symm han) (s4 _ _ hn3)
      have hpG : G p = some (.lst (rs.map V.int)) := bG _ _ hap (s4 _ _ hp3)
      have hDn : n ≠ D := ne_of_none (s4 _ _ hn3) hD
      have hDp : p ≠ D := ne_of_none (s4 _ _ hp3) hD
      -- laps.append(0 - sum(laps))
      refine ⟨_, rfl, .inl ⟨rfl, _, SqL.of hacc⟩, _, rfl, D, ls, rfl, SqL.of hacc, _, _, rfl, rfl, D, _, _, rfl, rfl, hacc, ?_, ?_⟩
      · rw [List.length_map, hls]
        exact Nat.lt_of_le_of_lt (show zs.length - 1 ≤ 100 by omega) (by decide)
      have e5 : (upd G D (.lst (ls.map V.int ++ [V.int (0 - ls.sum)]))) D = some (.lst ((ls ++ [0 - ls.sum]).map V.int)) := by rw [upd_same, List.map_append]; rfl
      have hn5 : (upd G D (.lst (ls.map V.int ++ [V.int (0 - ls.sum)]))) n = some (.lst (zs.map V.str)) := by rw [upd_ne hDn]; exact hnG
      have hp5 : (upd G D (.lst (ls.map V.int ++ [V.int (0 - ls.sum)]))) p = some (.lst (rs.map V.int)) := by rw [upd_ne hDp]; exact hpG
      have hsp5 : SpAt (upd G D (.lst (ls.map V.int ++ [V.int (0 - ls.sum)]))) a (m + 200) := by
        obtain ⟨o, ho, hok⟩ := hspG
        exact ⟨o, by rw [upd_ne (Ne.symm hDa)]; exact ho, hok.mono (by omega)⟩
      have b5 : But a H (upd G D (.lst (ls.map V.int ++ [V.int (0 - ls.sum)]))) := fun b u hb hu => by
        have q1 := s4 _ _ (bH3 _ _ hb hu)
        rw [upd_ne (ne_of_none q1 hD)]
        exact bG _ _ hb q1
      generalize upd G D (.lst (ls.map V.int ++ [V.int (0 - ls.sum)])) = H5 at e5 hn5 hp5 hsp5 b5
      have lll : (ls ++ [0 - ls.sum]).length = zs.length := by rw [List.length_append, hls]; simp only [List.length_cons, List.length_nil]; omega
      have hsum : (ls ++ [0 - ls.sum]).sum = 0 := by rw [List.sum_append, List.sum_cons, List.sum_nil]; omega
      have hlb2 := laps_le hlb (show ls.length ≤ 100 by omega)
      generalize ls ++ [0 - ls.sum] = laps at e5 lll hsum hlb2
      refine ⟨_, rfl, _, rfl, _, rfl, n, p, D, _, _, _, rfl, SqL.of hn5, SqL.of hp5, SqL.of e5, fun D2 hD2 => ?_⟩
      have h0D : ∀ {b : Addr} {u : HO}, H5 b = some u → b ≠ D2 := fun e => ne_of_none e hD2
      refine lc_it (walk_zip3 (K := K) (a := n) (b := p) (c := D) (xs := zs.map V.str) (ys := rs.map V.int) (us := laps.map V.int) (by rw [List.length_map, List.length_map, lr]) (by rw [List.length_map, List.length_map, lll])) (fun i H' => Same H5 H' ∧ ∃ ts : List Addr, H' D2 = some (.lst (ts.map V.ref)) ∧ Paired (fun (t : Addr) (kv : Key × V) => t ≠ D2 ∧ H' t = some (.tup [kV kv.1, kv.2])) ts (kvOf (zs.take i) (lapG zs rs laps))) ⟨same_upd hD2, [], upd_same, .nil⟩ (fun i H' _ p => ⟨SqL.of (p.1 _ _ hn5), SqL.of (p.1 _ _ hp5), SqL.of (p.1 _ _ e5)⟩) ?_ ?_
      · rintro i x G1 G2 hi ⟨sm, ts, hacc1, hpr⟩ ⟨T, x1, y, u, rfl, hT, rfl, hx1, hy, hu⟩
        replace hx1 : (zs.map V.str)[i]? = some x1 := hx1
        replace hy : (rs.map V.int)[i]? = some y := hy
        replace hu : (laps.map V.int)[i]? = some u := hu
        rw [hlen] at hi
        have hz : zs[i]? = some zs[i] := List.getElem?_eq_getElem hi
        rw [List.getElem?_map, hz] at hx1
        cases hx1
        rw [List.getElem?_map, List.getElem?_eq_getElem (by omega)] at hy
        cases hy
        rw [List.getElem?_map, List.getElem?_eq_getElem (by omega)] at hu
        cases hu
        have sT := same_upd (o := .tup [V.str zs[i], .int rs[i], .int laps[i]]) hT
        have hli : (zs.take i).length = i := by rw [List.length_take]; omega
        have htl : ts.length = i := by
          rw [Paired.length hpr]
          unfold kvOf
          rw [List.length_map, hli]
        refine ⟨T, _, rfl, SqT.of upd_same, rfl, _, _, rfl, _, _, rfl, _, _, rfl, rfl, rfl, tyes ?_⟩
        refine ⟨_, rfl, _, rfl, _, rfl, _, rfl, _, _, rfl, rfl, .inl ⟨by omega, by omega⟩, _, _, rfl, rfl, by show 2 ≤ sizeLine; decide, fun U hU => ?_⟩
        have eg : lapG zs rs laps zs[i] = rs[i] + (zs.length : Int) * laps[i] := by
          unfold lapG
          rw [hnd.idxOf_getElem i hi, List.getD_eq_getElem?_getD, List.getD_eq_getElem?_getD, List.getElem?_eq_getElem (show i < rs.length by omega), List.getElem?_eq_getElem (show i < laps.length by omega)]
          rfl
        have sU := same_upd (o := .tup [V.str zs[i], .int (rs[i] + (zs.length : Int) * laps[i])]) hU
        have hacc2 := sU _ _ (sT _ _ hacc1)
        refine ⟨_, hacc2, ?_, fun b u hb => ?_, ts ++ [U], ?_, ?_⟩
        · rw [List.length_map, htl]
          exact Nat.lt_of_lt_of_le hi (Nat.le_trans hl (by decide))
        · rw [upd_ne (h0D hb)]
          exact sU _ _ (sT _ _ (sm _ _ hb))
        · rw [upd_same, List.map_append]
          rfl
        · rw [take_more hz]
          have ek : kvOf (zs.take i ++ [zs[i]]) (lapG zs rs laps) = kvOf (zs.take i) (lapG zs rs laps) ++ [((Sum.inr zs[i] : Key), V.int (rs[i] + (zs.length : Int) * laps[i]))] := by
            unfold kvOf
            rw [List.map_append, List.map_singleton, eg]
          rw [ek]
          exact Paired.snoc (Paired.mono (fun t kv h => ⟨h.1, by rw [upd_ne h.1]; exact sU _ _ (sT _ _ h.2)⟩) hpr) ⟨Ne.symm (ne_of_none (sT _ _ hacc1) hU), by rw [upd_ne (Ne.symm (ne_of_none (sT _ _ hacc1) hU)), upd_same]; rfl⟩
      · rintro G1 ⟨sm, ts, hacc1, hpr⟩
        rw [hlen, List.take_length] at hpr
        refine ⟨D2, ts, _, rfl, SqL.of hacc1, Paired.mono (fun t kv h => SqT.of h.2) hpr, fun e he => ?_⟩
        rw [merge_self (by rw [keys_kv]; exact nodup_keys hnd)]
        have s6 := same_upd (o := .dK (kvOf zs (lapG zs rs laps))) he
        have sAll : Same H5 _ := Same.trans sm s6
        refine q e _ _ upd_same (lap_sta hnd h2 hrs lll hsum) (fun z hz => by rw [place_kv hz]; exact lap_le hrs hl hlb2 hN z) (fun z => ?_) ?_ (b5.trans (Same.but sAll))
        · obtain ⟨o, ho, _⟩ := hsp5
          have := sm _ _ ho
          rw [← z, he] at this
          cases this
        · obtain ⟨o, ho, hok⟩ := hsp5
          exact ⟨o, sAll _ _ ho, hok.mono (by omega)⟩
end
end RK

namespace RK
open PySem L2
/-! ### things that are no stands -/
/-- a value of one of these dicts -/
inductive Val1 (H : Hp) : V → Prop where
  | non : Val1 H .non
  | int (i : Int) : Val1 H (.int i)
  | bl (b : Bool) : Val1 H (.bl b)
  | str {z : Str} (h : z.length ≤ 1000) : Val1 H (.str z)
  | lst {a : Addr} {i : Int} (e : H a = some (.lst [.int i])) : Val1 H (.ref a)
  | tup {a : Addr} {i : Int} (e : H a = some (.tup [.int i])) : Val1 H (.ref a)
theorem Val1.mono {H H' : Hp} {v : V} (h : Val1 H v) (s : ∀ b o, (∀ kvs, o ≠ .dK kvs) → H b = some o → H' b = some o) : Val1 H' v := by
  cases h with
  | non => exact .non
  | int i => exact .int i
  | bl b => exact .bl b
  | str h => exact .str h
  | lst e => exact .lst (s _ _ (fun _ z => nomatch z) e)
  | tup e => exact .tup (s _ _ (fun _ z => nomatch z) e)
theorem Val1.th {K : PySem.W.Frag} {H : Hp} {v : V} (h : Val1 H v) : ∃ k, Th K H v k := by
  cases h with
  | non => exact ⟨_, .non⟩
  | int i => exact ⟨_, .int i⟩
  | bl b => exact ⟨_, .bl b⟩
  | str h => exact ⟨_, .str h⟩
  | lst e => exact ⟨_, .lst e⟩
  | tup e => exact ⟨_, .tup e⟩
theorem Val1.same {H : Hp} {v : V} (h : Val1 H v) : SameD H 1 v v := by
  have one : ∀ {i : Int} (j : Nat) (x y : V), [V.int i][j]? = some x → [V.int i][j]? = some y → SameD H 0 x y := fun {i} j x y e1 e2 => by
    match j, e1, e2 with
    | 0, e1, e2 => cases e1; cases e2; exact .int i
  cases h with
  | non => exact .non
  | int i => exact .int i
  | bl b => exact .bl b
  | str h => exact .str h
  | lst e => exact .lst e e rfl (by show 1 ≤ 1000; decide) one
  | tup e => exact .tup e e rfl (by show 1 ≤ 1000; decide) one
/-- a plain thing, or a new dict of texts -/
def OddP (K : PySem.W.Frag) (H0 H : Hp) (b : Nat) (v : V) : Prop :=
  (∃ k, Th K H v k ∧ k.isDict = false ∧ SameD H 2 v v) ∨ ∃ d kvs, v = .ref d ∧ H0 d = none ∧ H d = some (.dK kvs) ∧ kvs.length ≤ b ∧ ∀ kv ∈ kvs, keyOk kv.1 ∧ Val1 H kv.2
theorem OddP.mono {K : PySem.W.Frag} {H0 H H' : Hp} {b : Nat} {v : V} (h : OddP K H0 H b v) (s : Same H H') : OddP K H0 H' b v := by
  rcases h with ⟨k, h1, h2, h3⟩ | ⟨d, kvs, e, h1, h2, h3, h4⟩
  · exact .inl ⟨k, h1.same s, h2, h3.mono s⟩
  · exact .inr ⟨d, kvs, e, h1, s _ _ h2, h3, fun kv hkv => ⟨(h4 kv hkv).1, (h4 kv hkv).2.mono fun b o _ e => s _ _ e⟩⟩
theorem put_all {Pk : Key → Prop} {Pv : V → Prop} {kvs : List (Key × V)} {k : Key} {v : V} (h : ∀ kv ∈ kvs, Pk kv.1 ∧ Pv kv.2) (hk : Pk k) (hv : Pv v) : (∀ kv ∈ putK kvs k v, Pk kv.1 ∧ Pv kv.2) ∧ (putK kvs k v).length ≤ kvs.length + 1 := by
  unfold putK
  split
  · refine ⟨fun kv hkv => ?_, by rw [List.length_map]; omega⟩
    obtain ⟨kv', hm, rfl⟩ := List.mem_map.mp hkv
    split
    · exact ⟨(h kv' hm).1, hv⟩
    · exact h kv' hm
  · refine ⟨fun kv hkv => ?_, by rw [List.length_append]; exact Nat.le_refl _⟩
    rcases List.mem_append.mp hkv with hm | hm
    · exact h kv hm
    · rw [List.mem_singleton.mp hm]; exact ⟨hk, hv⟩
theorem merge_all {Pk : Key → Prop} {Pv : V → Prop} : ∀ {more kvs : List (Key × V)}, (∀ kv ∈ kvs, Pk kv.1 ∧ Pv kv.2) → (∀ kv ∈ more, Pk kv.1 ∧ Pv kv.2) → (∀ kv ∈ mergeK kvs more, Pk kv.1 ∧ Pv kv.2) ∧ (mergeK kvs more).length ≤ kvs.length + more.length
  | [], kvs, h, _ => ⟨h, Nat.le_refl _⟩
  | x :: r, kvs, h, hm => by
    have p := put_all h (hm x List.mem_cons_self).1 (hm x List.mem_cons_self).2
    have q := merge_all (more := r) p.1 fun kv hkv => hm kv (List.mem_cons_of_mem _ hkv)
    exact ⟨q.1, Nat.le_trans q.2 (by rw [List.length_cons]; omega)⟩
theorem odd_dict {K : PySem.W.Frag} {H0 H : Hp} {b : Nat} {d : Addr} {kvs : List (Key × V)} (h0 : H0 d = none) (hd : H d = some (.dK (mergeK [] kvs))) (hl : kvs.length ≤ b) (h : ∀ kv ∈ kvs, keyOk kv.1 ∧ Val1 H kv.2) : OddP K H0 H b (.ref d) := by
  have q := merge_all (Pk := keyOk) (Pv := Val1 H) (kvs := []) (fun _ z => nomatch z) h
  exact .inr ⟨d, _, rfl, h0, hd, Nat.le_trans q.2 (by rw [List.length_nil]; omega), q.1⟩
/-- a list of pairs that stand for keys and values -/
def LP (H : Hp) (C : Addr) (ts : List Addr) (kvs : List (Key × V)) : Prop := H C = some (.lst (ts.map V.ref)) ∧ Paired (fun (t : Addr) (kv : Key × V) => H t = some (.tup [kV kv.1, kv.2])) ts kvs
theorem LP.mono {H H' : Hp} {C : Addr} {ts : List Addr} {kvs : List (Key × V)} (h : LP H C ts kvs) (s : Same H H') : LP H' C ts kvs := ⟨s _ _ h.1, Paired.mono (fun _ _ e => s _ _ e) h.2⟩
theorem paired_app {α β : Type} {F : α → β → Prop} : ∀ {l₁ m₁ : List α} {l₂ m₂ : List β}, Paired F l₁ l₂ → Paired F m₁ m₂ → Paired F (l₁ ++ m₁) (l₂ ++ m₂)
  | _, _, _, _, .nil, h => h
  | _, _, _, _, .cons r t, h => .cons r (paired_app t h)
/-- the heap without one address -/
def no (H : Hp) (l : Addr) : Hp := fun b => if b = l then none else H b
theorem no_ne {H : Hp} {l b : Addr} (h : b ≠ l) : no H l b = H b := if_neg h
theorem no_same {H : Hp} {l : Addr} : Same (no H l) H := fun b o e => by
  by_cases h : b = l
  · rw [h] at e
    exact absurd ((if_pos rfl : no H l l = none).symm.trans e) (fun z => nomatch z)
  · rw [no_ne h] at e; exact e
theorem no_but {H H' : Hp} {l : Addr} (b : But l H H') : Same (no H l) (no H' l) := fun c o e => by
  by_cases h : c = l
  · rw [h] at e
    exact absurd ((if_pos rfl : no H l l = none).symm.trans e) (fun z => nomatch z)
  · rw [no_ne h] at e ⊢; exact b _ _ h e
/-- one more thing in the list at l -/
theorem one_more {K : PySem.W.Frag} {H0 G G' : Hp} {l : Addr} {vs : List V} {v : V} {b : Nat} (h : ∀ u ∈ vs, OddP K H0 (no G l) b u) (hb : But l G G') (hv : OddP K H0 (no G' l) b v) :
    ∀ u ∈ vs ++ [v], OddP K H0 (no (upd G' l (.lst (vs ++ [v]))) l) b u := fun u hu => by
  have e : Same (no G' l) (no (upd G' l (.lst (vs ++ [v]))) l) := no_but But.upd
  rcases List.mem_append.mp hu with m | m
  · exact ((h u m).mono (no_but hb)).mono e
  · rw [List.mem_singleton.mp m]; exact hv.mono e
theorem new_dict {K : PySem.W.Frag} {H0 G : Hp} {l d : Addr} {kvs : List (Key × V)} {b : Nat} (h0 : H0 d = none) (hd : G d = none) (hl : G l ≠ none) (hb : kvs.length ≤ b) (h : ∀ kv ∈ kvs, keyOk kv.1 ∧ Val1 (no G l) kv.2) :
    OddP K H0 (no (upd G d (.dK (mergeK [] kvs))) l) b (.ref d) := by
  have hdl : d ≠ l := fun z => hl (by rw [← z]; exact hd)
  refine odd_dict h0 (by rw [no_ne hdl, upd_same]) hb fun kv hkv => ⟨(h kv hkv).1, (h kv hkv).2.mono fun c o _ e => no_but (Same.but (same_upd hd)) c o e⟩
def spNoSt (K : PySem.W.Frag) : Sp := fun vs H Q _ => ∃ (a n d : Addr) (zs ks : List Str) (kvs : List (Key × V)) (m : Nat), vs = [.ref a, .ref n, .ref d] ∧ a ≠ n ∧ a ≠ d ∧ SpAt H a m ∧ m < 1000000000 ∧ H n = some (.lst (zs.map V.str)) ∧ H d = some (.dK kvs) ∧ Sta zs ks kvs ∧ zs.Nodup ∧ (∀ z ∈ zs, z.length ≤ 1000) ∧ 2 ≤ zs.length ∧ zs.length ≤ 20 ∧
  ∀ l os H', H l = none → H' l = some (.lst os) → os.length ≤ 30 → (∀ v ∈ os, OddP K H H' 40 v ∧ ∀ dd kv, v = .ref dd → H' dd = some (.dK kv) → standB zs kv = false) → SpAt H' a (m + 1000) → But a H H' → Q (.ref l) H'
section
variable {P : Program} {w : World} {K : PySem.W.Frag} {mg : Str → Option Value} {base : Heap}
theorem scNoSt : FnScope ["spring", "names", "stand", "one", "other", "rest", "many", "found", "odd", "name", "thing"] ["spring", "names", "stand"] (defScope sNoSt) := ⟨rfl, rfl, rfl, by decide +kernel, rfl, by decide +kernel, by decide +kernel⟩
theorem ok_noSt {f fM fT : Addr} {fd fdM fdT : FuncData} (F : Fun K "_law_w_no_stands" "_law_w_no_stands" sNoSt f fd) (B : B0 K mg)
    (GM : FnOk P w K mg base CX0 2 fM fdM ["spring", "some"] spMixed) (bM : Binds K fdM ["spring", "some"] []) (gM : mg "_law_mixed" = some (.ref fM)) (kM : PySem.W.keepIn K (.ref fM) = true)
    (GT : FnOk P w K mg base CX0 1 fT fdT ["names", "thing"] (spWIsSt K)) (bT : Binds K fdT ["names", "thing"] []) (gT : mg "_law_w_is_stand" = some (.ref fT)) (kT : PySem.W.keepIn K (.ref fT) = true) :
    FnOk P w K mg base CX0 3 f fd ["spring", "names", "stand"] (spNoSt K) := by
  refine F.ok scNoSt (fun vs H Q E h => ?_) (fun cdv A outer s H vs Q E hr h => ?_)
  · obtain ⟨a, n, d, zs, ks, kvs, m, rfl, _⟩ := h
    rfl
  · obtain ⟨a, n, d, zs, ks, kvs, m, rfl, han, had, hsp, hm, hn, hd, hst, hnd, hz1, h2, h20, q⟩ := h
    have hu := hu_of hr
    have hr1 : Room 1 _ := hr.mono (by decide)
    refine ⟨_, pss_cons (ps_asg (pe_slice sl_list (pe_call GM hr (by rfl) gM kM bM .nil pass0 (pa_cons (pv 0) (pa_cons (pv 1) pa_nil))) po_none (po_some pe_int)) (pg_lst rfl (pgs_cons (pg_name (i := 3) scNoSt.nd rfl (Or.inr rfl)) (pgs_cons (pg_name (i := 4) scNoSt.nd rfl (Or.inl rfl)) pgs_nil))))
      (pss_cons (ps_par (i := 5) (j := 6) rfl scNoSt.nd rfl rfl (by decide) rfl rfl (pa_cons (pe_lc (te := tTup (tCons (tVar 9) (tCons (tDGet (tVar 2) (tVar 9)) tNil))) (own := [("name", 9)]) (g := gName 9) (tt := tTest (tOp rNe (tVar 9) (tVar 3))) rfl scNoSt.nd (pi_list (pv 1)) (blkOk_by (N := ["spring", "names", "stand", "one", "other", "rest", "many", "found", "odd", "name", "thing"]) (sc := defScope sNoSt) (by decide +kernel))
        (fun _ _ _ _ _ => pg_name (i := 9) scNoSt.nd rfl (Or.inl rfl)) (fun _ _ _ _ _ => by exact (pts_one (pt_cmpR op_ne (pv 9) (pv 3) (nomark _)))) (fun _ _ _ _ _ => by exact (pe_tup (pa_cons (pv 9) (pa_cons (pe_dget hu (pv 2) (pv 9) (fun _ _ => rfl)) pa_nil))))) (pa_cons (pe_callB call_len_seq (by rfl) B.len PySem.boot_len (pa_cons (pv 1) pa_nil)) pa_nil)) (by rfl))
      (pss_cons (ps_set (i := 7) scNoSt.nd rfl (Or.inl rfl) (pe_lst (pa_cons pe_non (pa_cons pe_int (pa_cons (pe_lst pa_nil) (pa_cons pe_str (pa_cons pe_bl (pa_cons (LiI.pe_listItems rfl (pv 2) (by rfl) B.list (by decide +kernel)) (pa_cons pe_dnewK (pa_cons (pe_callTy (call_dictP rfl) (by rfl) B.dict (by decide +kernel) (pa_cons (pv 5) pa_nil)) (pa_cons (pe_callTy (call_dictP rfl) (by rfl) B.dict (by decide +kernel) (pa_cons (pe_op op_cat (pv 5) (pe_lst (pa_cons (pe_tup (pa_cons pe_str (pa_cons (pe_dget hu (pv 2) (pv 3) (fun _ _ => rfl)) pa_nil))) pa_nil))) pa_nil)) pa_nil)))))))))))
      (pss_cons (ps_expr (pe_bm PySem.F.plainAttrs_list PySem.F.slot_list_append PySem.F.type_list_append mt_append (pv 7) (pa_cons (pe_callTy (call_dictP rfl) (by rfl) B.dict (by decide +kernel) (pa_cons (pe_op op_cat (LiI.pe_listItems rfl (pv 2) (by rfl) B.list (by decide +kernel)) (pe_lst (pa_cons (pe_tup (pa_cons pe_str (pa_cons pe_int pa_nil))) pa_nil))) pa_nil)) pa_nil)))
      (pss_cons (ps_for PassesOwn.never rfl (pi_tup (pe_tup (pa_cons pe_non (pa_cons pe_str (pa_cons (pe_lst (pa_cons pe_int pa_nil)) (pa_cons (pe_op op_add (pe_dget hu (pv 2) (pv 3) (fun _ _ => rfl)) (pv 6)) (pa_cons (pe_op op_add (pe_dget hu (pv 2) (pv 3) (fun _ _ => rfl)) pe_int) (pa_cons (pe_dget hu (pv 2) (pv 4) (fun _ _ => rfl)) (pa_cons (pe_tup (pa_cons (pe_dget hu (pv 2) (pv 3) (fun _ _ => rfl)) pa_nil)) pa_nil))))))))) (pg_name (i := 8) scNoSt.nd rfl (Or.inl rfl))
        (pss_one (ps_expr (pe_bm PySem.F.plainAttrs_list PySem.F.slot_list_append PySem.F.type_list_append mt_append (pv 7) (pa_cons (pe_callTy (call_dictP rfl) (by rfl) B.dict (by decide +kernel) (pa_cons (pe_op op_cat (LiI.pe_listItems rfl (pv 2) (by rfl) B.list (by decide +kernel)) (pe_lst (pa_cons (pe_tup (pa_cons (pv 3) (pa_cons (pv 8) pa_nil))) pa_nil))) pa_nil)) pa_nil)))))
      (pss_cons (ps_expr (pe_bm PySem.F.plainAttrs_list PySem.F.slot_list_append PySem.F.type_list_append mt_append (pv 7) (pa_cons (pe_callTy (call_dictP rfl) (by rfl) B.dict (by decide +kernel) (pa_cons (pe_op op_cat (LiI.pe_listItems rfl (pv 2) (by rfl) B.list (by decide +kernel)) (pe_lst (pa_cons (pe_tup (pa_cons (pv 3) (pa_cons (pe_op op_add (pe_dget hu (pv 2) (pv 3) (fun _ _ => rfl)) pe_int) pa_nil))) (pa_cons (pe_tup (pa_cons (pv 4) (pa_cons (pe_op op_sub (pe_op op_add (pe_dget hu (pv 2) (pv 4) (fun _ _ => rfl)) (pv 6)) pe_int) pa_nil))) pa_nil)))) pa_nil)) pa_nil)))
      (pss_one (ps_ret (pe_lc (te := tVar 10) (own := [("thing", 10)]) (g := gName 10) (tt := tNot (tB (tCall (spWIsSt K) [] E0 (tCons (tVar 1) (tCons (tVar 10) tNil))))) rfl scNoSt.nd (pi_list (pv 7)) (blkOk_by (N := ["spring", "names", "stand", "one", "other", "rest", "many", "found", "odd", "name", "thing"]) (sc := defScope sNoSt) (by decide +kernel))
        (fun _ _ _ _ _ => pg_name (i := 10) scNoSt.nd rfl (Or.inl rfl)) (fun _ _ _ _ _ => by exact (pts_one (pt_not (pt_val (pe_call GT hr1 (by rfl) gT kT bT .nil pass0 (pa_cons (pv 1) (pa_cons (pv 10) pa_nil))))))) (fun _ _ _ _ _ => by exact (pv 10)))))))))), ?_⟩
    obtain ⟨osp, hosp, _⟩ := id hsp
    have hlen : (zs.map V.str).length = zs.length := List.length_map _
    -- one, other = _law_mixed(spring, names)[:2]
    refine ⟨_, rfl, _, rfl, a, n, _, m, rfl, han, hsp, by omega, hn, by omega, fun p ys H1 hperm hp0 hp1 hsp1 b1 => ?_⟩
    obtain ⟨qs, hqs, rfl⟩ := perm_strs hperm
    obtain ⟨z1, z2, qr, rfl⟩ : ∃ z1 z2 qr, qs = z1 :: z2 :: qr := by
      have := hqs.length_eq
      match qs, this with
      | z1 :: z2 :: qr, _ => exact ⟨_, _, _, rfl⟩
      | [_], e => simp at e; omega
      | [], e => simp at e; omega
    have m1 : z1 ∈ zs := hqs.mem_iff.mp (by simp)
    have m2 : z2 ∈ zs := hqs.mem_iff.mp (by simp)
    have hcut : cutV ((z1 :: z2 :: qr).map V.str) none (some 2) = [V.str z1, V.str z2] := by
      unfold cutV
      rw [show (2 : Int) = ((2 : Nat) : Int) from rfl, HT.sIx_nat, HT.sIx_none]
      rw [Nat.min_eq_left (by simp)]
      rfl
    refine ⟨_, rfl, p, _, rfl, SqL.of hp1, fun S hS => ?_⟩
    rw [hcut]
    generalize hE : upd H1 S _ = H2
    have s2 : Same H1 H2 := hE ▸ same_upd hS
    have e2 := congrFun hE.symm S
    rw [upd_same] at e2
    clear hE
    have b2 : But a H H2 := b1.trans (Same.but s2)
    have hsp2 := hsp1.same s2
    have hn2 := b2 _ _ (Ne.symm han) hn
    have hd2 := b2 _ _ (Ne.symm had) hd
    refine ⟨S, _, rfl, SqL.of e2, rfl, _, _, rfl, _, _, rfl, rfl, ?_⟩
    have hval : ∀ {z : Str}, z ∈ zs → ∀ {G : Hp}, G d = some (.dK kvs) → DGet G d (.str z) (some (.int (placeOf kvs z))) := fun {z} hz {G} e => hst.val hz ▸ DGet.k (k := (Sum.inr z : Key)) e
    have fr : ∀ {G : Hp} {e : Addr}, Same H2 G → G e = none → H e = none := fun {G e} sm hne => b2.free (sm.free hne) hsp2.ne
    -- rest
    refine ⟨_, rfl, n, rfl, ⟨_, SqL.of hn2⟩, fun D hD => ?_⟩
    refine lc_it (walk_list (K := K) (a := n) (xs := zs.map V.str)) (fun i G => Same H2 G ∧ ∃ (ts : List Addr) (kr : List (Key × V)), G D = some (.lst (ts.map V.ref)) ∧ Paired (fun (t : Addr) (kv : Key × V) => t ≠ D ∧ G t = some (.tup [kV kv.1, kv.2])) ts kr ∧ ts.length ≤ i ∧ ∀ kv ∈ kr, keyOk kv.1 ∧ ∃ j, kv.2 = V.int j) ⟨same_upd hD, [], [], upd_same, .nil, Nat.le_refl _, fun _ z => nomatch z⟩ (fun i G _ p => SqL.of (p.1 _ _ hn2)) ?_ ?_
    · rintro i x G G' hi ⟨sm, ts, kr, hacc, hpr, htl, hkr⟩ ⟨rfl, hx⟩
      obtain ⟨z, hz, hzm, rfl⟩ := name_at hx
      refine ⟨rfl, _, rfl, _, rfl, rfl, _, rfl, ?_⟩
      refine ite2 (fun h => ?_) (fun h => ?_)
      · refine ⟨_, rfl, _, rfl, _, rfl, d, _, rfl, hval hzm (sm _ _ hd2), by show 2 ≤ sizeLine; decide, fun U hU => ?_⟩
        have sU := same_upd (o := .tup [V.str z, .int (placeOf kvs z)]) hU
        have hUD : U ≠ D := Ne.symm (ne_of_none hacc hU)
        refine ⟨_, sU _ _ hacc, ?_, fun b u hb => ?_, ts ++ [U], kr ++ [((Sum.inr z : Key), V.int (placeOf kvs z))], ?_, ?_, ?_, fun kv hkv => ?_⟩
        · rw [List.length_map]
          exact Nat.lt_of_le_of_lt htl (Nat.lt_of_lt_of_le hi (Nat.le_trans (by rw [hlen]; exact h20) (by decide)))
        · rw [upd_ne (ne_of_none hb hD)]
          exact sU _ _ (sm _ _ hb)
        · rw [upd_same, List.map_append]
          rfl
        · exact Paired.snoc (Paired.mono (fun t kv h => ⟨h.1, by rw [upd_ne h.1]; exact sU _ _ h.2⟩) hpr) ⟨hUD, by rw [upd_ne hUD, upd_same]; rfl⟩
        · rw [List.length_append]
          exact Nat.succ_le_succ htl
        · rcases List.mem_append.mp hkv with q | q
          · exact hkr kv q
          · rw [List.mem_singleton.mp q]
            exact ⟨hz1 z hzm, _, rfl⟩
      · exact ⟨sm, ts, kr, hacc, hpr, Nat.le_succ_of_le htl, hkr⟩
    rintro H3 ⟨s3, ts, kr, hD3, hpr3, htl, hkr⟩
    rw [hlen] at htl
    have lpD : LP H3 D ts kr := ⟨hD3, Paired.mono (fun _ _ e => e.2) hpr3⟩
    have hrl : kr.length = ts.length := (Paired.length hpr3).symm
    have hn3 := s3 _ _ hn2
    have hd3 := s3 _ _ hd2
    refine ⟨_, rfl, n, _, rfl, .inl (SqL.of hn3), _, _, rfl, ?_⟩
    rw [hlen]
    have hkv : ∀ kv ∈ kvs, keyOk kv.1 ∧ ∃ j, kv.2 = V.int j := fun kv hm => by
      rw [hst.eq] at hm
      obtain ⟨z, hz, rfl⟩ := List.mem_map.mp hm
      exact ⟨hz1 z (hst.pm.mem_iff.mp hz), _, rfl⟩
    have hkl : kvs.length ≤ 20 := by rw [hst.len]; exact h20
    -- found
    have hv1 : DGet H3 d (.str z1) (some (.int (placeOf kvs z1))) := hval m1 hd3
    refine ⟨by show 0 ≤ sizeLine; decide, fun p1 hp1' => ?_⟩
    generalize hE : upd H3 p1 _ = H4
    have s4 : Same H3 H4 := hE ▸ same_upd hp1'
    have e4 := congrFun hE.symm p1
    rw [upd_same] at e4
    clear hE
    refine ⟨_, rfl, d, kvs, rfl, s4 _ _ hd3, fun H5 p2 t2 (s5 : Same H4 H5) hp2 hts2 hpt2 e5 pr5 => ?_⟩
    refine fun p3 hp3 => ?_
    generalize hE : upd H5 p3 _ = H6
    have s6 : Same H5 H6 := hE ▸ same_upd hp3
    have e6 := congrFun hE.symm p3
    rw [upd_same] at e6
    clear hE
    have s46 : Same H3 H6 := s4.trans (s5.trans s6)
    have lp6 := lpD.mono s46
    refine ⟨_, rfl, D, ts, kr, rfl, SqL.of lp6.1, Paired.mono (fun t kv e => SqT.of e) lp6.2, fun p4 hp4 => ?_⟩
    have o4 : H p4 = none := fr (Same.trans s3 s46) hp4
    generalize hE : upd H6 p4 _ = H7
    have s7 : Same H6 H7 := hE ▸ same_upd hp4
    have e7 := congrFun hE.symm p4
    rw [upd_same] at e7
    clear hE
    have s37 : Same H3 H7 := s46.trans s7
    refine ⟨_, rfl, _, rfl, _, rfl, d, _, rfl, hval m1 (s37 _ _ hd3), by show 2 ≤ sizeLine; decide, fun p5 hp5 => ?_⟩
    generalize hE : upd H7 p5 _ = H8
    have s8 : Same H7 H8 := hE ▸ same_upd hp5
    have e8 := congrFun hE.symm p5
    rw [upd_same] at e8
    clear hE
    refine ⟨by show 1 ≤ sizeLine; decide, fun p6 hp6 => ?_⟩
    generalize hE : upd H8 p6 _ = H9
    have s9 : Same H8 H9 := hE ▸ same_upd hp6
    have e9 := congrFun hE.symm p6
    rw [upd_same] at e9
    clear hE
    have lp9 := lpD.mono (s37.trans (s8.trans s9))
    refine ⟨D, p6, _, _, rfl, rfl, lp9.1, e9, by rw [List.length_map]; exact Nat.le_trans (Nat.add_le_add_right (Nat.le_trans htl h20) 1) (by decide), fun p7 hp7 => ?_⟩
    generalize hE : upd H9 p7 _ = H10
    have s10 : Same H9 H10 := hE ▸ same_upd hp7
    have e10 := congrFun hE.symm p7
    rw [upd_same] at e10
    clear hE
    have s310 : Same H3 H10 := s37.trans (s8.trans (s9.trans s10))
    refine ⟨p7, ts ++ [p5], kr ++ [((Sum.inr "nobody" : Key), V.int (placeOf kvs z1))], rfl, SqL.of (by rw [e10, List.map_append]; rfl), Paired.mono (fun t kv e => SqT.of e) (paired_app (lpD.mono s310).2 (.cons (s10 _ _ (s9 _ _ e8)) .nil)), fun p8 hp8 => ?_⟩
    have o8 : H p8 = none := fr (Same.trans s3 s310) hp8
    generalize hE : upd H10 p8 _ = H11
    have s11 : Same H10 H11 := hE ▸ same_upd hp8
    have e11 := congrFun hE.symm p8
    rw [upd_same] at e11
    clear hE
    refine ⟨by show 9 ≤ sizeLine; decide, fun l hl' => ?_⟩
    have k4 : ∀ kv ∈ mergeK [] kr, keyOk kv.1 ∧ ∃ j, kv.2 = V.int j := (merge_all (Pk := keyOk) (Pv := fun v => ∃ j, v = V.int j) (kvs := []) (fun _ z => nomatch z) hkr).1
    have k8 : ∀ kv ∈ kr ++ [((Sum.inr "nobody" : Key), V.int (placeOf kvs z1))], keyOk kv.1 ∧ ∃ j, kv.2 = V.int j := fun kv hm => by
      rcases List.mem_append.mp hm with q | q
      · exact hkr kv q
      · rw [List.mem_singleton.mp q]
        exact ⟨show ("nobody" : Str).length ≤ 1000 by decide, _, rfl⟩
    have vint : ∀ {G : Hp} {kv : Key × V}, (∃ j, kv.2 = V.int j) → Val1 G kv.2 := fun {G kv} ⟨j, e⟩ => by rw [e]; exact .int j
    have od : ∀ u ∈ [V.non, .int 5, .ref p1, .str "ab", .bl true, .ref p2, .ref p3, .ref p4, .ref p8], OddP K H H11 40 u := by
      have a11 : Same H4 H11 := s5.trans (s6.trans (s7.trans (s8.trans (s9.trans (s10.trans s11)))))
      intro u hu
      simp only [List.mem_cons, List.not_mem_nil, or_false] at hu
      rcases hu with rfl | rfl | rfl | rfl | rfl | rfl | rfl | rfl | rfl
      · exact .inl ⟨_, .non, rfl, .non⟩
      · exact .inl ⟨_, .int 5, rfl, .int 5⟩
      · exact .inl ⟨_, .lst (a11 _ _ e4), rfl, .lst (a11 _ _ e4) (a11 _ _ e4) rfl (by decide) (fun i x y e _ => by simp at e)⟩
      · exact .inl ⟨_, .str (by decide), rfl, .str (by decide)⟩
      · exact .inl ⟨_, .bl true, rfl, .bl true⟩
      · have q5 : Same H5 H11 := s6.trans (s7.trans (s8.trans (s9.trans (s10.trans s11))))
        have l2 : t2.length = kvs.length := Paired.length pr5
        refine .inl ⟨_, .lst (q5 _ _ e5), rfl, .lst (q5 _ _ e5) (q5 _ _ e5) rfl (by rw [List.length_map, l2]; omega) (fun i x y h1 h2 => ?_)⟩
        rw [h1] at h2
        cases h2
        obtain ⟨t, ht, rfl⟩ := get_map h1
        obtain ⟨kv, hk1, hk2⟩ := paired_get pr5 ht
        have hk3 := q5 _ _ hk2
        obtain ⟨h5, j, h6⟩ := hkv kv (List.mem_of_getElem? hk1)
        refine .tup hk3 hk3 rfl (by show 2 ≤ 1000; decide) (fun i x y h1 h2 => ?_)
        rw [h1] at h2
        cases h2
        match i, h1 with
        | 0, h1 =>
          cases h1
          obtain ⟨k, v⟩ := kv
          cases k with
          | inl i => exact .int _
          | inr z => exact .str h5
        | 1, h1 =>
          cases h1
          rw [h6]
          exact .int j
      · have q6 : Same H6 H11 := s7.trans (s8.trans (s9.trans (s10.trans s11)))
        exact .inr ⟨p3, [], rfl, fr (Same.trans s3 (s4.trans s5)) hp3, q6 _ _ e6, Nat.zero_le _, fun _ z => nomatch z⟩
      · have q7 : Same H7 H11 := s8.trans (s9.trans (s10.trans s11))
        exact odd_dict o4 (q7 _ _ e7) (by rw [hrl]; omega) fun kv hm => ⟨(hkr kv hm).1, vint (hkr kv hm).2⟩
      · exact odd_dict o8 e11 (by rw [List.length_append, hrl]; simp only [List.length_cons, List.length_nil]; omega) fun kv hm => ⟨(k8 kv hm).1, vint (k8 kv hm).2⟩
    generalize hE : upd H11 l _ = H12
    have s12 : Same H11 H12 := hE ▸ same_upd hl'
    have e12 := congrFun hE.symm l
    rw [upd_same] at e12
    clear hE
    have a12 : Same H3 H12 := s310.trans (s11.trans s12)
    have od12 : ∀ u ∈ [V.non, .int 5, .ref p1, .str "ab", .bl true, .ref p2, .ref p3, .ref p4, .ref p8], OddP K H (no H12 l) 40 u := fun u hu => (od u hu).mono fun b o e => by
      rw [no_ne (ne_of_none e hl')]
      exact s12 _ _ e
    have hl0 : H l = none := fr (Same.trans s3 (s310.trans s11)) hl'
    have old : ∀ {b : Addr} {o : HO}, H3 b = some o → b ≠ l := fun e => ne_of_none (s11 _ _ (s310 _ _ e)) hl'
    have lv0 : [V.non, .int 5, .ref p1, .str "ab", .bl true, .ref p2, .ref p3, .ref p4, .ref p8].length = 9 := rfl
    generalize [V.non, .int 5, .ref p1, .str "ab", .bl true, .ref p2, .ref p3, .ref p4, .ref p8] = vs0 at e12 od12 lv0
    have frL : ∀ {G : Hp} {e : Addr}, But l H3 G → G e = none → H e = none := fun {G e} bl hne => by
      cases hH : H e with
      | none => rfl
      | some u =>
        exfalso
        have h3 : ∃ o, H3 e = some o := by
          by_cases he : e = a
          · obtain ⟨o, ho, _⟩ := hsp2
            exact ⟨o, s3 _ _ (by rw [he]; exact ho)⟩
          · exact ⟨u, s3 _ _ (b2 _ _ he hH)⟩
        obtain ⟨o, ho⟩ := h3
        have := bl _ _ (old ho) ho
        rw [hne] at this
        cases this
    have b12 : But l H3 H12 := Same.but a12
    have hd12 := a12 _ _ hd3
    have nd : d ≠ l := old hd3
    have nn : n ≠ l := old hn3
    show gName 7 _ _ _ _
    refine ⟨_, rfl, .inl ⟨rfl, _, SqL.of e12⟩, _, rfl, d, kvs, rfl, hd12, fun Ax pax tax (sax : Same H12 Ax) hpax htax hptx eax prx => ?_⟩
    refine ⟨by show 2 ≤ sizeLine; decide, fun Tx0 hTx0 => ?_⟩
    generalize hE : upd Ax Tx0 _ = Bx0
    have sTx0 : Same Ax Bx0 := hE ▸ same_upd hTx0
    have eTx0 := congrFun hE.symm Tx0
    rw [upd_same] at eTx0
    clear hE
    have cTx0 : Same H12 Bx0 := Same.trans sax sTx0
    refine ⟨by show 1 ≤ sizeLine; decide, fun Lx hLx => ?_⟩
    generalize hE : upd Bx0 Lx _ = Cx
    have sLx : Same Bx0 Cx := hE ▸ same_upd hLx
    have eLx := congrFun hE.symm Lx
    rw [upd_same] at eLx
    clear hE
    have cLx : Same H12 Cx := Same.trans cTx0 sLx
    have lax : tax.length = kvs.length := Paired.length prx
    have cax : Same Ax Cx := fun b o e => by
      exact sLx _ _ (sTx0 _ _ (e))
    refine ⟨pax, Lx, _, _, rfl, rfl, cax _ _ eax, eLx, by rw [List.length_map, lax]; exact Nat.le_trans (Nat.add_le_add_right hkl 1) (by decide), fun Dx hDx => ?_⟩
    generalize hE : upd Cx Dx _ = Ex
    have sDx : Same Cx Ex := hE ▸ same_upd hDx
    have eDx := congrFun hE.symm Dx
    rw [upd_same] at eDx
    clear hE
    have cDx : Same H12 Ex := Same.trans cLx sDx
    refine ⟨Dx, tax ++ [Tx0], kvs ++ [((Sum.inr "nobody" : Key), V.int 0)], rfl, SqL.of (by rw [eDx, List.map_append]; rfl), Paired.mono (fun t kv e => SqT.of e) (paired_app (Paired.mono (fun t kv e => sDx _ _ (cax _ _ e)) prx) (.cons (sDx _ _ (sLx _ _ eTx0)) .nil)), fun qx hqx => ?_⟩
    have oqx : H qx = none := frL (But.trans b12 (Same.but cDx)) hqx
    generalize hE : upd Ex qx _ = Fx
    have sqx : Same Ex Fx := hE ▸ same_upd hqx
    have eqx := congrFun hE.symm qx
    rw [upd_same] at eqx
    clear hE
    have cqx : Same H12 Fx := Same.trans cDx sqx
    have nqx : qx ≠ l := fun z => by rw [z, cDx _ _ e12] at hqx; cases hqx
    refine ⟨l, _, _, rfl, rfl, cqx _ _ e12, Nat.lt_of_le_of_lt (show vs0.length ≤ 20 by omega) (by decide), ?_⟩
    have odx := one_more od12 (Same.but cqx) (odd_dict (K := K) (H0 := H) (H := no Fx l) (b := 40) (d := qx) (kvs := kvs ++ [((Sum.inr "nobody" : Key), V.int 0)]) oqx (by rw [no_ne nqx]; exact eqx) (by rw [List.length_append]; exact Nat.le_trans (Nat.add_le_add_right hkl _) (by show 20 + 1 ≤ 40; decide)) (fun kv hm => by
      rcases List.mem_append.mp hm with m | m
      · exact ⟨(hkv kv m).1, vint (hkv kv m).2⟩
      · simp only [List.mem_cons, List.not_mem_nil, or_false] at m
        subst m
        exact ⟨(show ("nobody" : Str).length ≤ 1000 by decide), .int 0⟩))
    have bzx : But l H3 (upd Fx l (.lst (vs0 ++ [V.ref qx]))) := But.trans b12 (But.trans (Same.but cqx) But.upd)
    have eZx : (upd Fx l (.lst (vs0 ++ [V.ref qx]))) l = some (.lst (vs0 ++ [V.ref qx])) := upd_same
    generalize upd Fx l (.lst (vs0 ++ [V.ref qx])) = Zx at bzx odx eZx
    have dx := bzx _ _ nd hd3
    -- the odd places
    refine ⟨by show 1 ≤ sizeLine; decide, fun r1 hr1' => ?_⟩
    generalize hE : upd Zx r1 _ = Y1
    have sy1 : Same Zx Y1 := hE ▸ same_upd hr1'
    have ey1 := congrFun hE.symm r1
    rw [upd_same] at ey1
    clear hE
    refine ⟨_, rfl, _, rfl, d, _, rfl, hval m1 (sy1 _ _ dx), _, rfl, _, _, rfl, rfl, _, rfl, _, rfl, d, _, rfl, hval m1 (sy1 _ _ dx), _, _, rfl, rfl, _, rfl, _, rfl, d, _, rfl, hval m2 (sy1 _ _ dx), _, rfl, _, rfl, d, _, rfl, hval m1 (sy1 _ _ dx), by show 1 ≤ sizeLine; decide, fun r2 hr2' => ?_⟩
    generalize hE : upd Y1 r2 _ = Y2
    have sy2 : Same Y1 Y2 := hE ▸ same_upd hr2'
    have ey2 := congrFun hE.symm r2
    rw [upd_same] at ey2
    clear hE
    refine ⟨by show 7 ≤ sizeLine; decide, fun r3 hr3' => ?_⟩
    generalize hE : upd Y2 r3 _ = Y3
    have sy3 : Same Y2 Y3 := hE ▸ same_upd hr3'
    have ey3 := congrFun hE.symm r3
    rw [upd_same] at ey3
    clear hE
    have nr1 : r1 ≠ l := Ne.symm (ne_of_none eZx hr1')
    have nr2 : r2 ≠ l := Ne.symm (ne_of_none (sy1 _ _ eZx) hr2')
    have nr3 : r3 ≠ l := Ne.symm (ne_of_none (sy2 _ _ (sy1 _ _ eZx)) hr3')
    have sy13 : Same Zx Y3 := sy1.trans (sy2.trans sy3)
    have hod : ∀ v ∈ [V.non, .str "1", .ref r1, .int (placeOf kvs z1 + (zs.length : Int)), .int (placeOf kvs z1 + 1), .int (placeOf kvs z2), .ref r2], Val1 (no Y3 l) v := fun v hv => by
      simp only [List.mem_cons, List.not_mem_nil, or_false] at hv
      rcases hv with rfl | rfl | rfl | rfl | rfl | rfl | rfl
      · exact .non
      · exact .str (by decide)
      · exact .lst (by rw [no_ne nr1]; exact sy3 _ _ (sy2 _ _ ey1))
      · exact .int _
      · exact .int _
      · exact .int _
      · exact .tup (by rw [no_ne nr2]; exact sy3 _ _ ey2)
    have l7 : [V.non, .str "1", .ref r1, .int (placeOf kvs z1 + (zs.length : Int)), .int (placeOf kvs z1 + 1), .int (placeOf kvs z2), .ref r2].length = 7 := rfl
    generalize [V.non, .str "1", .ref r1, .int (placeOf kvs z1 + (zs.length : Int)), .int (placeOf kvs z1 + 1), .int (placeOf kvs z2), .ref r2] = o7 at ey3 hod l7
    refine ⟨r3, rfl, ⟨_, SqT.of ey3⟩, for_tup (xs := o7) (fun j σ G => ∃ (w8 : Option V) (vs : List V), σ = [some (.ref a), some (.ref n), some (.ref d), some (.str z1), some (.str z2), some (.ref D), some (.int (zs.length : Nat)), some (.ref l), w8, none, none] ∧ G l = some (.lst vs) ∧ vs.length = 10 + j ∧ (∀ u ∈ vs, OddP K H (no G l) 40 u) ∧ But l Y3 G)
      ⟨none, _, rfl, sy13 _ _ eZx, by rw [List.length_append, lv0]; rfl, fun u hu => (odx u hu).mono (no_but (Same.but sy13)), fun _ _ _ e => e⟩ (fun j σ G _ ⟨_, _, _, _, _, _, bg⟩ => SqT.of (bg _ _ nr3 ey3)) ?_ ?_⟩
    · rintro j v σ G hv ⟨w8, vs, rfl, eG, lG, odG, bG⟩
      have hj : j < 7 := by
        rw [← l7]
        exact (List.getElem?_eq_some_iff.mp hv).1
      have hvm := List.mem_of_getElem? hv
      have bG3 : But l H3 G := bzx.trans ((Same.but sy13).trans bG)
      have hdG := bG3 _ _ nd hd3
      refine ⟨_, rfl, .inl ⟨rfl, _, SqL.of eG⟩, _, rfl, d, kvs, rfl, hdG, fun Al pal tal (sal : Same G Al) hpal htal hptl eal prl => ?_⟩
      refine ⟨_, rfl, _, rfl, by show 2 ≤ sizeLine; decide, fun Tl0 hTl0 => ?_⟩
      generalize hE : upd Al Tl0 _ = Bl0
      have sTl0 : Same Al Bl0 := hE ▸ same_upd hTl0
      have eTl0 := congrFun hE.symm Tl0
      rw [upd_same] at eTl0
      clear hE
      have cTl0 : Same G Bl0 := Same.trans sal sTl0
      refine ⟨by show 1 ≤ sizeLine; decide, fun Ll hLl => ?_⟩
      generalize hE : upd Bl0 Ll _ = Cl
      have sLl : Same Bl0 Cl := hE ▸ same_upd hLl
      have eLl := congrFun hE.symm Ll
      rw [upd_same] at eLl
      clear hE
      have cLl : Same G Cl := Same.trans cTl0 sLl
      have lal : tal.length = kvs.length := Paired.length prl
      have cal : Same Al Cl := fun b o e => by
        exact sLl _ _ (sTl0 _ _ (e))
      refine ⟨pal, Ll, _, _, rfl, rfl, cal _ _ eal, eLl, by rw [List.length_map, lal]; exact Nat.le_trans (Nat.add_le_add_right hkl 1) (by decide), fun Dl hDl => ?_⟩
      generalize hE : upd Cl Dl _ = El
      have sDl : Same Cl El := hE ▸ same_upd hDl
      have eDl := congrFun hE.symm Dl
      rw [upd_same] at eDl
      clear hE
      have cDl : Same G El := Same.trans cLl sDl
      refine ⟨Dl, tal ++ [Tl0], kvs ++ [((Sum.inr z1 : Key), v)], rfl, SqL.of (by rw [eDl, List.map_append]; rfl), Paired.mono (fun t kv e => SqT.of e) (paired_app (Paired.mono (fun t kv e => sDl _ _ (cal _ _ e)) prl) (.cons (sDl _ _ (sLl _ _ eTl0)) .nil)), fun ql hql => ?_⟩
      have oql : H ql = none := frL (But.trans bG3 (Same.but cDl)) hql
      generalize hE : upd El ql _ = Fl
      have sql : Same El Fl := hE ▸ same_upd hql
      have eql := congrFun hE.symm ql
      rw [upd_same] at eql
      clear hE
      have cql : Same G Fl := Same.trans cDl sql
      have nql : ql ≠ l := fun z => by rw [z, cDl _ _ eG] at hql; cases hql
      refine ⟨l, _, _, rfl, rfl, cql _ _ eG, Nat.lt_of_le_of_lt (show vs.length ≤ 20 by omega) (by decide), ?_⟩
      have odl := one_more odG (Same.but cql) (odd_dict (K := K) (H0 := H) (H := no Fl l) (b := 40) (d := ql) (kvs := kvs ++ [((Sum.inr z1 : Key), v)]) oql (by rw [no_ne nql]; exact eql) (by rw [List.length_append]; exact Nat.le_trans (Nat.add_le_add_right hkl _) (by show 20 + 1 ≤ 40; decide)) (fun kv hm => by
        rcases List.mem_append.mp hm with m | m
        · exact ⟨(hkv kv m).1, vint (hkv kv m).2⟩
        · simp only [List.mem_cons, List.not_mem_nil, or_false] at m
          subst m
          exact ⟨hz1 z1 m1, (hod v hvm).mono fun b o _ e => no_but (bG.trans (Same.but cql)) b o e⟩))
      have bzl : But l H3 (upd Fl l (.lst (vs ++ [V.ref ql]))) := But.trans bG3 (But.trans (Same.but cql) But.upd)
      exact ⟨_, _, rfl, upd_same, by rw [List.length_append, lG]; rfl, odl, bG.trans ((Same.but cql).trans But.upd)⟩
    rintro σ G ⟨w8, vs, rfl, eG, lG, odG, bG⟩
    rw [l7] at lG
    have bG3 : But l H3 G := bzx.trans ((Same.but sy13).trans bG)
    have hdG := bG3 _ _ nd hd3
    refine ⟨_, rfl, .inl ⟨rfl, _, SqL.of eG⟩, _, rfl, d, kvs, rfl, hdG, fun Am pam tam (sam : Same G Am) hpam htam hptm eam prm => ?_⟩
    refine ⟨_, rfl, _, rfl, _, rfl, d, _, rfl, hval m1 (sam _ _ hdG), _, _, rfl, rfl, by show 2 ≤ sizeLine; decide, fun Tm0 hTm0 => ?_⟩
    generalize hE : upd Am Tm0 _ = Bm0
    have sTm0 : Same Am Bm0 := hE ▸ same_upd hTm0
    have eTm0 := congrFun hE.symm Tm0
    rw [upd_same] at eTm0
    clear hE
    have cTm0 : Same G Bm0 := Same.trans sam sTm0
    refine ⟨_, rfl, _, rfl, _, rfl, d, _, rfl, hval m2 (cTm0 _ _ hdG), _, rfl, _, _, rfl, rfl, _, _, rfl, rfl, by show 2 ≤ sizeLine; decide, fun Tm1 hTm1 => ?_⟩
    generalize hE : upd Bm0 Tm1 _ = Bm1
    have sTm1 : Same Bm0 Bm1 := hE ▸ same_upd hTm1
    have eTm1 := congrFun hE.symm Tm1
    rw [upd_same] at eTm1
    clear hE
    have cTm1 : Same G Bm1 := Same.trans cTm0 sTm1
    refine ⟨by show 2 ≤ sizeLine; decide, fun Lm hLm => ?_⟩
    generalize hE : upd Bm1 Lm _ = Cm
    have sLm : Same Bm1 Cm := hE ▸ same_upd hLm
    have eLm := congrFun hE.symm Lm
    rw [upd_same] at eLm
    clear hE
    have cLm : Same G Cm := Same.trans cTm1 sLm
    have lam : tam.length = kvs.length := Paired.length prm
    have cam : Same Am Cm := fun b o e => by
      exact sLm _ _ (sTm1 _ _ (sTm0 _ _ (e)))
    refine ⟨pam, Lm, _, _, rfl, rfl, cam _ _ eam, eLm, by rw [List.length_map, lam]; exact Nat.le_trans (Nat.add_le_add_right hkl 2) (by decide), fun Dm hDm => ?_⟩
    generalize hE : upd Cm Dm _ = Em
    have sDm : Same Cm Em := hE ▸ same_upd hDm
    have eDm := congrFun hE.symm Dm
    rw [upd_same] at eDm
    clear hE
    have cDm : Same G Em := Same.trans cLm sDm
    refine ⟨Dm, tam ++ [Tm0, Tm1], kvs ++ [((Sum.inr z1 : Key), V.int (placeOf kvs z1 + 1)), ((Sum.inr z2 : Key), V.int (placeOf kvs z2 + (zs.length : Int) - 1))], rfl, SqL.of (by rw [eDm, List.map_append]; rfl), Paired.mono (fun t kv e => SqT.of e) (paired_app (Paired.mono (fun t kv e => sDm _ _ (cam _ _ e)) prm) (.cons (sDm _ _ (sLm _ _ (sTm1 _ _ eTm0))) (.cons (sDm _ _ (sLm _ _ eTm1)) .nil))), fun qm hqm => ?_⟩
    have oqm : H qm = none := frL (But.trans bG3 (Same.but cDm)) hqm
    generalize hE : upd Em qm _ = Fm
    have sqm : Same Em Fm := hE ▸ same_upd hqm
    have eqm := congrFun hE.symm qm
    rw [upd_same] at eqm
    clear hE
    have cqm : Same G Fm := Same.trans cDm sqm
    have nqm : qm ≠ l := fun z => by rw [z, cDm _ _ eG] at hqm; cases hqm
    refine ⟨l, _, _, rfl, rfl, cqm _ _ eG, Nat.lt_of_le_of_lt (show vs.length ≤ 20 by omega) (by decide), ?_⟩
    have odm := one_more odG (Same.but cqm) (odd_dict (K := K) (H0 := H) (H := no Fm l) (b := 40) (d := qm) (kvs := kvs ++ [((Sum.inr z1 : Key), V.int (placeOf kvs z1 + 1)), ((Sum.inr z2 : Key), V.int (placeOf kvs z2 + (zs.length : Int) - 1))]) oqm (by rw [no_ne nqm]; exact eqm) (by rw [List.length_append]; exact Nat.le_trans (Nat.add_le_add_right hkl _) (by show 20 + 2 ≤ 40; decide)) (fun kv hm => by
      rcases List.mem_append.mp hm with m | m
      · exact ⟨(hkv kv m).1, vint (hkv kv m).2⟩
      · simp only [List.mem_cons, List.not_mem_nil, or_false] at m
        rcases m with rfl | rfl
        · exact ⟨hz1 z1 m1, .int _⟩
        · exact ⟨hz1 z2 m2, .int _⟩))
    have bzm : But l H3 (upd Fm l (.lst (vs ++ [V.ref qm]))) := But.trans bG3 (But.trans (Same.but cqm) But.upd)
    have eZm : (upd Fm l (.lst (vs ++ [V.ref qm]))) l = some (.lst (vs ++ [V.ref qm])) := upd_same
    generalize upd Fm l (.lst (vs ++ [V.ref qm])) = Zm at bzm odm eZm
    have hnm := bzm _ _ nn hn3
    have lZm : (vs ++ [V.ref qm]).length = 18 := by rw [List.length_append, lG]; rfl
    generalize vs ++ [V.ref qm] = vm at odm eZm lZm
    refine ⟨_, rfl, l, rfl, ⟨_, SqL.of eZm⟩, fun R hR => ?_⟩
    have nRl : ∀ {b : Addr} {o : HO}, Zm b = some o → b ≠ R := fun e => ne_of_none e hR
    refine lc_it (walk_list (K := K) (a := l) (xs := vm)) (fun i G => Same Zm G ∧ ∃ os : List V, G R = some (.lst os) ∧ os.length ≤ i ∧ ∀ v ∈ os, OddP K H (no Zm l) 40 v ∧ ∀ dd kv, v = .ref dd → (no Zm l) dd = some (.dK kv) → standB zs kv = false) ⟨same_upd hR, [], upd_same, Nat.le_refl _, fun _ z => nomatch z⟩ (fun i G _ p => SqL.of (p.1 _ _ eZm)) ?_ ?_
    · rintro i v G0 G hi ⟨sm, os, hos, lo, ho⟩ ⟨rfl, hv⟩
      have hov := odm v (List.mem_of_getElem? hv)
      have hng := sm _ _ hnm
      have hov2 : OddP K H G 40 v := (hov.mono no_same).mono sm
      have add : (∀ dd kv, v = .ref dd → (no Zm l) dd = some (.dK kv) → standB zs kv = false) → ∀ G3, Same G G3 → ∃ acc, G3 R = some (.lst acc) ∧ acc.length < sizeLine ∧ (Same Zm (upd G3 R (.lst (acc ++ [v]))) ∧ ∃ os : List V, (upd G3 R (.lst (acc ++ [v]))) R = some (.lst os) ∧ os.length ≤ i + 1 ∧ ∀ v ∈ os, OddP K H (no Zm l) 40 v ∧ ∀ dd kv, v = .ref dd → (no Zm l) dd = some (.dK kv) → standB zs kv = false) := fun hs G3 sg => by
        refine ⟨os, sg _ _ hos, Nat.lt_of_le_of_lt lo (Nat.lt_of_lt_of_le hi (by rw [lZm]; decide)), fun b u hb => ?_, os ++ [v], upd_same, by rw [List.length_append]; exact Nat.succ_le_succ lo, fun u hu => ?_⟩
        · rw [upd_ne (nRl hb)]
          exact sg _ _ (sm _ _ hb)
        · rcases List.mem_append.mp hu with m | m
          · exact ho u m
          · rw [List.mem_singleton.mp m]; exact ⟨hov, hs⟩
      refine ⟨rfl, _, rfl, _, rfl, ?_⟩
      rcases hov with ⟨k, h1, h2, h3⟩ | ⟨dd, kd, rfl, h1, h2, h3, h4⟩
      · refine ⟨n, zs, v, k, rfl, hng, by omega, by omega, (h1.same no_same).same sm, fun _ G3 sg => ⟨false, rfl, iteT ⟨_, rfl, add (fun dd kv ev hd' => ?_) G3 sg⟩⟩, fun hk => by rw [h2] at hk; cases hk⟩
        rw [ev] at h3
        cases h3 with
        | lst ha _ _ _ _ => rw [ha] at hd'; cases hd'
        | tup ha _ _ _ _ => rw [ha] at hd'; cases hd'
      · have hdg : G dd = some (.dK kd) := sm _ _ (no_same _ _ h2)
        refine ⟨n, zs, .ref dd, .dict, rfl, hng, by omega, by omega, .dict hdg, (fun hk => nomatch hk), fun _ => ⟨dd, kd, rfl, hdg, fun kv hkv => ?_, fun G3 sg => ?_⟩⟩
        · exact ((h4 kv hkv).2.mono fun b o _ e => sm _ _ (no_same _ _ e)).th
        · refine ⟨_, rfl, ?_⟩
          cases hB : standB zs kd with
          | false =>
            refine iteT ⟨_, rfl, add (fun d' kv ev hd' => ?_) G3 sg⟩
            cases ev
            rw [h2] at hd'
            cases hd'
            exact hB
          | true =>
            exact iteF ⟨fun b u hb => sg _ _ (sm _ _ hb), os, sg _ _ hos, Nat.le_succ_of_le lo, ho⟩
    · rintro G ⟨sm, os, hos, lo, ho⟩
      rw [lZm] at lo
      refine q R os G (frL bzm hR) hos (by omega) (fun v hv => ?_) ?_ fun b u hb hu => sm _ _ (bzm _ _ (old (s3 _ _ (b2 _ _ hb hu))) (s3 _ _ (b2 _ _ hb hu)))
      · obtain ⟨h1, h2⟩ := ho v hv
        refine ⟨(h1.mono no_same).mono sm, fun dd kv ev hd' => ?_⟩
        rcases h1 with ⟨k, _, _, h3⟩ | ⟨d2, kd, e2', _, h4, _, _⟩
        · rw [ev] at h3
          cases h3 with
          | lst ha _ _ _ _ => rw [sm _ _ (no_same _ _ ha)] at hd'; cases hd'
          | tup ha _ _ _ _ => rw [sm _ _ (no_same _ _ ha)] at hd'; cases hd'
        · rw [ev] at e2'
          cases e2'
          refine h2 dd kv ev ?_
          rw [h4]
          rw [sm _ _ (no_same _ _ h4)] at hd'
          exact hd'
      · obtain ⟨o, ho', hok⟩ := hsp2
        exact ⟨o, sm _ _ (bzm _ _ (old (s3 _ _ ho')) (s3 _ _ ho')), hok.mono (by omega)⟩
end
end RK

/-! promises of defs that ask repr of containers: nothing is being shown when they are called -/
namespace L2
open PySem PySem.Spec PyProof.Rows
/-- as FnOk, of calls from where no repr runs -/
structure FnG (P : Program) (w : World) (K : PySem.W.Frag) (mg : Str → Option Value) (base : Heap) (CX : CXT) (k : Nat) (f : Addr) (fd : FuncData) (ps : List Str) (sp : Sp) : Prop where
  len : ∀ vs H Q E, sp vs H Q E → vs.length = ps.length
  run : ∀ (A : Around) (outer : List Env) (u : Shared) (H : Hp) (args : Args) (us : List Value) (vs : List V) (Q : VK) (E : XK), Room k A → A.guards = some [] → Env0 P w K mg base A outer u H → BindsTo u fd args (ps.zip us) → Vals vs us → sp vs H Q E →
    codeAny (model P w) A (.call (.ref f) args) (CR CX outer P w H u Q E) u
section
variable {P : Program} {w : World} {K : PySem.W.Frag} {mg : Str → Option Value} {base : Heap} {CX : CXT} {k : Nat} {f : Addr} {fd : FuncData} {ps : List Str} {sp : Sp}
theorem FnOk.toG (F : FnOk P w K mg base CX k f fd ps sp) : FnG P w K mg base CX k f fd ps sp := ⟨F.len, fun A outer u H args us vs Q E hr _ => F.run A outer u H args us vs Q E hr⟩
theorem guards_deeper {A : Around} {env : Env} (h : A.guards = some []) : (A.deeper env).guards = some [] := h
theorem fn_g {name qual : Str} {params : Arguments} {body : List Stmt} {scope : Scope} {dV kV doc pm cdv ct oc : Value} {an od : Option Addr} {osl : Array (Option Value)} {N : List Str}
    (lk : K.lookup f = some ⟨oc, od, .func (PySem.W.fnOf name qual params body scope dV kV doc pm an cdv ct), osl⟩) (hcd : PySem.W.codeIn K cdv qual = true) (S : FnScope N ps scope) (len : ∀ vs H Q E, sp vs H Q E → vs.length = ps.length)
    (reads : ∀ (A : Around) (outer : List Env) (u : Shared) (H : Hp) (vs : List V) (Q : VK) (E : XK), Room k (A.deeper (envOfC qual scope u.heap.objs.size f cdv)) → (A.deeper (envOfC qual scope u.heap.objs.size f cdv)).guards = some [] → sp vs H Q E →
      ∃ t, PSs (cxOf CX P w K mg base N qual scope f cdv A outer u H E) body t ∧ t { nx := fun _ H' => Q .non H', rt := Q } (start N vs) H) :
    FnG P w K mg base CX (k + 1) f (PySem.W.fnOf name qual params body scope dV kV doc pm an cdv ct) ps sp := by
  refine ⟨len, fun A outer u H args us vs Q E room quiet e0 binds rel promise => ?_⟩
  have count := len _ _ _ _ promise
  have kept : K.In u.heap := e0.mod.kin.keeps fun b o e => (e0.bs b o e).1
  have nolim : u.heap.NoLimit := e0.mod.nolimit.keeps fun b o e => (e0.bs b o e).1
  have places : ∀ y ∈ ps.zip us, scope.names.lookup y.1 = some .local ∨ (scope.names.lookup y.1 = some .cell ∧ ((cellsFrom (u.heap.objs.size + 1) scope.names []).lookup y.1).isSome = true) := fun ⟨n, v⟩ hy => (S.par n (List.of_mem_zip hy).1).imp id fun q => ⟨q, PySem.W.cellsFrom_some _ _ _ (.inl q)⟩
  refine codeAny_call_function room.depth (kept _ _ lk) rfl S.co S.gen rfl (PySem.W.codeRec_of kept hcd) (binds _ _ _ _ (wpAny_newFunctionEnv_cells S.kind places fun env he u1 x => ?_))
  subst he
  obtain ⟨t, ht, hq⟩ := reads A outer u H vs Q E (room.deeper _) (guards_deeper quiet) promise
  refine ⟨nolim.keeps x.toInCall.keep, codeAny_func (wpAny_mono (ht.run [] u1 (start N vs) H _ (inv_start S room.hd e0 count rel x) hq) (fun fl u' hs => ?_) fun _ _ hs => hs)⟩
  have told : ∀ {ρ : St} {H' : Hp} {v : V} {z : Value}, Inv (cxOf CX P w K mg base N qual scope f cdv A outer u H E) [] ρ H' u' → RelV v z → Q v H' → CE outer P w H u Q z u' := fun {ρ H' v z} J rv q => ⟨v, H', J.os, J.bare, J.base, J.hok, rv, q⟩
  match fl, hs with
  | .ret z, ⟨v, ρ, H', J, rv, q⟩ => exact told J rv q
  | .next, ⟨ρ, H', J, q⟩ => exact told (v := V.non) (z := Value.none) J rfl q
  | .brk, ⟨_, _, _, q⟩ => exact False.elim q
  | .cont, ⟨_, _, _, q⟩ => exact False.elim q
end
section
variable {X : Cx} {CX : CXT} {k : Nat} {f : Addr} {fd : FuncData} {ps : List Str} {sp : Sp} {dvs : List V} {ds : List Value} {E : XK} {x : Str} {p pos : Pos} {e : Expr} {es : List Expr} {t : TA}
theorem run_g {pins : List (Addr × Obj)} {σ : St} {H : Hp} {s : Shared} {Q : VK} {us : List Value} {vs : List V} (F : FnG X.prog X.w X.K X.mg X.base CX k f fd ps sp) (room : Room k X.A) (quiet : X.A.guards = some []) (hb : Binds X.K fd ps ds) (hd : Vals dvs ds) (hx : Passes CX X E)
    (I : Inv X pins σ H s) (r : Vals vs us) (h : sp (vs ++ dvs) H Q E) : wpAny (model X.prog X.w) X.A (call (.ref f) us) (EP X pins σ Q) X.xe s := by
  have r2 := r.append hd
  have count : (us ++ ds).length = ps.length := r2.length ▸ F.len _ _ _ _ h
  refine wpAny_call (codeAny_mono (F.run X.A X.stack s H ⟨us, []⟩ (us ++ ds) (vs ++ dvs) Q E room quiet I.env0 (hb s us I.kIn count) r2 h) fun r s' hq => ?_)
  match r, hq with
  | .error e, hq => exact hx pins σ H s e s' I hq
  | .ok (.ret u), hq => exact I.after hq
  | .ok .next, hq => exact False.elim hq
  | .ok .brk, hq => exact False.elim hq
  | .ok .cont, hq => exact False.elim hq
theorem pe_callG (F : FnG X.prog X.w X.K X.mg X.base CX k f fd ps sp) (room : Room k X.A) (quiet : X.A.guards = some []) (hg : Gl X x) (hm : X.mg x = some (.ref f)) (hk : PySem.W.keepIn X.K (.ref f) = true) (hb : Binds X.K fd ps ds) (hd : Vals dvs ds) (hx : Passes CX X E) (ha : PA X (e :: es) t)
    (hdb : (x == ("__debug__" : Str)) = false := by decide) (he : starEach (e :: es) X.env = (false, eval e X.env) :: starEach es X.env := by rfl) (hpl : (backTo pos (starEach es X.env)).any (·.1) = false := by rfl) :
    PE X (.Call (.Name x p) (e :: es) [] pos) (tCall sp dvs E t) :=
  ⟨fun pins s σ H Q I h => wpAny_Call_Name_kw (ld_glob I hg hm (PySem.W.callWith_K (h₀ := X.base) I.ok.mod.kin hk (thn (ha.run pos pins s σ H _ I h) fun us s1 ⟨vs, H1, I1, r, q⟩ => ⟨I1.kIn, run_g F room quiet hb hd hx I1 r q⟩) he hpl) hdb)⟩
end
section
variable {P : Program} {w : World} {K : PySem.W.Frag} {mg : Str → Option Value} {base : Heap}
theorem Fun.okG {x qual : Str} {st : Stmt} {f : Addr} {fd : FuncData} {N ps : List Str} {k : Nat} {sp : Sp} (F : Fun K x qual st f fd) (S : FnScope N ps (defScope st)) (len : ∀ vs H Q E, sp vs H Q E → vs.length = ps.length)
    (reads : ∀ (cdv : Value) (A : Around) (outer : List Env) (u : Shared) (H : Hp) (vs : List V) (Q : VK) (E : XK), Room k (A.deeper (envOfC qual (defScope st) u.heap.objs.size f cdv)) → (A.deeper (envOfC qual (defScope st) u.heap.objs.size f cdv)).guards = some [] → sp vs H Q E →
      ∃ t, PSs (cxOf CX0 P w K mg base N qual (defScope st) f cdv A outer u H E).nox (defBody st) t ∧ t { nx := fun _ H' => Q .non H', rt := Q } (start N vs) H) : FnG P w K mg base CX0 (k + 1) f fd ps sp := by
  obtain ⟨oc, od, kV, doc, pm, an, cdv, ct, osl, rfl, lk, hcd⟩ := F.ex
  exact fn_g lk hcd S len fun A outer u H vs Q E room quiet promise => let ⟨t, h, q⟩ := reads cdv A outer u H vs Q E room quiet promise; ⟨t, h.nox, q⟩
end
end L2

/-! a def called by the names of all its parameters -/
namespace L2
open PySem PySem.Spec PyProof.Rows
section
variable {X : Cx} {CX : CXT} {k : Nat} {f : Addr} {fd : FuncData} {ps ks : List Str} {sp : Sp} {E : XK} {x : Str} {p pos : Pos} {kws : List Keyword} {tk : TA} {g : List Value → List Value → List Value} {gV : List V → List V → List V}
theorem pe_callK0 (F : FnOk X.prog X.w X.K X.mg X.base CX k f fd ps sp) (hr : Room k X.A) (hg : Gl X x) (hm : X.mg x = some (.ref f)) (hk : PySem.W.keepIn X.K (.ref f) = true) (hb : KBn X.K fd ps 0 ks g gV) (hx : Passes CX X E) (hkw : PK X kws tk)
    (named : (backToKw pos (keywordEach kws X.env)).all (·.1.isSome) = true := by rfl) (names : (backToKw pos (keywordEach kws X.env)).filterMap (·.1) = ks := by rfl) (hdb : (x == ("__debug__" : Str)) = false := by decide)
    (plain : ((backTo pos (starEach [] X.env)).any (·.1) || (backToKw pos (keywordEach kws X.env)).any (·.1.isNone)) = false := by rfl) :
    PE X (.Call (.Name x p) [] kws pos) (tCallN 0 ks.length sp gV E tNil tk) :=
  ⟨fun pins s σ H Q I h => wpAny_Call_Name_kw (ld_glob I hg hm (PySem.W.callWith_KW0 (h₀ := X.base) I.ok.mod.kin hk named (thn (hkw.run pos pins s σ H _ I h) fun ws s2 ⟨zs, H2, I2, rz, l1, l2, q2⟩ =>
    ⟨I2.kIn, by rw [names]; exact run_fnN (us := []) (vs := []) F hr hb hx I2 .nil rz rfl l2 q2⟩) plain) hdb)⟩
end
end L2

/-! repr of a dict of integers -/
namespace L2
open PySem PySem.Spec PyProof.Rows
def keyD : Key → PyData
  | .inl i => .int i
  | .inr z => .str z
def valD : V → PyData
  | .int i => .int i
  | _ => .none
def dictD (kvs : List (Key × V)) : PyData := .dict (kvs.map fun kv => (keyD kv.1, valD kv.2))
theorem pairs_read {P : Program} {w : World} {h : Heap} : ∀ {es : List DictEntry} {vs : List (Key × Value)} {kvs : List (Key × V)}, Pairs (mixKind P w) es vs → KV kvs vs → (∀ kv ∈ kvs, ∃ i : Int, kv.2 = .int i) →
    ReadsAll h (es.map (·.key)) ((kvs.map fun kv => (keyD kv.1, valD kv.2)).map (·.1)) [] ∧ ReadsAll h (es.map (·.val)) ((kvs.map fun kv => (keyD kv.1, valD kv.2)).map (·.2)) []
  | _, _, _, .nil, .nil, _ => ⟨.nil, .nil⟩
  | e :: _, c :: _, (k, v) :: kvs, .cons h1 h2 h3, .cons g1 g2, hi => by
    obtain ⟨i, hv⟩ := hi _ List.mem_cons_self
    have ih := pairs_read (h := h) h3 g2 fun kv hkv => hi kv (List.mem_cons_of_mem _ hkv)
    obtain ⟨e1, e2⟩ := g1
    have hv' : v = .int i := hv
    subst hv'
    refine ⟨?_, ?_⟩
    · refine ReadsAll.cons (as := []) (bs := []) ?_ ih.1
      show Reads h e.key (keyD k) []
      have hk : k = c.1 := e1
      rcases keyIs_shape (show keyIs c.1 e.key = true from h1) with ⟨j, t, ek, ev⟩ | ⟨z, t, ek, ev⟩
      · rw [ev, hk, ek]
        exact Reads.int j t
      · rw [ev, hk, ek]
        exact Reads.str z t
    · refine ReadsAll.cons (as := []) (bs := []) ?_ ih.2
      show Reads h e.val (.int i) []
      obtain ⟨t, et⟩ := (show RelV (V.int i) c.2 from e2)
      rw [h2, et]
      exact Reads.int i t
theorem depth_kv : ∀ kvs : List (Key × V), PyData.depthKv (kvs.map fun kv => (keyD kv.1, valD kv.2)) = 0
  | [] => rfl
  | (k, v) :: r => by
    rw [List.map_cons, PyData.depthKv, depth_kv r]
    have e1 : (keyD k).depth = 0 := by cases k <;> rfl
    have e2 : (valD v).depth = 0 := by cases v <;> rfl
    rw [e1, e2]
    rfl
theorem depth_dict (kvs : List (Key × V)) : (dictD kvs).depth = 1 := by
  unfold dictD
  rw [PyData.depth, depth_kv]
def rReprD : List V → Hp → VK → Prop := fun xs H Q => ∃ (a : Addr) (kvs : List (Key × V)), xs = [.ref a] ∧ H a = some (.dK kvs) ∧ (∀ kv ∈ kvs, ∃ i : Int, kv.2 = .int i) ∧ (dictD kvs).showable = true ∧ (dictD kvs).shown.length ≤ sizeLine ∧ Q (.str (dictD kvs).shown) H
theorem call_reprD {X : Cx} (quiet : X.A.guards = some []) (hu : X.A.units + 40 < cLine) : CallR X (.builtin "repr") rReprD := by
  intro pins s σ H xs us Q I r h
  obtain ⟨a, kvs, rfl, ha, hint, hshow, hsize, q⟩ := h
  cases r with
  | cons r1 r2 =>
    cases r2
    cases r1
    obtain ⟨hlen, hsys, vs, kv, o, es, ep, ho, hex, hdat, hkeys, hpairs, hnd⟩ := I.hok a _ ha
    obtain ⟨k1, k2⟩ := pairs_read (h := s.heap) hpairs kv hint
    have rd : Reads s.heap (.ref a) (dictD kvs) (a :: [] ++ []) := Reads.dict ho hex.1 hdat k1 k2
    refine repr_of_reads' rd hshow (fun _ hm => ?_) quiet (by rw [depth_dict]; omega) (fun _ _ e => e) (fun h' u tk hk => ⟨.str (dictD kvs).shown, H, I.kept fun b o e => hk b o e, ⟨u, rfl⟩, q⟩) hsize
    simp at hm
    simp [hm] at hsys
end L2

/-! the text of a dict of integers is short -/
namespace L2
open PySem PySem.Spec PyProof.Rows
theorem piled_le {B : Nat} : ∀ {ts : List Str}, (∀ t ∈ ts, t.length ≤ B) → piled ts ≤ ts.length * (B + 2)
  | [], _ => by simp [piled]
  | t :: r, h => by
    have ih := piled_le (ts := r) fun u hu => h u (List.mem_cons_of_mem _ hu)
    have := h t List.mem_cons_self
    rw [piled_cons, List.length_cons, Nat.add_mul]
    omega
theorem dictText_le {B : Nat} {ts : List Str} (h : ∀ t ∈ ts, t.length ≤ B) : (dictText ts).length ≤ 2 + ts.length * (B + 2) := by
  have e : (dictText ts).length = 1 + (Str.join ", " ts).length + 1 := by
    unfold dictText
    rw [strLen_append, strLen_append]
    rfl
  by_cases hn : ts = []
  · subst hn
    rw [e]
    show 1 + 0 + 1 ≤ 2 + 0 * (B + 2)
    omega
  · have h2 := join_length_add ts hn
    have h3 := piled_le h
    omega
theorem shownKv_eq2 : ∀ kvs : List (Key × V), PyData.shownKv (kvs.map fun kv => (keyD kv.1, valD kv.2)) = kvs.map fun kv => (keyD kv.1).shown ++ ": " ++ (valD kv.2).shown
  | [] => rfl
  | (k, v) :: r => by
    rw [List.map_cons, PyData.shownKv, shownKv_eq2 r]
    rfl
/-- at most a thousand entries, each key's and each value's text of at most five hundred signs -/
theorem dict_short {kvs : List (Key × V)} (hl : kvs.length ≤ 1000) (h : ∀ kv ∈ kvs, (keyD kv.1).shown.length ≤ 500 ∧ (valD kv.2).shown.length ≤ 500) : (dictD kvs).shown.length ≤ sizeLine := by
  unfold dictD
  rw [PyData.shown, shownKv_eq2]
  refine Nat.le_trans (dictText_le (B := 1002) fun t ht => ?_) ?_
  · obtain ⟨kv, hkv, rfl⟩ := List.mem_map.mp ht
    obtain ⟨h1, h2⟩ := h kv hkv
    rw [strLen_append, strLen_append]
    have : (": " : Str).length = 2 := rfl
    omega
  · rw [List.length_map]
    have h1 : sizeLine = 16777216 := rfl
    rw [h1]
    omega
theorem show_kv : ∀ {kvs : List (Key × V)}, (∀ kv ∈ kvs, (keyD kv.1).showable = true ∧ (valD kv.2).showable = true) → PyData.showableKv (kvs.map fun kv => (keyD kv.1, valD kv.2)) = true
  | [], _ => rfl
  | (k, v) :: r, h => by
    obtain ⟨h1, h2⟩ := h _ List.mem_cons_self
    rw [List.map_cons, PyData.showableKv, show_kv fun kv hkv => h kv (List.mem_cons_of_mem _ hkv)]
    rw [show (keyD k).showable = true from h1, show (valD v).showable = true from h2]
    rfl
theorem show_str {z : Str} : (PyData.str z).showable = true := by rw [PyData.showable]
theorem show_int {i : Int} (h : i.natAbs < 2 ^ 400) : (PyData.int i).showable = true := by
  rw [PyData.showable]
  refine decide_eq_true ?_
  by_cases h0 : i.natAbs = 0
  · rw [h0]; decide
  · exact Nat.lt_of_lt_of_le ((Nat.log2_lt h0).mpr h) (by decide)
theorem str_short {z : Str} (h : z.length ≤ 40) (hc : ∀ c ∈ z.cps.toList, c < 16 ^ 8) : (PyData.str z).shown.length ≤ 500 := by
  rw [PyData.shown]
  have := StrLaws.reprText_len z hc
  omega
theorem int_short {i : Int} (h : i.natAbs < 2 ^ 400) : (PyData.int i).shown.length ≤ 500 := by
  rw [PyData.shown]
  have hl : i.natAbs.log2 < 400 := by
    by_cases h0 : i.natAbs = 0
    · rw [h0]; decide
    · exact (Nat.log2_lt h0).mpr h
  have := int_text_length_le (by decide : 0 < 400) hl
  show (Str.ofString (toString i)).length ≤ 500
  rw [PySem.ofString_length]
  omega
end L2

namespace RK
open PySem L2
theorem nodup_sub {α : Type} [DecidableEq α] : ∀ {l m : List α}, l.Nodup → (∀ x ∈ l, x ∈ m) → l.length ≤ m.length
  | [], _, _, _ => Nat.zero_le _
  | x :: r, m, hn, h => by
    have hx := h x List.mem_cons_self
    obtain ⟨h1, h2⟩ := List.nodup_cons.mp hn
    have ih := nodup_sub (l := r) (m := m.erase x) h2 fun y hy => (List.mem_erase_of_ne (fun (z : y = x) => h1 (z ▸ hy))).mpr (h y (List.mem_cons_of_mem _ hy))
    rw [List.length_erase_of_mem hx] at ih
    have : 0 < m.length := List.length_pos_of_mem hx
    rw [List.length_cons]
    omega
theorem val_key {kvs : List (Key × V)} {k : Key} {v : V} (h : valV kvs k = some v) : k ∈ kvs.map (·.1) := by
  unfold valV at h
  cases e : kvs.find? fun kv => decide (kv.1 = k) with
  | none => rw [e] at h; cases h
  | some kv =>
    have h1 : kv.1 = k := of_decide_eq_true (List.find?_some (p := fun kv : Key × V => decide (kv.1 = k)) e)
    exact List.mem_map.mpr ⟨kv, List.mem_of_find?_eq_some e, h1⟩
/-- a dict with a key that is no walker's is no stand -/
theorem late_none {zs : List Str} {kvs : List (Key × V)} {k : Str} {v : V} (hnd : zs.Nodup) (hz : k ∉ zs) (hk : valV kvs (Sum.inr k : Key) = some v) : standB zs kvs = false := by
  cases h : standB zs kvs with
  | false => rfl
  | true =>
    have hd := (Bool.and_eq_true_iff.mp h).1
    unfold dictB at hd
    obtain ⟨h1, h2⟩ := Bool.and_eq_true_iff.mp hd
    have hl : kvs.length = zs.length := of_decide_eq_true h1
    have hall := List.all_eq_true.mp h2
    have q := nodup_sub (l := ((k :: zs).map fun z => (Sum.inr z : Key))) (m := kvs.map (·.1)) (nodup_keys (List.nodup_cons.mpr ⟨hz, hnd⟩)) fun x hx => by
      obtain ⟨z, hm, rfl⟩ := List.mem_map.mp hx
      rcases List.mem_cons.mp hm with e | e
      · rw [e]; exact val_key hk
      · have := hall z e
        cases e2 : valV kvs (Sum.inr z : Key) with
        | none => rw [e2] at this; cases this
        | some u => exact val_key e2
    simp only [List.length_map, List.length_cons] at q
    omega
theorem pool_len : ∀ z ∈ pool, z.length ≤ 1000 := by decide +kernel
theorem late_pool : ("late" : Str) ∉ pool := by decide +kernel
theorem find_congr {α : Type} {p q : α → Bool} : ∀ {l : List α}, (∀ x ∈ l, p x = q x) → l.find? p = l.find? q
  | [], _ => rfl
  | x :: r, h => by
    rw [List.find?_cons, List.find?_cons, h x List.mem_cons_self, find_congr fun y hy => h y (List.mem_cons_of_mem _ hy)]
theorem next_congr {zs : List Str} {kvs kvs' : List (Key × V)} (h : ∀ z ∈ zs, placeOf kvs' z = placeOf kvs z) {z : Str} (hz : z ∈ zs) : nextOf zs kvs' z = nextOf zs kvs z := by
  unfold nextOf
  exact find_congr fun y hy => by rw [h y hy, h z hz]
theorem same_strs {G : Hp} {a b : Addr} {l : List Str} {n : Nat} (ha : G a = some (.lst (l.map V.str))) (hb : G b = some (.lst (l.map V.str))) (hl : l.length ≤ 1000) (hz : ∀ z ∈ l, z.length ≤ 1000) : SameD G (n + 1) (.ref a) (.ref b) :=
  .lst ha hb rfl (by rw [List.length_map]; exact hl) fun i x y e1 e2 => by
    rw [e1] at e2; cases e2
    obtain ⟨z, hz1, rfl⟩ := get_map e1
    exact .str (hz z (List.mem_of_getElem? hz1))
theorem st_nil {σ : St} {H : Hp} {k : List V → Hp → Prop} (h : k [] H) : tNil σ H k := h
theorem text_ok {zs ks : List Str} {kvs : List (Key × V)} (hst : Sta zs ks kvs) (hz : ∀ z ∈ zs, z ∈ pool) (hl : zs.length ≤ 1000) (hb : ∀ z ∈ zs, (placeOf kvs z).natAbs < 2 ^ 100) :
    (∀ kv ∈ kvs, ∃ i : Int, kv.2 = .int i) ∧ (dictD kvs).showable = true ∧ (dictD kvs).shown.length ≤ sizeLine := by
  have hk : ∀ kv ∈ kvs, ∃ z, z ∈ zs ∧ kv = ((Sum.inr z : Key), V.int (placeOf kvs z)) := fun kv hm => by
    rw [hst.eq] at hm
    obtain ⟨y, hy, e⟩ := List.mem_map.mp hm
    exact ⟨y, hst.pm.mem_iff.mp hy, e.symm⟩
  have hint : ∀ z ∈ zs, (placeOf kvs z).natAbs < 2 ^ 400 := fun z h => Nat.lt_of_lt_of_le (hb z h) (Nat.pow_le_pow_right (by decide) (by decide))
  have hp : ∀ z ∈ pool, z.length ≤ 40 ∧ ∀ c ∈ z.cps.toList, c < 16 ^ 8 := by decide +kernel
  refine ⟨fun kv hm => ?_, ?_, ?_⟩
  · obtain ⟨z, _, rfl⟩ := hk kv hm
    exact ⟨_, rfl⟩
  · unfold dictD
    rw [PyData.showable]
    refine show_kv fun kv hm => ?_
    obtain ⟨z, h, rfl⟩ := hk kv hm
    exact ⟨show_str, show_int (hint z h)⟩
  · refine dict_short (by rw [hst.len]; exact hl) fun kv hm => ?_
    obtain ⟨z, h, rfl⟩ := hk kv hm
    obtain ⟨h1, h2⟩ := hp z (hz z h)
    exact ⟨str_short h1 h2, int_short (hint z h)⟩
theorem scan_none : ∀ {r seen : List Str}, (seen ++ r).Nodup → Nm r → 2 ≤ (seen ++ r).length → scan (seen.map V.str) (r.map V.str) = none
  | [], seen, _, _, h2 => by
    rw [List.append_nil] at h2
    show (if _ then _ else _) = _
    rw [if_neg (by rw [List.length_map]; omega)]
  | z :: r, seen, hnd, hnm, h2 => by
    have e : seen ++ z :: r = (seen ++ [z]) ++ r := by simp
    have hz : z ∉ seen := fun hm => by
      have := (List.nodup_append.mp hnd).2.2 z hm z List.mem_cons_self
      exact this rfl
    have hn : nameV (.str z) = true := hnm z List.mem_cons_self
    rw [List.map_cons]
    show (if _ then _ else _) = _
    have hd : decide (V.str z ∈ seen.map V.str) = false := decide_eq_false fun q => by
      obtain ⟨u, hu, e⟩ := List.mem_map.mp q
      cases e
      exact hz hu
    rw [if_pos (by rw [hn, hd]; rfl)]
    have := scan_none (r := r) (seen := seen ++ [z]) (by rw [← e]; exact hnd) (fun y hy => hnm y (List.mem_cons_of_mem _ hy)) (by rw [← e]; exact h2)
    rw [List.map_append] at this
    exact this
theorem str_inj : ∀ {l m : List Str}, l.map V.str = m.map V.str → l = m
  | [], [], _ => rfl
  | [], _ :: _, h => by cases h
  | _ :: _, [], h => by cases h
  | x :: l, y :: m, h => by
    rw [List.map_cons, List.map_cons] at h
    obtain ⟨h1, h2⟩ := List.cons.inj h
    cases h1
    rw [str_inj h2]
theorem same_first {G : Hp} {a b : Addr} {zs : List Str} (ha : G a = some (.dK (firstKv zs))) (hb : G b = some (.dK (firstKv zs))) (hl : zs.length ≤ 1000) (hz : ∀ z ∈ zs, z.length ≤ 1000) : SameD G 3 (.ref a) (.ref b) := by
  refine .dict (n := 0) ha hb rfl (by unfold firstKv; rw [List.length_map, List.length_zipIdx]; exact hl) (fun i p q e1 e2 => ?_) fun i p q e1 e2 => ?_
  · rw [e1] at e2; cases e2
    refine ⟨rfl, ?_⟩
    unfold firstKv at e1
    obtain ⟨x, hx, rfl⟩ := List.mem_map.mp (List.mem_of_getElem? e1)
    exact hz _ (List.fst_mem_of_mem_zipIdx hx)
  · rw [e1] at e2; cases e2
    unfold firstKv at e1
    obtain ⟨x, hx, rfl⟩ := List.mem_map.mp (List.mem_of_getElem? e1)
    exact .int _
theorem But.fresh {H H' : Hp} {a : Addr} (b : But a H H') (h : H a = none) : Same H H' := fun c o e => b c o (ne_of_none e h) e
theorem st_cons {ta : TE} {t : TA} {σ : St} {H : Hp} {k : List V → Hp → Prop} (h : ta σ H fun x H1 => t σ H1 fun xs H2 => k (x :: xs) H2) : tCons ta t σ H k := h
theorem st_c {v : V} {σ : St} {H : Hp} {Q : VK} (h : Q v H) : L2.tC v σ H Q := h
theorem init_good {K : PySem.W.Frag} {C CB : Addr} {x dx av : Addr} {kd : Kd} {zs : List Str} {H : Hp} {Q : VK} {E : XK} (hx : H x = none) (hdx : H dx = none) (hseq : SeqAt2 H av (zs.map V.str) kd) (hnd : zs.Nodup) (hnm : Nm zs) (hz : ∀ z ∈ zs, z.length ≤ 1000) (h2 : 2 ≤ zs.length) (hl : zs.length ≤ 1000)
    (h : ∀ t H', PathAt C H' x t zs → Same H H' → Q .non H') : spInit K C CB [.ref x, .ref av] (upd (upd H dx (.own x)) x (.ins C dx [])) Q E := by
  have hwn : wrongIx (zs.map V.str) = none := scan_none (seen := []) hnd hnm h2
  have s5 : Same H (upd (upd H dx (.own x)) x (.ins C dx [])) := fun b u e => by
    rw [upd_ne (ne_of_none e hx), upd_ne (ne_of_none e hdx)]
    exact e
  refine ⟨x, dx, .ref av, kd, rfl, upd_same, (hseq.same s5).th.1, fun hk => absurd (hseq.th (K := K)).2 (by rw [hk]; exact Bool.false_ne_true), fun _ => ?_⟩
  refine ⟨av, zs.map V.str, rfl, hseq.same s5, by rw [List.length_map]; exact hl, fun y hy => ?_, fun i hi => absurd (hwn.symm.trans hi) (fun q => nomatch q), fun _ zs' t H5 hxs hpa hbut => ?_⟩
  · obtain ⟨z, hm, rfl⟩ := List.mem_map.mp hy
    exact ⟨_, .str (hz z hm)⟩
  · cases str_inj hxs
    exact h t H5 hpa fun b u e => hbut b u (s5 b u e) (ne_of_none e hx)
end RK

/-! l.count(x), items data of any depth -/
namespace L2
open PySem PySem.Spec PyProof.Rows
section
variable {X : Cx}
def rCountD (K : PySem.W.Frag) : V → List V → Hp → VK → Prop := fun x xs H Q => ∃ (a : Addr) (y : V) (d : PyData) (ds : List PyData), x = V.ref a ∧ xs = [y] ∧ Dp K H (V.ref a) (.list ds) ∧ Dp K H y d ∧ SeqAt.shaped (.list ds) = true ∧ SeqAt.shaped d = true ∧ Q (.int ((ds.countP fun z => PyData.eqv z d) : Nat)) H
theorem mt_countD (hu : X.A.units + 65 < cLine) : MtR X "list.count" (rCountD X.K) := by
  intro pins s σ H x xs v us Q I rx rxs h
  obtain ⟨a, y, d, ds, rfl, rfl, hl, hy, sl, sd, q⟩ := h
  cases rx
  obtain ⟨uy, rfl, ry⟩ := rxs.one
  obtain ⟨bs, r1⟩ := Dp.reads I d y uy hy ry
  have lay : PyData.canLayAll0 ds = true := SeqAt.canLay_of_shaped sl
  have deep : X.A.units + 1 + min (PyData.depthAll ds) d.depth < cLine := room_in_shaped sd hu
  cases hl with
  | lst hs ha =>
    obtain ⟨its, rv, ⟨⟨cls, dd, data, sls⟩, n, ho, hc, hdn, hdt⟩, hlen⟩ := I.list hs
    simp only at hc hdt
    subst hc hdt
    obtain ⟨as, h4⟩ := Dp.readsAll I ds _ its ha rv
    have same : its.map (SeqAt.readOf s.heap) = ds := SeqAt.readsAll_map ds its as lay h4
    refine call_meets PySem.F.slot_list_count ⟨_, ho, rfl⟩ PySem.F.entry_list_count (PySem.F.args_list_count_2 _ _)
      (SeqAt.list_countAt a its.toArray n dd sls uy (fun u => PyData.eqv (SeqAt.readOf s.heap u) d)) ⟨ho, SeqAt.items_eqAt (vs := its.toArray) (show ReadsAll s.heap its.toArray.toList ds as from h4) r1 lay (SeqAt.canLay_of_shaped sd) deep, ?_⟩
    have e : its.toArray.toList.countP (fun u => PyData.eqv (SeqAt.readOf s.heap u) d) = ds.countP fun z => PyData.eqv z d := by
      rw [← same, List.countP_map]
      rfl
    exact ⟨.int ((ds.countP fun z => PyData.eqv z d) : Nat), H, I.tok _, ⟨s.toks, by rw [e]⟩, q⟩
end
/-! pairs of texts -/
def prS (p : Str × Str) : PyData := .tuple [.str p.1, .str p.2]
def okS (p : Str × Str) : Prop := PyData.strOk p.1 = true ∧ PyData.strOk p.2 = true
theorem prS_lay {p : Str × Str} (h : okS p) : (prS p).canLay0 = true := by simp [prS, PyData.canLay0, PyData.canLayAll0, h.1, h.2]
theorem prS_depth (p : Str × Str) : (prS p).depth = 1 := by simp [prS, PyData.depth, PyData.depthAll]
theorem prS_lays : ∀ {l : List (Str × Str)}, (∀ p ∈ l, okS p) → PyData.canLayAll0 (l.map prS) = true
  | [], _ => by simp [PyData.canLayAll0]
  | p :: l, h => by
    have h1 := prS_lay (h p List.mem_cons_self)
    have h2 := prS_lays (l := l) fun q hq => h q (List.mem_cons_of_mem _ hq)
    simp [PyData.canLayAll0, h1, h2]
theorem prS_depths : ∀ l : List (Str × Str), PyData.depthAll (l.map prS) ≤ 1
  | [] => by simp [PyData.depthAll]
  | p :: l => by
    have h1 := prS_depths l
    have h2 := prS_depth p
    simp only [List.map_cons, PyData.depthAll]
    omega
theorem prS_shaped {p : Str × Str} (h : okS p) : SeqAt.shaped (prS p) = true := by
  show ((prS p).canLay0 && decide ((prS p).depth ≤ 64)) = true
  rw [prS_lay h, prS_depth p]
  rfl
theorem prS_shapeds {l : List (Str × Str)} (h : ∀ p ∈ l, okS p) : SeqAt.shaped (.list (l.map prS)) = true := by
  have h1 := prS_depths l
  have h2 : PyData.depth (.list (l.map prS)) ≤ 64 := by
    simp only [PyData.depth]
    omega
  show (PyData.canLay0 (.list (l.map prS)) && decide (PyData.depth (.list (l.map prS)) ≤ 64)) = true
  rw [Bool.and_eq_true]
  exact ⟨by simp only [PyData.canLay0]; exact prS_lays h, decide_eq_true h2⟩
theorem prS_eqv (p q : Str × Str) : PyData.eqv (prS p) (prS q) = decide (p = q) := by
  obtain ⟨a, b⟩ := p
  obtain ⟨c, d⟩ := q
  have e : PyData.eqv (prS (a, b)) (prS (c, d)) = ((a == c) && ((b == d) && true)) := by simp only [prS, PyData.eqv, PyData.eqvAll]
  rw [e]
  by_cases h1 : a = c
  · by_cases h2 : b = d
    · subst h1; subst h2
      simp
    · rw [beq_eq_false_iff_ne.mpr h2, Bool.false_and, Bool.and_false, decide_eq_false (fun q => h2 (Prod.mk.inj q).2)]
  · rw [beq_eq_false_iff_ne.mpr h1, Bool.false_and, decide_eq_false (fun q => h1 (Prod.mk.inj q).1)]
theorem prS_dp {K : PySem.W.Frag} {H : Hp} {t : Addr} {a b : Str} (h : H t = some (.tup [.str a, .str b])) : Dp K H (.ref t) (prS (a, b)) := .tup (SqT.of h) (.cons (.str a) (.cons (.str b) .nil))
end L2

namespace RK
open PySem L2
/-! ### the law's own net -/
def qN (zs : List Str) (kvs : List (Key × V)) (a b : Str) : Int := (placeOf kvs a - placeOf kvs b) / (zs.length : Int)
/-- the net by places -/
def netP (zs : List Str) (kvs : List (Key × V)) (a b : Str) : Int := qN zs kvs a b - (((zs.idxOf a : Nat) : Int) - ((zs.idxOf b : Nat) : Int)) / (zs.length : Int)
theorem idx_str {zs : List Str} {a : Str} (h : a ∈ zs) : (zs.map V.str)[zs.idxOf a]? = some (.str a) ∧ ∀ (m : Nat) (z' : V), m < zs.idxOf a → (zs.map V.str)[m]? = some z' → eqV z' (.str a) = false := by
  have hl := List.idxOf_lt_length_of_mem h
  refine ⟨?_, fun m z' hm hz => ?_⟩
  · rw [List.getElem?_map, List.getElem?_eq_getElem hl, List.getElem_idxOf hl]
    rfl
  · obtain ⟨z, e, rfl⟩ := get_map hz
    obtain ⟨h1, h2⟩ := List.getElem?_eq_some_iff.mp e
    show decide (z = a) = false
    refine decide_eq_false fun q => ?_
    have := List.not_of_lt_findIdx (p := (· == a)) (xs := zs) hm
    subst q
    rw [h2] at this
    simp at this

def spWNet : Sp := fun vs H Q _ => ∃ (d : Addr) (zs : List Str) (kvs : List (Key × V)) (a b : Str), vs = [.ref d, .str a, .str b] ∧ H d = some (.dK kvs) ∧ Sta zs zs kvs ∧ a ∈ zs ∧ b ∈ zs ∧ zs.length ≤ 1000 ∧ ∀ H', Same H H' → Q (.int (netP zs kvs a b)) H'
section
variable {P : Program} {w : World} {K : PySem.W.Frag} {mg : Str → Option Value} {base : Heap}
theorem scWNet : FnScope ["stand", "one", "other", "names", "then"] ["stand", "one", "other"] (defScope sWNet) := ⟨rfl, rfl, rfl, by decide +kernel, rfl, by decide +kernel, by decide +kernel⟩
theorem ok_wnet {f : Addr} {fd : FuncData} (F : Fun K "_law_w_net" "_law_w_net" sWNet f fd) (B : B0 K mg) : FnOk P w K mg base CX0 1 f fd ["stand", "one", "other"] spWNet := by
  refine F.ok scWNet (fun vs H Q E h => ?_) (fun cdv A outer s H vs Q E hr h => ?_)
  · obtain ⟨d, zs, kvs, a, b, rfl, _⟩ := h
    rfl
  · obtain ⟨d, zs, kvs, a, b, rfl, hd, hst, ha, hb, hl, q⟩ := h
    have hu := hu_of hr
    refine ⟨_, pss_cons (ps_set (i := 3) scWNet.nd rfl (Or.inl rfl) (pe_callTy (call_list_dK rfl) (by rfl) B.list (by decide +kernel) (pa_cons (pv 0) pa_nil)))
      (pss_cons (ps_set (i := 4) scWNet.nd rfl (Or.inl rfl) (pe_op op_fdivW (pe_callTy call_int1 (by rfl) B.int (by decide +kernel) (pa_cons (pe_op op_sub (pe_bm PySem.F.plainAttrs_list PySem.F.slot_list_index PySem.F.type_list_index mt_index (pv 3) (pa_cons (pv 1) pa_nil)) (pe_bm PySem.F.plainAttrs_list PySem.F.slot_list_index PySem.F.type_list_index mt_index (pv 3) (pa_cons (pv 2) pa_nil))) pa_nil)) (pe_callB call_len_seq (by rfl) B.len PySem.boot_len (pa_cons (pv 3) pa_nil))))
      (pss_one (ps_ret (pe_op op_sub (pe_op op_fdivW (pe_callTy call_int1 (by rfl) B.int (by decide +kernel) (pa_cons (pe_op op_sub (pe_dget hu (pv 0) (pv 1) (fun _ _ => rfl)) (pe_dget hu (pv 0) (pv 2) (fun _ _ => rfl))) pa_nil)) (pe_callB call_len_seq (by rfl) B.len PySem.boot_len (pa_cons (pv 3) pa_nil))) (pv 4))))), ?_⟩
    have h0 : 0 < zs.length := List.length_pos_of_mem ha
    refine ⟨_, rfl, d, kvs, rfl, hd, fun L hL => ?_⟩
    have hkl : (kvs.map fun kv => kV kv.1) = zs.map V.str := by rw [hst.kv]; exact keys_list
    rw [hkl]
    have s1 := same_upd (o := .lst (zs.map V.str)) hL
    have e1 : (upd H L (.lst (zs.map V.str))) L = some (.lst (zs.map V.str)) := upd_same
    generalize upd H L (.lst (zs.map V.str)) = H1 at s1 e1
    have hfl : (zs.map V.str).all flatV = true := List.all_eq_true.mpr fun x hx => by
      obtain ⟨z, _, rfl⟩ := List.mem_map.mp hx
      rfl
    have hdv : (zs.length : Int).natAbs < 2 ^ 60 := by
      have : (2 : Nat) ^ 60 = 1152921504606846976 := by decide
      omega
    obtain ⟨ja, jb⟩ := idx_str ha
    obtain ⟨ka, kb⟩ := idx_str hb
    have hd1 := s1 _ _ hd
    have lp : (0 : Int) < (zs.length : Int) := by omega
    refine ⟨_, rfl, .inl ⟨rfl, _, SqL.of e1⟩, _, rfl, L, _, .str a, zs.idxOf a, _, rfl, rfl, SqL.of e1, rfl, hfl, ja, decide_eq_true rfl, jb, ?_⟩
    refine ⟨_, rfl, .inl ⟨rfl, _, SqL.of e1⟩, _, rfl, L, _, .str b, zs.idxOf b, _, rfl, rfl, SqL.of e1, rfl, hfl, ka, decide_eq_true rfl, kb, ?_⟩
    refine ⟨_, _, rfl, rfl, .inl ⟨_, rfl, _, rfl, L, _, rfl, .inl (SqL.of e1), ?_⟩⟩
    rw [List.length_map]
    refine ⟨_, _, rfl, rfl, wide_div (b := 60) lp hdv (by decide) (by decide), ?_⟩
    refine ⟨_, rfl, _, rfl, d, _, rfl, hst.val ha ▸ DGet.k (k := (Sum.inr a : Key)) hd1, _, rfl, _, rfl, d, _, rfl, hst.val hb ▸ DGet.k (k := (Sum.inr b : Key)) hd1, _, _, rfl, rfl, .inl ⟨_, rfl, _, rfl, L, _, rfl, .inl (SqL.of e1), ?_⟩⟩
    rw [List.length_map]
    exact ⟨_, _, rfl, rfl, wide_div (b := 60) lp hdv (by decide) (by decide), _, rfl, _, _, rfl, rfl, q H1 s1⟩
end
end RK

/-! a walk with any body: for comprehensions of two clauses -/
namespace L2
open PySem PySem.Spec PyProof.Rows
theorem lcg_it {J : It} {n : Nat} {G : Hp → Prop} {Y : Nat → Hp → V → Hp → Prop} (w : Walk J n G Y) {Bd : (Hp → Prop) → V → Hp → Prop} {H0 : Hp} {Qd : Hp → Prop} (Pv : Nat → Hp → Prop) (h0 : Pv 0 H0) (hG : ∀ i H, i ≤ n → Pv i H → G H)
    (hs : ∀ i x H H', i < n → Pv i H → Y i H x H' → Bd (Pv (i + 1)) x H') (hd : ∀ H, Pv n H → Qd H) :
    ∃ W : Nat → Nat → Hp → Prop, (∃ m, W 0 m H0) ∧ ∀ i m H, W i m H →
      (J.stop i H ∧ Qd H) ∨ (J.go i H ∧ ∃ Nx : Hp → Prop, (∀ H', Nx H' → ∃ m', m' < m ∧ W (i + 1) m' H') ∧ ∀ x H', J.yld i H x H' → Bd Nx x H') := by
  refine ⟨fun i m H => m = n - i ∧ i ≤ n ∧ Pv i H, ⟨n, by simp, Nat.zero_le _, h0⟩, ?_⟩
  rintro i m H ⟨rfl, hi, p⟩
  have q := hG i H hi p
  by_cases hlt : i < n
  · exact .inr ⟨w.goes i H hlt q, Pv (i + 1), fun H' p' => ⟨n - (i + 1), by omega, rfl, hlt, p'⟩, fun x H' y => hs i x H H' hlt p (w.yields i H x H' hlt q y)⟩
  · have e : i = n := by omega
    subst e
    exact .inl ⟨w.stops H q, hd H p⟩
end L2

namespace RK
open PySem L2
/-! ### pairs of names -/
def pairsFrom (zs : List Str) : List Str → List (Str × Str)
  | [] => []
  | a :: r => (zs.filter fun b => decide (a ≠ b)).map (fun b => (a, b)) ++ pairsFrom zs r
def pairsOf (zs : List Str) : List (Str × Str) := pairsFrom zs zs
def pairsAhead : List Str → List (Str × Str)
  | [] => []
  | a :: r => r.map (fun b => (a, b)) ++ pairsAhead r
theorem paired_cat {α β : Type} {F : α → β → Prop} : ∀ {a : List α} {b : List β} {c : List α} {d : List β}, Paired F a b → Paired F c d → Paired F (a ++ c) (b ++ d)
  | [], [], _, _, .nil, h => h
  | _ :: _, _ :: _, _, _, .cons h r, q => .cons h (paired_cat r q)
/-- what is laid at the list D so far, with what is still to come, is all -/
def LaidP (D : Addr) (all rem : List (Str × Str)) (G : Hp) : Prop := ∃ (ts : List Addr) (rn : List (Str × Str)), G D = some (.lst (ts.map V.ref)) ∧ Paired (fun (t : Addr) (pr : Str × Str) => t ≠ D ∧ G t = some (.tup [.str pr.1, .str pr.2])) ts rn ∧ rn ++ rem = all
theorem LaidP.len {D : Addr} {all rem : List (Str × Str)} {G : Hp} (h : LaidP D all rem G) : ∃ acc, G D = some (.lst acc) ∧ acc.length ≤ all.length := by
  obtain ⟨ts, rn, h1, h2, h3⟩ := h
  refine ⟨_, h1, ?_⟩
  rw [List.length_map, Paired.length h2, ← h3, List.length_append]
  omega
theorem LaidP.step {D T : Addr} {all rem : List (Str × Str)} {G G1 : Hp} {p : Str × Str} (h : LaidP D all (p :: rem) G) (hT : G T = none) (e : upd G T (.tup [.str p.1, .str p.2]) = G1) : ∃ acc, G1 D = some (.lst acc) ∧ acc.length < all.length ∧ LaidP D all rem (upd G1 D (.lst (acc ++ [.ref T]))) := by
  obtain ⟨ts, rn, h1, h2, h3⟩ := h
  have s : Same G G1 := e ▸ same_upd hT
  have hTD : T ≠ D := Ne.symm (ne_of_none h1 hT)
  refine ⟨_, s _ _ h1, ?_, ts ++ [T], rn ++ [p], by rw [upd_same, List.map_append]; rfl, ?_, by rw [List.append_assoc]; exact h3⟩
  · rw [List.length_map, Paired.length h2, ← h3, List.length_append, List.length_cons]
    omega
  · exact paired_cat (Paired.mono (fun u q z => ⟨z.1, by rw [upd_ne z.1]; exact s _ _ z.2⟩) h2) (.cons ⟨hTD, by rw [upd_ne hTD, ← e, upd_same]⟩ .nil)
theorem LaidP.pairs {D : Addr} {all : List (Str × Str)} {G : Hp} (h : LaidP D all [] G) : PairsAt G D all := by
  obtain ⟨ts, rn, h1, h2, h3⟩ := h
  rw [List.append_nil] at h3
  exact ⟨ts, h1, h3 ▸ h2⟩
theorem cut_take {xs : List V} {k : Nat} (h : k ≤ xs.length) : cutV xs none (some (k : Int)) = xs.take k := by
  unfold cutV
  rw [HT.sIx_nat, HT.sIx_none, Nat.min_eq_left h]
  rfl
theorem cut_drop {xs : List V} {k : Nat} (h : k ≤ xs.length) : cutV xs (some (k : Int)) none = xs.drop k := by
  unfold cutV
  rw [HT.sIx_nat, HT.sIx_none, Nat.min_eq_left h]
  exact List.take_of_length_le (by rw [List.length_drop]; exact Nat.le_refl _)
theorem from_len {zs : List Str} : ∀ {r : List Str}, (pairsFrom zs r).length ≤ zs.length * r.length
  | [] => Nat.zero_le _
  | a :: r => by
    have h := from_len (zs := zs) (r := r)
    have h1 := List.length_filter_le (fun b => decide (a ≠ b)) zs
    show ((zs.filter fun b => decide (a ≠ b)).map (fun b => (a, b)) ++ pairsFrom zs r).length ≤ _
    rw [List.length_append, List.length_map, List.length_cons, Nat.mul_succ]
    omega
theorem ahead_len : ∀ {r : List Str}, (pairsAhead r).length ≤ r.length * r.length
  | [] => Nat.zero_le _
  | a :: r => by
    have h := ahead_len (r := r)
    show (r.map (fun b => (a, b)) ++ pairsAhead r).length ≤ _
    rw [List.length_append, List.length_map, List.length_cons, Nat.succ_mul, Nat.mul_succ]
    omega
theorem sq_room {n : Nat} (h : n ≤ 1000) : n * n < sizeLine := Nat.lt_of_le_of_lt (Nat.mul_le_mul h h) (by decide)
def spPairsOf : Sp := fun vs H Q _ => ∃ (n : Addr) (zs : List Str), vs = [.ref n] ∧ H n = some (.lst (zs.map V.str)) ∧ zs.length ≤ 1000 ∧ ∀ p H', H p = none → PairsAt H' p (pairsOf zs) → Same H H' → Q (.ref p) H'
def spPairsAh : Sp := fun vs H Q _ => ∃ (n : Addr) (zs : List Str), vs = [.ref n] ∧ H n = some (.lst (zs.map V.str)) ∧ zs.length ≤ 1000 ∧ ∀ p H', H p = none → PairsAt H' p (pairsAhead zs) → Same H H' → Q (.ref p) H'
section
variable {P : Program} {w : World} {K : PySem.W.Frag} {mg : Str → Option Value} {base : Heap}
theorem scPairsOf : FnScope ["names", "one", "other"] ["names"] (defScope sPairsOf) := ⟨rfl, rfl, rfl, by decide +kernel, rfl, by decide +kernel, by decide +kernel⟩
theorem ok_pairsOf {f : Addr} {fd : FuncData} (F : Fun K "pairs_of" "pairs_of" sPairsOf f fd) : FnOk P w K mg base CX0 1 f fd ["names"] spPairsOf := by
  refine F.ok scPairsOf (fun vs H Q E h => ?_) (fun cdv A outer s H vs Q E hr h => ?_)
  · obtain ⟨n, zs, rfl, _⟩ := h
    rfl
  · obtain ⟨n, zs, rfl, hn, hl, q⟩ := h
    refine ⟨_, pss_one (ps_ret (pe_lc2 (own := [("one", 1), ("other", 2)]) (vs1 := [2]) (g := gName 1) (g1 := gName 2) (wi1 := iList K (tVar 0)) (tt := tYes) (tt1 := tTest (tOp rNe (tVar 1) (tVar 2))) (te := tTup (tCons (tVar 1) (tCons (tVar 2) tNil))) rfl scPairsOf.nd (pi_list (pv 0)) (blkOk_by (N := ["names", "one", "other"]) (sc := defScope sPairsOf) (by decide +kernel)) (by decide)
      (fun _ _ _ _ _ => pg_name (i := 1) scPairsOf.nd rfl (Or.inl rfl)) (fun _ _ _ _ _ => pts_nil) (fun _ _ _ _ _ => by exact (pi_list (pv 0))) (fun _ _ _ _ _ => pg_name (i := 2) scPairsOf.nd rfl (Or.inl rfl))
      (fun _ _ _ _ _ => by exact (pts_one (pt_cmpR op_ne (pv 1) (pv 2) (nomark _)))) (fun _ _ _ _ _ => by exact (pe_tup (pa_cons (pv 1) (pa_cons (pv 2) pa_nil)))))), ?_⟩
    have hll : (zs.map V.str).length = zs.length := List.length_map _
    refine ⟨_, rfl, n, rfl, ⟨_, SqL.of hn⟩, fun D hD => ?_⟩
    have hnD : n ≠ D := ne_of_none hn hD
    refine lcg_it (walk_list (K := K) (a := n) (xs := zs.map V.str)) (fun i G => LaidP D (pairsOf zs) (pairsFrom zs (zs.drop i)) G ∧ ∀ b o, b ≠ D → H b = some o → G b = some o) ⟨⟨[], [], upd_same, .nil, rfl⟩, fun b o hb e => by rw [upd_ne hb]; exact e⟩ (fun i G _ pv => SqL.of (pv.2 _ _ hnD hn)) ?_ ?_
    · rintro i x G G' hi ⟨hlaid, hk⟩ ⟨rfl, hx⟩
      obtain ⟨z, hz, hzm, rfl⟩ := name_at hx
      refine ⟨rfl, tyes ?_⟩
      have hkn := hk _ _ hnD hn
      rw [drop_at hz] at hlaid
      refine ⟨_, rfl, n, rfl, ⟨_, SqL.of hkn⟩, ?_⟩
      refine lcg_it (walk_list (K := K) (a := n) (xs := zs.map V.str)) (fun j G => LaidP D (pairsOf zs) (((zs.drop j).filter fun b => decide (z ≠ b)).map (fun b => (z, b)) ++ pairsFrom zs (zs.drop (i + 1))) G ∧ ∀ b o, b ≠ D → H b = some o → G b = some o) ⟨hlaid, hk⟩ (fun i G _ pv => SqL.of (pv.2 _ _ hnD hn)) ?_ ?_
      · rintro j x G1 G2 hj ⟨hl1, hk1⟩ ⟨rfl, hx1⟩
        obtain ⟨y, hy, hym, rfl⟩ := name_at hx1
        refine ⟨rfl, _, rfl, _, rfl, rfl, _, rfl, ?_⟩
        rw [drop_at hy, List.filter_cons] at hl1
        refine ite2 (fun h => ?_) (fun h => ?_)
        · have hzy : z ≠ y := fun e => by subst e; simp at h
          rw [if_pos (decide_eq_true hzy)] at hl1
          refine ⟨_, rfl, _, rfl, by show 2 ≤ sizeLine; decide, fun T hT => ?_⟩
          generalize hE : upd G2 T _ = G3
          have s3 : Same G2 G3 := hE ▸ same_upd hT
          obtain ⟨acc, e1, e2, e3⟩ := LaidP.step (p := (z, y)) hl1 hT hE
          exact ⟨acc, e1, Nat.lt_trans e2 (Nat.lt_of_le_of_lt from_len (sq_room hl)), e3, fun b o hb e => by
            rw [upd_ne hb]
            exact s3 _ _ (hk1 b o hb e)⟩
        · have hzy : z = y := Decidable.byContradiction fun e => h (by
            rw [decide_eq_false (fun q => e (by cases q; rfl))]
            rfl)
          rw [if_neg (by rw [decide_eq_false (fun q => q hzy)]; exact Bool.false_ne_true)] at hl1
          exact ⟨hl1, hk1⟩
      · rintro G1 ⟨hl1, hk1⟩
        rw [hll, List.drop_length] at hl1
        exact ⟨hl1, hk1⟩
    · rintro G ⟨hlaid, hk⟩
      rw [hll, List.drop_length] at hlaid
      refine q D G hD hlaid.pairs fun b o e => hk b o (ne_of_none e hD) e
theorem scPairsAh : FnScope ["names", "index", "one", "other"] ["names"] (defScope sPairsAhead) := ⟨rfl, rfl, rfl, by decide +kernel, rfl, by decide +kernel, by decide +kernel⟩
theorem ok_pairsAh {f : Addr} {fd : FuncData} (F : Fun K "pairs_ahead" "pairs_ahead" sPairsAhead f fd) (B : B0 K mg) : FnOk P w K mg base CX0 1 f fd ["names"] spPairsAh := by
  refine F.ok scPairsAh (fun vs H Q E h => ?_) (fun cdv A outer s H vs Q E hr h => ?_)
  · obtain ⟨n, zs, rfl, _⟩ := h
    rfl
  · obtain ⟨n, zs, rfl, hn, hl, q⟩ := h
    refine ⟨_, pss_one (ps_ret (pe_lc2 (own := [("index", 1), ("one", 2), ("other", 3)]) (vs1 := [3]) (g := gTup K 2 (gCons (gName 1) (gCons (gName 2) gNil))) (g1 := gName 3) (wi1 := iList K (tSl (rSlL K) (tVar 0) (tPart (tOp (rI0 fun i j => .int (i + j)) (tVar 1) (L2.tC (.int 1)))) tNoPart)) (tt := tYes) (tt1 := tYes) (te := tTup (tCons (tVar 2) (tCons (tVar 3) tNil))) rfl scPairsAh.nd (pi_enum (by rfl) B.enum (pa_cons (pv 0) pa_nil)) (blkOk_by (N := ["names", "index", "one", "other"]) (sc := defScope sPairsAhead) (by decide +kernel)) (by decide)
      (fun _ _ _ _ _ => by exact (pg_tup rfl (pgs_cons (pg_name (i := 1) scPairsAh.nd rfl (Or.inl rfl)) (pgs_cons (pg_name (i := 2) scPairsAh.nd rfl (Or.inl rfl)) pgs_nil)))) (fun _ _ _ _ _ => pts_nil) (fun _ _ _ _ _ => by exact (pi_list (pe_slice sl_list (pv 0) (po_some (pe_op op_add (pv 1) pe_int)) po_none))) (fun _ _ _ _ _ => pg_name (i := 3) scPairsAh.nd rfl (Or.inl rfl))
      (fun _ _ _ _ _ => pts_nil) (fun _ _ _ _ _ => by exact (pe_tup (pa_cons (pv 2) (pa_cons (pv 3) pa_nil)))))), ?_⟩
    have hll : (zs.map V.str).length = zs.length := List.length_map _
    refine ⟨_, rfl, n, _, rfl, SqL.of hn, fun D hD => ?_⟩
    have hnD : n ≠ D := ne_of_none hn hD
    refine lcg_it (walk_enum (K := K) (a := n) (xs := zs.map V.str)) (fun i G => LaidP D (pairsAhead zs) (pairsAhead (zs.drop i)) G ∧ ∀ b o, b ≠ D → H b = some o → G b = some o) ⟨⟨[], [], upd_same, .nil, rfl⟩, fun b o hb e => by rw [upd_ne hb]; exact e⟩ (fun i G _ pv => SqL.of (pv.2 _ _ hnD hn)) ?_ ?_
    · rintro i x G G' hi ⟨hlaid, hk⟩ ⟨T, u, v, rfl, hT, rfl, hu, hx⟩
      cases hu
      obtain ⟨z, hz, hzm, rfl⟩ := name_at hx
      have hiz : i < zs.length := by rw [hll] at hi; exact hi
      rw [drop_at hz] at hlaid
      have hsT := same_upd (o := .tup [V.int (i : Nat), .str z]) hT
      have eT : (upd G T (.tup [V.int (i : Nat), .str z])) T = some (.tup [V.int (i : Nat), .str z]) := upd_same
      have hl0 : LaidP D (pairsAhead zs) ((zs.drop (i + 1)).map (fun b => (z, b)) ++ pairsAhead (zs.drop (i + 1))) (upd G T (.tup [V.int (i : Nat), .str z])) := by
        obtain ⟨ts, rn, h1, h2, h3⟩ := hlaid
        exact ⟨ts, rn, hsT _ _ h1, Paired.mono (fun _ _ q => ⟨q.1, hsT _ _ q.2⟩) h2, h3⟩
      replace hk : ∀ b o, b ≠ D → H b = some o → (upd G T (.tup [V.int (i : Nat), .str z])) b = some o := fun b o hb e => hsT _ _ (hk b o hb e)
      generalize upd G T (.tup [V.int (i : Nat), .str z]) = G1 at eT hl0 hk
      refine ⟨T, _, rfl, SqT.of eT, rfl, _, _, rfl, _, _, rfl, rfl, ?_⟩
      refine ⟨rfl, tyes ?_⟩
      have hkn := hk _ _ hnD hn
      refine ⟨_, rfl, _, rfl, _, _, rfl, rfl, _, rfl, n, _, rfl, SqL.of hkn, fun S hS => ?_⟩
      have ec : cutV (zs.map V.str) (some ((i : Int) + 1)) none = (zs.drop (i + 1)).map V.str := by
        have h := cut_drop (xs := zs.map V.str) (k := i + 1) (by rw [hll]; omega)
        rw [show ((i : Int) + 1) = ((i + 1 : Nat) : Int) from by omega, h, List.map_drop]
      rw [ec]
      have hSD : S ≠ D := by
        obtain ⟨ts, rn, h1, _⟩ := hl0
        exact Ne.symm (ne_of_none h1 hS)
      generalize hE : upd G1 S _ = G2
      have s2 : Same G1 G2 := hE ▸ same_upd hS
      have eS := congrFun hE.symm S
      rw [upd_same] at eS
      clear hE
      replace hl0 : LaidP D (pairsAhead zs) ((zs.drop (i + 1)).map (fun b => (z, b)) ++ pairsAhead (zs.drop (i + 1))) G2 := by
        obtain ⟨ts, rn, h1, h2, h3⟩ := hl0
        exact ⟨ts, rn, s2 _ _ h1, Paired.mono (fun _ _ q => ⟨q.1, s2 _ _ q.2⟩) h2, h3⟩
      refine ⟨S, rfl, ⟨_, SqL.of eS⟩, ?_⟩
      refine lcg_it (walk_list (K := K) (a := S) (xs := (zs.drop (i + 1)).map V.str)) (fun j G => LaidP D (pairsAhead zs) (((zs.drop (i + 1)).drop j).map (fun b => (z, b)) ++ pairsAhead (zs.drop (i + 1))) G ∧ ∀ b o, b ≠ D → G2 b = some o → G b = some o) ⟨hl0, fun _ _ _ e => e⟩ (fun i G _ pv => SqL.of (pv.2 _ _ hSD eS)) ?_ ?_
      · rintro j x G3 G4 hj ⟨hl1, hk1⟩ ⟨rfl, hx1⟩
        obtain ⟨y, hy, hym, rfl⟩ := name_at hx1
        refine ⟨rfl, tyes ?_⟩
        rw [drop_at hy] at hl1
        refine ⟨_, rfl, _, rfl, by show 2 ≤ sizeLine; decide, fun U hU => ?_⟩
        generalize hE : upd G4 U _ = G5
        have s5 : Same G4 G5 := hE ▸ same_upd hU
        obtain ⟨acc, e1, e2, e3⟩ := LaidP.step (p := (z, y)) hl1 hU hE
        exact ⟨acc, e1, Nat.lt_trans e2 (Nat.lt_of_le_of_lt ahead_len (sq_room hl)), e3, fun b o hb e => by
          rw [upd_ne hb]
          exact s5 _ _ (hk1 b o hb e)⟩
      · rintro G3 ⟨hl1, hk1⟩
        rw [List.length_map, List.drop_length] at hl1
        exact ⟨hl1, fun b o hb e => hk1 b o hb (s2 _ _ (hk b o hb e))⟩
    · rintro G ⟨hlaid, hk⟩
      rw [hll, List.drop_length] at hlaid
      refine q D G hD hlaid.pairs fun b o e => hk b o (ne_of_none e hD) e
end
end RK

namespace RK
open PySem L2
/-! ### dicts keyed by pairs of names -/
def kP (p : Str × Str) : List Key := [Sum.inr p.1, Sum.inr p.2]
def kvP (l : List (Str × Str)) (g : Str × Str → Int) : List (List Key × V) := l.map fun p => (kP p, V.int (g p))
theorem kP_inj {p q : Str × Str} (h : kP p = kP q) : p = q := by
  unfold kP at h
  obtain ⟨h1, h2⟩ := List.cons.inj h
  obtain ⟨h3, _⟩ := List.cons.inj h2
  exact Prod.ext (Sum.inr.inj h1) (Sum.inr.inj h3)
theorem kP_kV {p : Str × Str} : (kP p).map kV = [.str p.1, .str p.2] := rfl
theorem val_new {l : List (Str × Str)} {g : Str × Str → Int} {p : Str × Str} (h : p ∉ l) : valV (kvP l g) (kP p) = none := by
  unfold valV kvP
  rw [List.find?_eq_none.mpr]
  · rfl
  · intro x hx q
    obtain ⟨y, hy, rfl⟩ := List.mem_map.mp hx
    exact h (kP_inj (of_decide_eq_true q) ▸ hy)
theorem val_P {g : Str × Str → Int} {p : Str × Str} : ∀ {l : List (Str × Str)}, p ∈ l → valV (kvP l g) (kP p) = some (.int (g p))
  | [], h => nomatch h
  | y :: r, h => by
    unfold kvP valV
    rw [List.map_cons, List.find?_cons]
    by_cases e : y = p
    · subst e
      rw [decide_eq_true rfl]
      rfl
    · rw [decide_eq_false (fun q => e (kP_inj q))]
      rcases List.mem_cons.mp h with q | q
      · exact absurd q.symm e
      · exact val_P q
theorem put_P_new {l : List (Str × Str)} {g : Str × Str → Int} {p : Str × Str} (h : p ∉ l) : putK (kvP l g) (kP p) (.int (g p)) = kvP (l ++ [p]) g := by
  rw [putK_new _ (val_new h)]
  unfold kvP
  rw [List.map_append]
  rfl
theorem put_P {l : List (Str × Str)} {g : Str × Str → Int} {p : Str × Str} {v : Int} (h : p ∈ l) : putK (kvP l g) (kP p) (.int v) = kvP l fun q => if q = p then v else g q := by
  unfold putK
  rw [if_pos]
  · unfold kvP
    rw [List.map_map]
    refine List.map_congr_left fun u hu => ?_
    show (if kP u = kP p then (kP u, V.int v) else (kP u, V.int (g u))) = (kP u, V.int (if u = p then v else g u))
    by_cases e : u = p
    · subst e; rw [if_pos rfl, if_pos rfl]
    · rw [if_neg (fun q => e (kP_inj q)), if_neg e]
  · unfold kvP
    exact List.any_eq_true.mpr ⟨_, List.mem_map.mpr ⟨p, h, rfl⟩, decide_eq_true rfl⟩
theorem kvP_congr {l : List (Str × Str)} {g g' : Str × Str → Int} (h : ∀ p ∈ l, g p = g' p) : kvP l g = kvP l g' := List.map_congr_left fun p hp => by rw [h p hp]
theorem kvP_len {l : List (Str × Str)} {g : Str × Str → Int} : (kvP l g).length = l.length := List.length_map _
/-! ### which pairs -/
theorem mem_from {zs : List Str} {a b : Str} : ∀ {r : List Str}, (a, b) ∈ pairsFrom zs r ↔ a ∈ r ∧ b ∈ zs ∧ a ≠ b
  | [] => by
    constructor
    · intro h; exact nomatch h
    · intro h; exact nomatch h.1
  | x :: r => by
    show (a, b) ∈ (zs.filter fun b => decide (x ≠ b)).map (fun b => (x, b)) ++ pairsFrom zs r ↔ _
    rw [List.mem_append, mem_from (r := r), List.mem_map]
    constructor
    · rintro (⟨y, hy, e⟩ | ⟨h1, h2⟩)
      · cases e
        obtain ⟨h1, h2⟩ := List.mem_filter.mp hy
        exact ⟨List.mem_cons_self, h1, of_decide_eq_true h2⟩
      · exact ⟨List.mem_cons_of_mem _ h1, h2⟩
    · rintro ⟨h1, h2, h3⟩
      rcases List.mem_cons.mp h1 with e | e
      · subst e
        exact .inl ⟨b, List.mem_filter.mpr ⟨h2, decide_eq_true h3⟩, rfl⟩
      · exact .inr ⟨e, h2, h3⟩
theorem mem_pairs {zs : List Str} {a b : Str} : (a, b) ∈ pairsOf zs ↔ a ∈ zs ∧ b ∈ zs ∧ a ≠ b := mem_from
theorem nodup_pair {a : Str} {l : List Str} (h : l.Nodup) : (l.map fun b => (a, b)).Nodup := nodup_inj h fun x _ y _ e => (Prod.mk.inj e).2
theorem nodup_from {zs : List Str} (hz : zs.Nodup) : ∀ {r : List Str}, r.Nodup → (pairsFrom zs r).Nodup
  | [], _ => List.nodup_nil
  | x :: r, h => by
    obtain ⟨h1, h2⟩ := List.nodup_cons.mp h
    refine List.nodup_append.mpr ⟨nodup_pair (hz.filter _), nodup_from hz h2, ?_⟩
    rintro p hp q hq rfl
    obtain ⟨y, _, rfl⟩ := List.mem_map.mp hp
    exact h1 (mem_from.mp hq).1
theorem nodup_pairs {zs : List Str} (hz : zs.Nodup) : (pairsOf zs).Nodup := nodup_from hz hz
theorem mem_ahead {a b : Str} : ∀ {zs : List Str}, zs.Nodup → ((a, b) ∈ pairsAhead zs ↔ a ∈ zs ∧ b ∈ zs ∧ zs.idxOf a < zs.idxOf b)
  | [], _ => by
    constructor
    · intro h; exact nomatch h
    · intro h; exact nomatch h.1
  | x :: r, h => by
    obtain ⟨h1, h2⟩ := List.nodup_cons.mp h
    show (a, b) ∈ r.map (fun b => (x, b)) ++ pairsAhead r ↔ _
    rw [List.mem_append, mem_ahead h2, List.mem_map, List.idxOf_cons, List.idxOf_cons]
    constructor
    · rintro (⟨y, hy, e⟩ | ⟨h3, h4, h5⟩)
      · obtain ⟨rfl, rfl⟩ := Prod.mk.inj e
        refine ⟨List.mem_cons_self, List.mem_cons_of_mem _ hy, ?_⟩
        have e3 : (x == y) = false := beq_eq_false_iff_ne.mpr fun e => h1 (e ▸ hy)
        rw [e3, beq_self_eq_true]
        show 0 < _ + 1
        omega
      · refine ⟨List.mem_cons_of_mem _ h3, List.mem_cons_of_mem _ h4, ?_⟩
        have e1 : (x == a) = false := beq_eq_false_iff_ne.mpr fun e => h1 (e ▸ h3)
        have e2 : (x == b) = false := beq_eq_false_iff_ne.mpr fun e => h1 (e ▸ h4)
        rw [e1, e2]
        show _ + 1 < _ + 1
        omega
    · rintro ⟨h3, h4, h5⟩
      by_cases e1 : x = a
      · subst e1
        by_cases e2 : x = b
        · subst e2
          simp at h5
        · rcases List.mem_cons.mp h4 with e | e
          · exact absurd e.symm e2
          · exact .inl ⟨b, e, rfl⟩
      · by_cases e2 : x = b
        · subst e2
          rw [beq_self_eq_true] at h5
          exact absurd h5 (Nat.not_lt_zero _)
        · rcases List.mem_cons.mp h3 with e | e
          · exact absurd e.symm e1
          rcases List.mem_cons.mp h4 with e3 | e3
          · exact absurd e3.symm e2
          have q1 : (x == a) = false := beq_eq_false_iff_ne.mpr e1
          have q2 : (x == b) = false := beq_eq_false_iff_ne.mpr e2
          rw [q1, q2] at h5
          exact .inr ⟨e, e3, Nat.lt_of_succ_lt_succ h5⟩
theorem nodup_ahead : ∀ {zs : List Str}, zs.Nodup → (pairsAhead zs).Nodup
  | [], _ => List.nodup_nil
  | x :: r, h => by
    obtain ⟨h1, h2⟩ := List.nodup_cons.mp h
    refine List.nodup_append.mpr ⟨nodup_pair h2, nodup_ahead h2, ?_⟩
    rintro p hp q hq rfl
    obtain ⟨y, _, rfl⟩ := List.mem_map.mp hp
    exact h1 ((mem_ahead h2).mp hq).1
theorem ahead_pairs {zs : List Str} (h : zs.Nodup) {p : Str × Str} (hp : p ∈ pairsAhead zs) : p ∈ pairsOf zs := by
  obtain ⟨a, b⟩ := p
  obtain ⟨h1, h2, h3⟩ := (mem_ahead h).mp hp
  exact mem_pairs.mpr ⟨h1, h2, fun e => by rw [e] at h3; omega⟩
/-- the nets by distances and a lap -/
def netB (zs : List Str) (kvs : List (Key × V)) (lap : Int) (p : Str × Str) : Int := (placeOf kvs p.1 - placeOf kvs p.2) / lap + if p ∈ pairsAhead zs then 1 else 0
theorem netB_netP {zs : List Str} {kvs : List (Key × V)} (hn : zs.Nodup) {p : Str × Str} (hp : p ∈ pairsOf zs) : netB zs kvs zs.length p = netP zs kvs p.1 p.2 := by
  obtain ⟨a, b⟩ := p
  obtain ⟨ha, hb, hab⟩ := mem_pairs.mp hp
  have l1 := List.idxOf_lt_length_of_mem ha
  have l2 := List.idxOf_lt_length_of_mem hb
  unfold netB netP qN
  show _ + (if (a, b) ∈ pairsAhead zs then (1 : Int) else 0) = _ - (((zs.idxOf a : Nat) : Int) - ((zs.idxOf b : Nat) : Int)) / (zs.length : Int)
  by_cases h : (a, b) ∈ pairsAhead zs
  · obtain ⟨_, _, h3⟩ := (mem_ahead hn).mp h
    have hn0 : (0 : Int) < (zs.length : Int) := by omega
    have e : (((zs.idxOf a : Nat) : Int) - ((zs.idxOf b : Nat) : Int)) / (zs.length : Int) = -1 :=
      ((Int.ediv_emod_unique hn0).mpr ⟨by omega, by omega, by omega⟩ : (((zs.idxOf a : Nat) : Int) - ((zs.idxOf b : Nat) : Int)) / (zs.length : Int) = -1 ∧ (((zs.idxOf a : Nat) : Int) - ((zs.idxOf b : Nat) : Int)) % (zs.length : Int) = (zs.length : Int) + (((zs.idxOf a : Nat) : Int) - ((zs.idxOf b : Nat) : Int))).1
    rw [if_pos h, e]
    omega
  · have h3 : ¬ zs.idxOf a < zs.idxOf b := fun q => h ((mem_ahead hn).mpr ⟨ha, hb, q⟩)
    have e : (((zs.idxOf a : Nat) : Int) - ((zs.idxOf b : Nat) : Int)) / (zs.length : Int) = 0 := Int.ediv_eq_zero_of_lt (by omega) (by omega)
    rw [if_neg h, e]
    omega
end RK

namespace RK
open PySem L2
/-- the dict at e is of these nets -/
def spNetsBy : Sp := fun vs H Q _ => ∃ (n d : Addr) (zs : List Str) (kvs : List (Key × V)) (lap : Int), vs = [.ref n, .ref d, .int lap] ∧ H n = some (.lst (zs.map V.str)) ∧ H d = some (.dK kvs) ∧ (∀ z ∈ zs, valV kvs (Sum.inr z : Key) = some (.int (placeOf kvs z))) ∧ zs.Nodup ∧ zs.length ≤ 1000 ∧ 0 < lap ∧ lap.natAbs < 2 ^ 60 ∧
  ∀ e H', H e = none → H' e = some (.dT (kvP (pairsOf zs) (netB zs kvs lap))) → Same H H' → Q (.ref e) H'
def spNetsAmong : Sp := fun vs H Q _ => ∃ (n d : Addr) (zs : List Str) (kvs : List (Key × V)), vs = [.ref n, .ref d] ∧ H n = some (.lst (zs.map V.str)) ∧ H d = some (.dK kvs) ∧ (∀ z ∈ zs, valV kvs (Sum.inr z : Key) = some (.int (placeOf kvs z))) ∧ zs.Nodup ∧ zs.length ≤ 1000 ∧ 0 < zs.length ∧
  ∀ e H', H e = none → H' e = some (.dT (kvP (pairsOf zs) fun p => netP zs kvs p.1 p.2)) → Same H H' → Q (.ref e) H'
section
variable {P : Program} {w : World} {K : PySem.W.Frag} {mg : Str → Option Value} {base : Heap}
theorem scNetsBy : FnScope ["names", "distances", "lap", "nets", "one", "other"] ["names", "distances", "lap"] (defScope sNetsBy) := ⟨rfl, rfl, rfl, by decide +kernel, rfl, by decide +kernel, by decide +kernel⟩
theorem ok_netsBy {f fP fA : Addr} {fd fdP fdA : FuncData} (F : Fun K "nets_by" "nets_by" sNetsBy f fd)
    (GP : FnOk P w K mg base CX0 1 fP fdP ["names"] spPairsOf) (bP : Binds K fdP ["names"] []) (gP : mg "pairs_of" = some (.ref fP)) (kP' : PySem.W.keepIn K (.ref fP) = true)
    (GA : FnOk P w K mg base CX0 1 fA fdA ["names"] spPairsAh) (bA : Binds K fdA ["names"] []) (gA : mg "pairs_ahead" = some (.ref fA)) (kA : PySem.W.keepIn K (.ref fA) = true) :
    FnOk P w K mg base CX0 2 f fd ["names", "distances", "lap"] spNetsBy := by
  refine F.ok scNetsBy (fun vs H Q E h => ?_) (fun cdv A outer s H vs Q E hr h => ?_)
  · obtain ⟨n, d, zs, kvs, lap, rfl, _⟩ := h
    rfl
  · obtain ⟨n, d, zs, kvs, lap, rfl, hn, hd, hpl, hnd, hl, l0, l60, q⟩ := h
    have hu := hu_of hr
    refine ⟨_, pss_cons (ps_set (i := 3) scNetsBy.nd rfl (Or.inl rfl) pe_dnewT)
      (pss_cons (ps_for PassesOwn.never rfl (pi_list (pe_call GP hr (by rfl) gP kP' bP .nil pass0 (pa_cons (pv 0) pa_nil))) (pg_tup rfl (pgs_cons (pg_name (i := 4) scNetsBy.nd rfl (Or.inl rfl)) (pgs_cons (pg_name (i := 5) scNetsBy.nd rfl (Or.inl rfl)) pgs_nil)))
        (pss_one (ps_dput hu (pv 3) (pe_tup (pa_cons (pv 4) (pa_cons (pv 5) pa_nil))) (pe_op op_fdivW (pe_op op_sub (pe_dget hu (pv 1) (pv 4) (fun _ _ => rfl)) (pe_dget hu (pv 1) (pv 5) (fun _ _ => rfl))) (pv 2)) rfl)))
      (pss_cons (ps_for PassesOwn.never rfl (pi_list (pe_call GA hr (by rfl) gA kA bA .nil pass0 (pa_cons (pv 0) pa_nil))) (pg_tup rfl (pgs_cons (pg_name (i := 4) scNetsBy.nd rfl (Or.inl rfl)) (pgs_cons (pg_name (i := 5) scNetsBy.nd rfl (Or.inl rfl)) pgs_nil)))
        (pss_one (ps_daug hu (pv 3) (pe_tup (pa_cons (pv 4) (pa_cons (pv 5) pa_nil))) pe_int in_add (fun _ _ _ => rfl))))
      (pss_one (ps_ret (pv 3))))), ?_⟩
    refine fun e he => ?_
    generalize hE : upd H e _ = H0
    have s0 : Same H H0 := hE ▸ same_upd he
    have e0 := congrFun hE.symm e
    rw [upd_same] at e0
    clear hE
    refine ⟨_, rfl, n, zs, rfl, s0 _ _ hn, hl, fun p H1 hp0 hpa s1 => ?_⟩
    obtain ⟨ts, hts, hpr⟩ := hpa
    have e1 := s1 _ _ e0
    have hpe : p ≠ e := Ne.symm (ne_of_none e0 hp0)
    have hd1 := s1 _ _ (s0 _ _ hd)
    have hde : d ≠ e := ne_of_none hd he
    have hne : n ≠ e := ne_of_none hn he
    have sz1 : (pairsOf zs).length < sizeLine := Nat.lt_of_le_of_lt from_len (sq_room hl)
    have tsl : (ts.map V.ref).length = (pairsOf zs).length := by rw [List.length_map]; exact Paired.length hpr
    refine ⟨p, rfl, ⟨_, SqL.of hts⟩, for_list (xs := ts.map V.ref) (fun i σ G => ∃ w4 w5, σ = [some (.ref n), some (.ref d), some (.int lap), some (.ref e), w4, w5] ∧ But e H1 G ∧ G e = some (.dT (kvP ((pairsOf zs).take i) fun p => (placeOf kvs p.1 - placeOf kvs p.2) / lap))) ⟨none, none, rfl, Same.but (Same.refl H1), e1⟩ (fun i σ G hi ⟨_, _, _, b, _⟩ => SqL.of (b _ _ hpe hts)) ?_ ?_⟩
    · rintro i x σ G hx ⟨w4, w5, rfl, bG, eG⟩
      obtain ⟨T, hT, rfl⟩ := get_map hx
      obtain ⟨pr, hpri, hTp, hTo⟩ := paired_get hpr hT
      have hpm : pr ∈ pairsOf zs := List.mem_of_getElem? hpri
      have hTe : T ≠ e := fun q => by rw [q, e1] at hTo; cases hTo
      have hTG := bG _ _ hTe hTo
      obtain ⟨pm1, pm2, pm3⟩ := mem_pairs.mp (show (pr.1, pr.2) ∈ pairsOf zs from hpm)
      have hdG := bG _ _ hde hd1
      refine ⟨T, _, rfl, SqT.of hTG, rfl, _, _, rfl, _, _, rfl, rfl, ?_⟩
      refine ⟨_, rfl, _, rfl, d, _, rfl, hpl _ pm1 ▸ DGet.k (k := (Sum.inr pr.1 : Key)) hdG, _, rfl, _, rfl, d, _, rfl, hpl _ pm2 ▸ DGet.k (k := (Sum.inr pr.2 : Key)) hdG, _, _, rfl, rfl, _, rfl, _, _, rfl, rfl, wide_div (b := 60) l0 l60 (by decide) (by decide), ?_⟩
      refine ⟨_, rfl, _, rfl, _, rfl, by show 2 ≤ sizeLine; decide, fun U hU => ?_⟩
      generalize hE : upd G U _ = G1
      have sU : Same G G1 := hE ▸ same_upd hU
      have eU := congrFun hE.symm U
      rw [upd_same] at eU
      clear hE
      have nin : pr ∉ (pairsOf zs).take i := nodup_take (nodup_pairs hnd) hpri
      refine ⟨e, _, rfl, DPut.t (k := kP pr) (sU _ _ eG) eU (by rw [kvP_len, List.length_take]; exact Nat.lt_of_le_of_lt (Nat.min_le_right _ _) sz1), _, _, rfl, (bG.trans (Same.but sU)).trans But.upd, ?_⟩
      rw [upd_same, put_P_new (g := fun p => (placeOf kvs p.1 - placeOf kvs p.2) / lap) nin, take_more hpri]
    · rintro σ G ⟨w4, w5, rfl, bG, eG⟩
      rw [tsl, List.take_length] at eG
      have hnG := bG _ _ hne (s1 _ _ (s0 _ _ hn))
      refine ⟨_, rfl, n, zs, rfl, hnG, hl, fun p2 H2 hp20 hpa2 s2 => ?_⟩
      obtain ⟨ts2, hts2, hpr2⟩ := hpa2
      have e2 := s2 _ _ eG
      have hpe2 : p2 ≠ e := Ne.symm (ne_of_none eG hp20)
      have tsl2 : (ts2.map V.ref).length = (pairsAhead zs).length := by rw [List.length_map]; exact Paired.length hpr2
      refine ⟨p2, rfl, ⟨_, SqL.of hts2⟩, for_list (xs := ts2.map V.ref) (fun i σ G => ∃ w4 w5, σ = [some (.ref n), some (.ref d), some (.int lap), some (.ref e), w4, w5] ∧ But e H2 G ∧ G e = some (.dT (kvP (pairsOf zs) fun p => (placeOf kvs p.1 - placeOf kvs p.2) / lap + if p ∈ (pairsAhead zs).take i then 1 else 0))) ⟨w4, w5, rfl, Same.but (Same.refl H2), by rw [e2]; exact congrArg (fun z => some (HO.dT z)) (kvP_congr fun p _ => by simp)⟩ (fun i σ G hi ⟨_, _, _, b, _⟩ => SqL.of (b _ _ hpe2 hts2)) ?_ ?_⟩
      · rintro i x σ G' hx ⟨w4', w5', rfl, bG', eG'⟩
        obtain ⟨T, hT, rfl⟩ := get_map hx
        obtain ⟨pr, hpri, hTp, hTo⟩ := paired_get hpr2 hT
        have hpm : pr ∈ pairsOf zs := ahead_pairs hnd (List.mem_of_getElem? hpri)
        have hTe : T ≠ e := fun q => by rw [q, e2] at hTo; cases hTo
        have hTG := bG' _ _ hTe hTo
        have nin : pr ∉ (pairsAhead zs).take i := nodup_take (nodup_ahead hnd) hpri
        refine ⟨T, _, rfl, SqT.of hTG, rfl, _, _, rfl, _, _, rfl, rfl, ?_⟩
        refine ⟨_, rfl, _, rfl, _, rfl, by show 2 ≤ sizeLine; decide, fun U hU => ?_⟩
        generalize hE : upd G' U _ = G1
        have sU : Same G' G1 := hE ▸ same_upd hU
        have eU := congrFun hE.symm U
        rw [upd_same] at eU
        clear hE
        refine ⟨e, _, rfl, val_P hpm ▸ DGet.t (k := kP pr) (sU _ _ eG') eU, _, _, rfl, rfl, _, DPut.t (k := kP pr) (sU _ _ eG') eU (by rw [kvP_len]; exact sz1), _, _, rfl, (bG'.trans (Same.but sU)).trans But.upd, ?_⟩
        rw [upd_same, put_P hpm]
        refine congrArg (fun z => some (HO.dT z)) (kvP_congr fun p hp => ?_)
        rw [take_more hpri]
        by_cases q : p = pr
        · subst q
          rw [if_pos rfl, if_neg nin, if_pos (List.mem_append_right _ List.mem_cons_self)]
          omega
        · rw [if_neg q]
          by_cases q2 : p ∈ (pairsAhead zs).take i
          · rw [if_pos q2, if_pos (List.mem_append_left _ q2)]
          · rw [if_neg q2, if_neg (fun z => by
              rcases List.mem_append.mp z with z | z
              · exact q2 z
              · exact q (List.mem_singleton.mp z))]
      · rintro σ G' ⟨w4', w5', rfl, bG', eG'⟩
        rw [tsl2, List.take_length] at eG'
        exact ⟨_, rfl, q e G' he eG' fun b o hb => bG' b o (ne_of_none hb he) (s2 _ _ (bG b o (ne_of_none hb he) (s1 _ _ (s0 _ _ hb))))⟩
end
end RK

namespace RK
open PySem L2
section
variable {P : Program} {w : World} {K : PySem.W.Frag} {mg : Str → Option Value} {base : Heap}
theorem scNetsAmong : FnScope ["names", "places"] ["names", "places"] (defScope sNetsAmong) := ⟨rfl, rfl, rfl, by decide +kernel, rfl, by decide +kernel, by decide +kernel⟩
theorem ok_netsAmong {f fB : Addr} {fd fdB : FuncData} (F : Fun K "nets_among" "nets_among" sNetsAmong f fd) (B : B0 K mg)
    (GB : FnOk P w K mg base CX0 2 fB fdB ["names", "distances", "lap"] spNetsBy) (bB : Binds K fdB ["names", "distances", "lap"] []) (gB : mg "nets_by" = some (.ref fB)) (kB : PySem.W.keepIn K (.ref fB) = true) :
    FnOk P w K mg base CX0 3 f fd ["names", "places"] spNetsAmong := by
  refine F.ok scNetsAmong (fun vs H Q E h => ?_) (fun cdv A outer s H vs Q E hr h => ?_)
  · obtain ⟨n, d, zs, kvs, rfl, _⟩ := h
    rfl
  · obtain ⟨n, d, zs, kvs, rfl, hn, hd, hpl, hnd, hl, h0, q⟩ := h
    have l60 : (zs.length : Int).natAbs < 2 ^ 60 := Nat.lt_of_le_of_lt (show (zs.length : Int).natAbs ≤ 1000 by omega) (by decide)
    refine ⟨_, pss_one (ps_ret (pe_call GB hr (by rfl) gB kB bB .nil pass0 (pa_cons (pv 0) (pa_cons (pv 1) (pa_cons (pe_callB call_len_seq (by rfl) B.len PySem.boot_len (pa_cons (pv 0) pa_nil)) pa_nil))))), ?_⟩
    refine ⟨_, rfl, _, rfl, _, rfl, n, _, rfl, .inl (SqL.of hn), ?_⟩
    rw [List.length_map]
    refine ⟨n, d, zs, kvs, zs.length, rfl, hn, hd, hpl, hnd, hl, by omega, l60, fun e H' he ee s => q e H' he ?_ s⟩
    rw [ee]
    exact congrArg (fun z => some (HO.dT z)) (kvP_congr fun p hp => netB_netP hnd hp)
def scPl1 : Scope := { kind := .function, names := [(".0", .local), ("one", .cell), ("sum", .globalImplicit), ("first", .cell), ("names", .cell), ("nets", .cell)], isGenerator := false, isCoroutine := false }
def placedG (zs : List Str) (g : Str × Str → Int) (z : Str) : Int := ((zs.idxOf z : Nat) : Int) + ((zs.filter fun y => decide (y ≠ z)).map fun y => g (z, y)).sum
def spPlacedBy : Sp := fun vs H Q _ => ∃ (n e : Addr) (zs : List Str) (kvt : List (List Key × V)) (g : Str × Str → Int), vs = [.ref n, .ref e] ∧ H n = some (.lst (zs.map V.str)) ∧ H e = some (.dT kvt) ∧ (∀ p ∈ pairsOf zs, valV kvt (kP p) = some (.int (g p))) ∧ zs.Nodup ∧ zs.length ≤ 1000 ∧
  ∀ f H', H f = none → H' f = some (.dK (kvOf zs (placedG zs g))) → Same H H' → Q (.ref f) H'
theorem scPlacedBy : FnScope ["names", "nets", "first", "one", "other"] ["names", "nets"] (defScope sPlacedBy) := ⟨rfl, rfl, rfl, by decide +kernel, rfl, by decide +kernel, by decide +kernel⟩
theorem ok_placedBy {f fF : Addr} {fd fdF : FuncData} (F : Fun K "placed_by" "placed_by" sPlacedBy f fd) (B : B0 K mg) (zsum : mg "sum" = none)
    (GF : FnOk P w K mg base CX0 1 fF fdF ["names"] (spFirstPl K)) (bF : Binds K fdF ["names"] []) (gF : mg "first_places" = some (.ref fF)) (kF : PySem.W.keepIn K (.ref fF) = true) :
    FnOk P w K mg base CX0 2 f fd ["names", "nets"] spPlacedBy := by
  refine F.ok scPlacedBy (fun vs H Q E h => ?_) (fun cdv A outer s H vs Q E hr h => ?_)
  · obtain ⟨n, e, zs, kvt, g, rfl, _⟩ := h
    rfl
  · obtain ⟨n, e, zs, kvt, g, rfl, hn, he, hval, hnd, hl, q⟩ := h
    have hu := hu_of hr
    refine ⟨_, pss_cons (ps_set (i := 2) scPlacedBy.nd rfl (Or.inr rfl) (pe_call GF hr (by rfl) gF kF bF .nil pass0 (pa_cons (pv 0) pa_nil)))
      (pss_one (ps_ret (pe_dc (tk := tVar 3) (tv := tOp (rI0 fun i j => .int (i + j)) (tDGet (tVar 2) (tVar 3)) (tCB (rSum K) (tCons (tLc (iList K (tVar 0)) (gName 4) (tTest (tOp rNe (tVar 4) (tVar 3))) (tDGet (tVar 1) (tTup (tCons (tVar 3) (tCons (tVar 4) tNil)))) [4]) tNil)))
        (own := [("one", 3)]) (g := gName 3) (tt := tYes) rfl scPlacedBy.nd (pi_list (pv 0)) (blkOk_by (N := ["names", "nets", "first", "one", "other"]) (sc := defScope sPlacedBy) (by decide +kernel))
        (fun _ _ _ _ _ => pg_name (i := 3) scPlacedBy.nd rfl (Or.inr rfl)) (fun _ _ _ _ _ => pts_nil) (fun _ _ _ _ _ => by exact (pv 3))
        (fun _ _ _ _ _ => by exact (pe_op op_add (pe_dget hu (pv 2) (pv 3) (fun _ _ => rfl)) (pe_callB (cr_sum rfl) (by rfl) zsum (by decide +kernel) (pa_cons (pe_lc (te := tDGet (tVar 1) (tTup (tCons (tVar 3) (tCons (tVar 4) tNil)))) (own := [("other", 4)]) (g := gName 4) (tt := tTest (tOp rNe (tVar 4) (tVar 3))) rfl scPlacedBy.nd (pi_list (pv 0)) (blkOk_by (N := ["names", "nets", "first", "one", "other"]) (sc := scPl1) (by decide +kernel))
          (fun _ _ _ _ _ => pg_name (i := 4) scPlacedBy.nd rfl (Or.inl rfl)) (fun _ _ _ _ _ => by exact (pts_one (pt_cmpR op_ne (pv 4) (pv 3) (nomark _)))) (fun _ _ _ _ _ => by exact (pe_dget hu (pv 1) (pe_tup (pa_cons (pv 3) (pa_cons (pv 4) pa_nil))) (fun _ _ => rfl)))) pa_nil))))))), ?_⟩
    refine ⟨_, rfl, n, zs, rfl, hn, hnd, hl, fun f1 H1 hf10 hf1 s1 => ?_⟩
    rw [first_kv hnd] at hf1
    have hlen : (zs.map V.str).length = zs.length := List.length_map _
    refine ⟨_, rfl, n, rfl, ⟨_, SqL.of (s1 _ _ hn)⟩, fun D hD => ?_⟩
    refine dc_it (walk_list (K := K) (a := n) (xs := zs.map V.str)) (fun i G => Same H1 G ∧ G D = some (.dK (kvOf (zs.take i) (placedG zs g)))) ⟨same_upd hD, upd_same⟩ (fun i G _ p => SqL.of (p.1 _ _ (s1 _ _ hn))) ?_ ?_
    · rintro i x G1 G2 hi ⟨sm, hacc⟩ ⟨rfl, hy⟩
      obtain ⟨z, hz, hzm, rfl⟩ := name_at hy
      refine ⟨rfl, tyes ?_⟩
      refine ⟨_, rfl, _, rfl, _, rfl, f1, _, rfl, val_kv hzm ▸ DGet.k (k := (Sum.inr z : Key)) (sm _ _ hf1), ?_⟩
      have hn2 := sm _ _ (s1 _ _ hn)
      have he2 := sm _ _ (s1 _ _ he)
      refine ⟨_, rfl, n, rfl, ⟨_, SqL.of hn2⟩, fun D2 hD2 => ?_⟩
      refine lc_it (walk_list (K := K) (a := n) (xs := zs.map V.str)) (fun j G => Same G2 G ∧ G D2 = some (.lst (((zs.take j).filter fun y => decide (y ≠ z)).map fun y => V.int (g (z, y))))) ⟨same_upd hD2, upd_same⟩ (fun i G _ p => SqL.of (p.1 _ _ hn2)) ?_ ?_
      · rintro j x G3 G4 hj ⟨sm3, hacc3⟩ ⟨rfl, hy3⟩
        obtain ⟨y, hy, hym, rfl⟩ := name_at hy3
        refine ⟨rfl, _, rfl, _, rfl, rfl, _, rfl, ?_⟩
        rw [take_more hy, List.filter_append, List.map_append]
        refine ite2 (fun h => ?_) (fun h => ?_)
        · have hyz : y ≠ z := fun e => by subst e; simp at h
          have ef : ([y].filter fun y => decide (y ≠ z)) = [y] := by
            rw [List.filter_cons, if_pos (decide_eq_true hyz)]
            rfl
          rw [ef]
          refine ⟨_, rfl, _, rfl, _, rfl, by show 2 ≤ sizeLine; decide, fun T hT => ?_⟩
          generalize hE : upd G4 T _ = G5
          have s5 : Same G4 G5 := hE ▸ same_upd hT
          have eT := congrFun hE.symm T
          rw [upd_same] at eT
          clear hE
          refine ⟨e, _, rfl, hval (z, y) (mem_pairs.mpr ⟨hzm, hym, Ne.symm hyz⟩) ▸ DGet.t (k := kP (z, y)) (s5 _ _ (sm3 _ _ he2)) eT, _, s5 _ _ hacc3, ?_, fun b u hb => ?_, upd_same⟩
          · rw [List.length_map]
            have l1 := List.length_filter_le (fun y => decide (y ≠ z)) (zs.take j)
            rw [List.length_take] at l1
            exact Nat.lt_of_le_of_lt (Nat.le_trans l1 (Nat.le_trans (Nat.min_le_right _ _) hl)) (by decide)
          · rw [upd_ne (ne_of_none hb hD2)]
            exact s5 _ _ (sm3 _ _ hb)
        · have hyz : y = z := Decidable.byContradiction fun e => h (by
            rw [decide_eq_false (fun q => e (by cases q; rfl))]
            rfl)
          have ef : ([y].filter fun y => decide (y ≠ z)) = [] := by
            rw [List.filter_cons, if_neg (by rw [decide_eq_false (fun q => q hyz)]; exact Bool.false_ne_true)]
            rfl
          rw [ef]
          exact ⟨sm3, by rw [hacc3, List.map_nil, List.append_nil]⟩
      · rintro G3 ⟨sm3, hacc3⟩
        rw [hlen, List.take_length] at hacc3
        refine ⟨D2, (zs.filter fun y => decide (y ≠ z)).map fun y => g (z, y), rfl, SqL.of (by rw [hacc3, List.map_map]; rfl), ?_⟩
        refine ⟨_, _, rfl, rfl, kvOf (zs.take i) (placedG zs g), (Sum.inr z : Key), rfl, sm3 _ _ hacc, ?_, fun b u hb => ?_, ?_⟩
        · unfold kvOf
          rw [List.length_map, List.length_take]
          exact Nat.lt_of_le_of_lt (Nat.le_trans (Nat.min_le_right _ _) hl) (by decide)
        · rw [upd_ne (ne_of_none hb hD)]
          exact sm3 _ _ (sm _ _ hb)
        · rw [upd_same, put_new (fun kv hkv e => ?_), take_more hz]
          · unfold kvOf
            rw [List.map_append]
            rfl
          · unfold kvOf at hkv
            obtain ⟨y2, hy4, rfl⟩ := List.mem_map.mp hkv
            exact nodup_take hnd hz (Sum.inr.inj e ▸ hy4)
    · rintro G ⟨sm, hacc⟩
      rw [hlen, List.take_length] at hacc
      exact q D G (s1.free hD) hacc (s1.trans sm)
end
end RK

namespace RK
open PySem L2
/-! ### the sum of all nets -/
theorem perm_of_sub {α : Type} [DecidableEq α] : ∀ {l m : List α}, l.Nodup → (∀ x ∈ l, x ∈ m) → m.length ≤ l.length → l.Perm m
  | [], m, _, _, h => by rw [List.length_eq_zero_iff.mp (Nat.le_zero.mp h)]
  | x :: r, m, hn, hs, h => by
    have hx := hs x List.mem_cons_self
    obtain ⟨h1, h2⟩ := List.nodup_cons.mp hn
    have hl : (m.erase x).length ≤ r.length := by
      rw [List.length_erase_of_mem hx]
      rw [List.length_cons] at h
      omega
    have ih := perm_of_sub (l := r) (m := m.erase x) h2 (fun y hy => (List.mem_erase_of_ne (fun (z : y = x) => h1 (z ▸ hy))).mpr (hs y (List.mem_cons_of_mem _ hy))) hl
    exact (ih.cons x).trans (List.perm_cons_erase hx).symm
theorem mod_zero {n d : Int} (h : d % n = 0) : ∃ k, d = n * k := ⟨d / n, by have := Int.emod_add_mul_ediv d n; omega⟩
theorem mod_eq {n a b : Int} (h : (a - b) % n = 0) : a % n = b % n := by
  obtain ⟨k, e⟩ := mod_zero h
  rw [show a = b + n * k by omega, Int.add_mul_emod_self_left]
theorem eq_mod {n a b : Int} (h : a % n = b % n) : (a - b) % n = 0 := by
  rw [Int.sub_emod, h, Int.sub_self]
  rfl
theorem sum_all {n : Nat} {l : List Int} (hn : l.Nodup) (hb : ∀ x ∈ l, 0 ≤ x ∧ x < (n : Int)) (hl : l.length = n) : l.sum = (n : Int) * ((n : Int) - 1) / 2 := by
  rw [← half_sum]
  refine perm_sum (perm_of_sub hn (fun x hx => ?_) (by rw [List.length_map, List.length_range, hl]; exact Nat.le_refl _))
  obtain ⟨h1, h2⟩ := hb x hx
  exact List.mem_map.mpr ⟨x.toNat, List.mem_range.mpr (by omega), by omega⟩
theorem sum_mulc {f : Str → Int} {c : Int} : ∀ {l : List Str}, (l.map fun z => c * f z).sum = c * (l.map f).sum
  | [] => by simp
  | z :: r => by rw [List.map_cons, List.map_cons, List.sum_cons, List.sum_cons, sum_mulc, Int.mul_add]
theorem sum_congr {f g : Str → Int} {l : List Str} (h : ∀ z ∈ l, f z = g z) : (l.map f).sum = (l.map g).sum := by rw [List.map_congr_left h]
theorem sum_const {c : Int} : ∀ {l : List Str}, (l.map fun _ => c).sum = (l.length : Int) * c
  | [] => by simp
  | z :: r => by
    rw [List.map_cons, List.sum_cons, sum_const, List.length_cons]
    have : ((r.length + 1 : Nat) : Int) * c = (r.length : Int) * c + c := by rw [Int.natCast_add, Int.add_mul]; simp
    rw [this]
    omega
theorem nat_of_list' {f : Str → Int} {c : Int} : ∀ {l : List Str}, (l.map fun z => c - f z).sum = (l.length : Int) * c - (l.map f).sum
  | [] => by simp
  | z :: r => by
    rw [List.map_cons, List.map_cons, List.sum_cons, List.sum_cons, nat_of_list', List.length_cons]
    have : ((r.length + 1 : Nat) : Int) * c = (r.length : Int) * c + c := by rw [Int.natCast_add, Int.add_mul]; simp
    rw [this]
    omega
theorem even_n (n : Int) : n * (n - 1) % 2 = 0 := by
  rcases Int.emod_two_eq n with q | q
  · rw [Int.mul_emod, q]; simp
  · rw [Int.mul_emod, show (n - 1) % 2 = 0 by omega]; simp
theorem sum_q {zs ks : List Str} {kvs : List (Key × V)} (h : Sta zs ks kvs) (nd : zs.Nodup) (h0 : 0 < zs.length) {x : Str} (hx : x ∈ zs) : (zs.map fun y => qN zs kvs x y).sum = placeOf kvs x - ((zs.length : Int) - 1) := by
  have hn : (0 : Int) < (zs.length : Int) := by omega
  have e1 : ∀ y ∈ zs, (zs.length : Int) * qN zs kvs x y + (placeOf kvs x - placeOf kvs y) % (zs.length : Int) = placeOf kvs x - placeOf kvs y := fun y _ => by
    unfold qN
    have := Int.emod_add_mul_ediv (placeOf kvs x - placeOf kvs y) (zs.length : Int)
    omega
  have e2 : (zs.map fun y => (placeOf kvs x - placeOf kvs y) % (zs.length : Int)).sum = (zs.length : Int) * ((zs.length : Int) - 1) / 2 := by
    refine sum_all ?_ (fun v hv => ?_) (List.length_map _)
    · refine nodup_inj nd fun a ha b hb e => ?_
      refine rest_inj h.ok ha hb ?_
      have q := eq_mod e
      exact (mod_eq (by rw [show placeOf kvs b - placeOf kvs a = placeOf kvs x - placeOf kvs a - (placeOf kvs x - placeOf kvs b) by omega]; exact q) : placeOf kvs b % (zs.length : Int) = placeOf kvs a % (zs.length : Int)).symm
    · obtain ⟨y, _, rfl⟩ := List.mem_map.mp hv
      exact ⟨Int.emod_nonneg _ (by omega), Int.emod_lt_of_pos _ hn⟩
  have e3 := sum_congr e1
  rw [sum_add (f := fun y => (zs.length : Int) * qN zs kvs x y) (g := fun y => (placeOf kvs x - placeOf kvs y) % (zs.length : Int)), e2, sum_mulc, nat_of_list', h.sum] at e3
  have e4 := even_n (zs.length : Int)
  have e5 : (zs.length : Int) * (zs.map fun y => qN zs kvs x y).sum = (zs.length : Int) * (placeOf kvs x - ((zs.length : Int) - 1)) := by
    rw [Int.mul_sub]
    have e6 : (zs.length : Int) * (zs.map fun y => qN zs kvs x y).sum + (zs.length : Int) * ((zs.length : Int) - 1) / 2 = (zs.length : Int) * placeOf kvs x - (zs.length : Int) * ((zs.length : Int) - 1) / 2 := e3
    omega
  exact Int.eq_of_mul_eq_mul_left (by omega) e5
end RK

namespace RK
open PySem L2
/-! ### the path begun with another one -/
theorem net_self {zs : List Str} {kvs : List (Key × V)} {x : Str} : netP zs kvs x x = 0 := by
  unfold netP qN
  rw [Int.sub_self, Int.sub_self, Int.zero_ediv]
  rfl
theorem sum_net {zs ks : List Str} {kvs : List (Key × V)} (h : Sta zs ks kvs) (nd : zs.Nodup) {x : Str} (hx : x ∈ zs) : (zs.map fun y => netP zs kvs x y).sum = placeOf kvs x - ((zs.idxOf x : Nat) : Int) := by
  have h0 : 0 < zs.length := List.length_pos_of_mem hx
  have e1 := sum_q h nd h0 hx
  have e2 := sum_q (first_sta nd h0) nd h0 hx
  have e3 : ∀ y ∈ zs, qN zs (firstKv zs) x y + netP zs kvs x y = qN zs kvs x y := fun y hy => by
    have e : qN zs (firstKv zs) x y = (((zs.idxOf x : Nat) : Int) - ((zs.idxOf y : Nat) : Int)) / (zs.length : Int) := by
      unfold qN
      rw [first_kv nd, place_kv hx, place_kv hy]
    unfold netP
    omega
  have e4 := sum_congr e3
  rw [sum_add (f := fun y => qN zs (firstKv zs) x y) (g := fun y => netP zs kvs x y), e1, e2, first_kv nd, place_kv hx] at e4
  omega
theorem filt_sum {f : Str → Int} {x : Str} (h : f x = 0) : ∀ {l : List Str}, ((l.filter fun y => decide (y ≠ x)).map f).sum = (l.map f).sum
  | [] => rfl
  | y :: r => by
    rw [List.map_cons, List.sum_cons, ← filt_sum h (l := r), List.filter_cons]
    by_cases e : y = x
    · subst e
      rw [if_neg (by simp), h, Int.zero_add]
    · rw [if_pos (decide_eq_true e), List.map_cons, List.sum_cons]
def netF (zs : List Str) (kvs : List (Key × V)) (p : Str × Str) : Int := netP zs kvs p.1 p.2
theorem placed_row {zs ks row : List Str} {kvs : List (Key × V)} (h : Sta zs ks kvs) (nd : zs.Nodup) (hp : row.Perm zs) {x : Str} (hx : x ∈ zs) : placedG row (netF zs kvs) x = ((row.idxOf x : Nat) : Int) + placeOf kvs x - ((zs.idxOf x : Nat) : Int) := by
  unfold placedG netF
  rw [filt_sum (f := fun y => netP zs kvs x y) net_self, perm_sum (hp.map fun y => netP zs kvs x y), sum_net h nd hx]
  omega
theorem idx_app {l m : List Str} {x : Str} (h : x ∈ l) : (l ++ m).idxOf x = l.idxOf x := by rw [List.idxOf_append, if_pos h]
theorem idx_app2 {l m : List Str} {x : Str} (h : x ∉ l) : (l ++ m).idxOf x = l.length + m.idxOf x := by rw [List.idxOf_append, if_neg h, Nat.add_comm]
theorem div_shift {n d k : Int} (hn : n ≠ 0) : (d + n * k) / n = d / n + k := by rw [Int.add_mul_ediv_left _ _ hn]
end RK

namespace RK
open PySem L2
/-! ### the law's pairs, table, places by nets -/
section
variable {P : Program} {w : World} {K : PySem.W.Frag} {mg : Str → Option Value} {base : Heap}
theorem scWPairs : FnScope ["names", "found", "one", "other"] ["names"] (defScope sWPairs) := ⟨rfl, rfl, rfl, by decide +kernel, rfl, by decide +kernel, by decide +kernel⟩
theorem ok_wpairs {f : Addr} {fd : FuncData} (F : Fun K "_law_w_pairs" "_law_w_pairs" sWPairs f fd) : FnOk P w K mg base CX0 1 f fd ["names"] spPairsOf := by
  refine F.ok scWPairs (fun vs H Q E h => ?_) (fun cdv A outer s H vs Q E hr h => ?_)
  · obtain ⟨n, zs, rfl, _⟩ := h
    rfl
  · obtain ⟨n, zs, rfl, hn, hl, q⟩ := h
    refine ⟨_, pss_cons (ps_set (i := 1) scWPairs.nd rfl (Or.inl rfl) (pe_lst pa_nil))
      (pss_cons (ps_for PassesOwn.never rfl (pi_list (pv 0)) (pg_name (i := 2) scWPairs.nd rfl (Or.inr rfl))
        (pss_one (ps_expr (pe_bm PySem.F.plainAttrs_list PySem.F.slot_list_extend PySem.F.type_list_extend mt_extend (pv 1) (pa_cons (pe_lc (te := tTup (tCons (tVar 2) (tCons (tVar 3) tNil))) (own := [("other", 3)]) (g := gName 3) (tt := tTest (tOp rNe (tVar 3) (tVar 2))) rfl scWPairs.nd (pi_list (pv 0)) (blkOk_by (N := ["names", "found", "one", "other"]) (sc := defScope sWPairs) (by decide +kernel))
          (fun _ _ _ _ _ => pg_name (i := 3) scWPairs.nd rfl (Or.inl rfl)) (fun _ _ _ _ _ => by exact (pts_one (pt_cmpR op_ne (pv 3) (pv 2) (nomark _)))) (fun _ _ _ _ _ => by exact (pe_tup (pa_cons (pv 2) (pa_cons (pv 3) pa_nil))))) pa_nil)))))
      (pss_one (ps_ret (pv 1)))), ?_⟩
    refine ⟨by show 0 ≤ sizeLine; decide, fun r hr0 => ?_⟩
    generalize hE : upd H r _ = H1
    have s1 : Same H H1 := hE ▸ same_upd hr0
    have e1 := congrFun hE.symm r
    rw [upd_same] at e1
    clear hE
    have hnr : n ≠ r := ne_of_none hn hr0
    have hkl : (zs.map V.str).length = zs.length := List.length_map _
    refine ⟨_, rfl, n, rfl, ⟨_, SqL.of (s1 _ _ hn)⟩, for_list (xs := zs.map V.str) (fun i σ G => ∃ w2, σ = [some (.ref n), some (.ref r), w2, none] ∧ LaidP r (pairsOf zs) (pairsFrom zs (zs.drop i)) G ∧ But r H1 G) ⟨none, rfl, ⟨[], [], e1, .nil, rfl⟩, Same.but (Same.refl H1)⟩ (fun i σ G hi ⟨_, _, _, b⟩ => SqL.of (b _ _ hnr (s1 _ _ hn))) ?_ ?_⟩
    · rintro i x σ G hx ⟨w2, rfl, hlaid, bG⟩
      obtain ⟨z, hz, hzm, rfl⟩ := name_at hx
      rw [drop_at hz] at hlaid
      have hnG := bG _ _ hnr (s1 _ _ hn)
      obtain ⟨ts, rn, h1, h2, h3⟩ := hlaid
      refine ⟨_, rfl, .inl ⟨rfl, _, SqL.of h1⟩, ?_⟩
      refine ⟨_, rfl, n, rfl, ⟨_, SqL.of hnG⟩, fun D hD => ?_⟩
      have hDr : r ≠ D := ne_of_none h1 hD
      refine lc_it (walk_list (K := K) (a := n) (xs := zs.map V.str)) (fun j G' => LaidP D ((zs.filter fun b => decide (z ≠ b)).map fun b => (z, b)) (((zs.drop j).filter fun b => decide (z ≠ b)).map fun b => (z, b)) G' ∧ Same G G') ⟨⟨[], [], upd_same, .nil, rfl⟩, same_upd hD⟩ (fun j G' _ p => SqL.of (p.2 _ _ hnG)) ?_ ?_
      · rintro j x G1 G2 hj ⟨hl1, sm⟩ ⟨rfl, hy0⟩
        obtain ⟨y, hy, hym, rfl⟩ := name_at hy0
        refine ⟨rfl, _, rfl, _, rfl, rfl, _, rfl, ?_⟩
        rw [drop_at hy, List.filter_cons] at hl1
        refine ite2 (fun h => ?_) (fun h => ?_)
        · have hzy : z ≠ y := fun e => by subst e; simp at h
          rw [if_pos (decide_eq_true hzy)] at hl1
          refine ⟨_, rfl, _, rfl, by show 2 ≤ sizeLine; decide, fun T hT => ?_⟩
          generalize hE : upd G2 T _ = G3
          have s3 : Same G2 G3 := hE ▸ same_upd hT
          obtain ⟨acc, e1', e2, e3⟩ := LaidP.step (p := (z, y)) hl1 hT hE
          refine ⟨acc, e1', Nat.lt_trans e2 ?_, e3, fun b o e => by
            rw [upd_ne (ne_of_none e hD)]
            exact s3 _ _ (sm b o e)⟩
          rw [List.length_map]
          have l1 := List.length_filter_le (fun b => decide (z ≠ b)) zs
          exact Nat.lt_of_le_of_lt (Nat.le_trans l1 hl) (by decide)
        · have hzy : z = y := Decidable.byContradiction fun e => h (by
            rw [decide_eq_false (fun q => e (by cases q; rfl))]
            rfl)
          rw [if_neg (by rw [decide_eq_false (fun q => q hzy)]; exact Bool.false_ne_true)] at hl1
          exact ⟨hl1, sm⟩
      · rintro G1 ⟨hl1, sm⟩
        rw [hkl, List.drop_length] at hl1
        obtain ⟨ts2, g1, g2⟩ := hl1.pairs
        have hlen : rn.length + ((zs.filter fun b => decide (z ≠ b)).map fun b => (z, b)).length ≤ (pairsOf zs).length := by
          rw [← h3]
          show _ ≤ (rn ++ ((zs.filter fun b => decide (z ≠ b)).map (fun b => (z, b)) ++ pairsFrom zs (zs.drop (i + 1)))).length
          rw [List.length_append, List.length_append]
          omega
        refine ⟨r, D, _, _, rfl, rfl, sm _ _ h1, g1, ?_, _, rfl, ⟨ts ++ ts2, rn ++ (zs.filter fun b => decide (z ≠ b)).map (fun b => (z, b)), ?_, ?_, ?_⟩, (bG.trans (Same.but sm)).trans But.upd⟩
        · rw [List.length_map, List.length_map, Paired.length h2, Paired.length g2]
          exact Nat.le_of_lt (Nat.lt_of_le_of_lt hlen (Nat.lt_of_le_of_lt from_len (sq_room hl)))
        · rw [upd_same, List.map_append]
        · refine paired_cat (Paired.mono (fun t p e => ⟨e.1, by rw [upd_ne e.1]; exact sm _ _ e.2⟩) h2) (Paired.mono (fun t p e => ?_) g2)
          have htr : t ≠ r := fun z => by
            have e2 := e.2
            rw [z, sm _ _ h1] at e2
            cases e2
          exact ⟨htr, by rw [upd_ne htr]; exact e.2⟩
        · rw [List.append_assoc]
          exact h3
    · rintro σ G ⟨w2, rfl, hlaid, bG⟩
      rw [hkl, List.drop_length] at hlaid
      exact ⟨_, rfl, q r G hr0 hlaid.pairs fun b o e => bG b o (ne_of_none e hr0) (s1 _ _ e)⟩
end
end RK

/-! what may be a list or a tuple is walked -/
namespace L2
open PySem PySem.Spec PyProof.Rows
def iEi (K : PySem.W.Frag) (tl : TE) : TI := fun σ H R => tl σ H fun x H1 => ∃ a xs, x = .ref a ∧ ((SqL K H1 a xs ∧ R (Itl K a) H1) ∨ (SqT K H1 a xs ∧ R (Itt K a) H1))
theorem pi_ei {X : Cx} {tg l : Expr} {tl : TE} (hl : PE X l tl) : PI X tg l (iEi X.K tl) := by
  refine ⟨fun pins s σ H R I h => ?_⟩
  refine thn (hl.run pins s σ H _ I h) fun v s1 ⟨x, H1, I1, r1, q1⟩ => ?_
  obtain ⟨a, xs, rfl, q1⟩ := q1
  cases r1
  have new : ∀ b ∈ [s1.heap.objs.size], s1.heap.objs.size ≤ b := fun b hb => Nat.le_of_eq (List.mem_singleton.mp hb).symm
  rcases q1 with ⟨hq, q⟩ | ⟨hq, q⟩
  · obtain ⟨its, rv, lay, _⟩ := I1.list hq
    exact wpAny_pyIter_list lay.isList ⟨s1.heap.objs.size, [s1.heap.objs.size], _, _, H1, rfl, I1.kept (t' := s1.toks) fun b o e => Heap.get?_push_of_some _ e, turn_list a _, ⟨_, Heap.get?_push_size _ rfl, rfl, rfl⟩, fun b hb => I1.fpOk (new b hb) (I1.hok.fresh (new b hb)), q⟩
  · obtain ⟨its, rv, lay, _⟩ := I1.tuple hq
    exact wpAny_pyIter_tuple (show s1.heap.IsTuple a its.toArray from lay) ⟨s1.heap.objs.size, [s1.heap.objs.size], _, _, H1, rfl, I1.kept (t' := s1.toks) fun b o e => Heap.get?_push_of_some _ e, turn_tuple a _, ⟨_, Heap.get?_push_size _ rfl, rfl, rfl⟩, fun b hb => I1.fpOk (new b hb) (I1.hok.fresh (new b hb)), q⟩
end L2

/-! a dict comprehension whose keys are tuples of ints and texts -/
namespace L2
open PySem PySem.Spec PyProof.Rows
theorem d_dictSetT {X : Cx} {pins : List (Addr × Obj)} {σ : St} {H : Hp} {s : Shared} {E : Value → Shared → Prop} {D T : Addr} {ks : List Key} {kvs : List (List Key × V)} {z : V} {u r : Value} {Q : Unit → Shared → Prop} (hu : X.A.units + 1 < cLine) (I : Inv X pins σ H s)
    (ry : RelV (.ref T) u) (hT : H T = some (.tup (ks.map kV))) (rz : RelV z r) (hD : H D = some (.dT kvs)) (room : kvs.length < sizeLine) (fin : ∀ s', Inv X pins σ (upd H D (.dT (putK kvs ks z))) s' → Q () s') : wpAny (model X.prog X.w) X.A (dictSet D u r) Q E s := by
  cases (show u = Value.ref T from ry)
  obtain ⟨small, low, xs, rel, stands⟩ := dt_of I.hok hD
  have few : xs.length ≤ sizeLine := by rw [← Paired.length rel]; exact small
  have more : (putK kvs ks z).length ≤ sizeLine := Nat.le_trans (length_putK kvs ks z) room
  refine wpAny_dictSet_heap (hsz := few) (show (tupleKind (mixKind X.prog X.w)).room X.A from Nat.lt_of_succ_lt hu) (key_of I.hok hT) stands fun h' stands' same => fin _ ?_
  obtain ⟨o, es, ep, at', exact', data', keys', _, rest'⟩ := stands'
  refine d_write I (by rw [hD]; exact True.intro) same ⟨o, at'⟩ ⟨more, low, _, (rel.put ks hT rz).keeps fun c ys ec => ?_, o, es, ep, at', exact', data', keys', rest'⟩
  rw [upd_ne (ne_of ec hD (fun z => nomatch z))]
  exact ec
/-- what a turn owes: the value into the dict at D, under the tuple that was made, then the next turn's wish -/
def PairIn (D : Addr) (Nx : Hp → Prop) : V → V → Hp → Prop := fun y z G => ∃ (T : Addr) (ks : List Key) (kvs : List (List Key × V)), y = .ref T ∧ G T = some (.tup (ks.map kV)) ∧ G D = some (.dT kvs) ∧ kvs.length < sizeLine ∧ Nx (upd G D (.dT (putK kvs ks z)))
def DTurnT (D : Addr) (g : TG) (tt : TT) (tk te : TE) (vs : List Nat) (σ : St) (Nx : Hp → Prop) (x : V) (G : Hp) : Prop :=
  g x (wipe σ vs) G fun ρ G1 => wipe ρ vs = wipe σ vs ∧ tt ρ G1 fun b G2 => if b = true then tk ρ G2 fun y G3 => te ρ G3 fun z G4 => PairIn D Nx y z G4 else Nx G2
def DWalkT (J : It) (D : Addr) (g : TG) (tt : TT) (tk te : TE) (vs : List Nat) (σ : St) (H1 : Hp) (Qd : Hp → Prop) : Prop :=
  ∃ W : Nat → Nat → Hp → Prop, (∃ m, W 0 m (upd H1 D (.dT []))) ∧ ∀ i m G, W i m G →
    (J.stop i G ∧ Qd G) ∨ (J.go i G ∧ ∃ Nx : Hp → Prop, (∀ G', Nx G' → ∃ m', m' < m ∧ W (i + 1) m' G') ∧ ∀ x G', J.yld i G x G' → DTurnT D g tt tk te vs σ Nx x G')
def tDcT (wi : TI) (g : TG) (tt : TT) (tk te : TE) (vs : List Nat) : TE := fun σ H Q => wi σ H fun J H1 => ∀ D, H1 D = none → DWalkT J D g tt tk te vs σ H1 fun G => Q (.ref D) G
section
variable {X : Cx} {kx elt tg iter : Expr} {ifs : List Expr} {scope : Scope} {own : List (Str × Nat)} {wi : TI} {g : TG} {tt : TT} {tk te : TE}
/-- the block's four parts, wherever it stands -/
structure Blk4 (X : Cx) (tg kx elt : Expr) (ifs : List Expr) (scope : Scope) (g : TG) (tt : TT) (tk te : TE) : Prop where
  tgt : ∀ (u : Shared) (G : Hp) (L : Addr) (cl : List (Str × Addr)) (fp : List Addr), PG (X.blk u G scope (compEnvC scope cl L X.env) fp) tg g
  tst : ∀ (u : Shared) (G : Hp) (L : Addr) (cl : List (Str × Addr)) (fp : List Addr), PTs (X.blk u G scope (compEnvC scope cl L X.env) fp) ifs tt
  key : ∀ (u : Shared) (G : Hp) (L : Addr) (cl : List (Str × Addr)) (fp : List Addr), PE (X.blk u G scope (compEnvC scope cl L X.env) fp) kx tk
  elm : ∀ (u : Shared) (G : Hp) (L : Addr) (cl : List (Str × Addr)) (fp : List Addr), PE (X.blk u G scope (compEnvC scope cl L X.env) fp) elt te
theorem dcT_core {pins : List (Addr × Obj)} {s : Shared} {σ : St} {H : Hp} {Q : VK} {pos pos' : Pos} {use : Option (Value → Sem Unit)} {Qf : Value → Shared → Prop} (hu : X.A.units + 1 < cLine) (hc : X.calm = true) (hN : X.N.Nodup) (Inow : Inv X pins σ H s) (hi : PI X tg iter wi) (ok : BlkOk X.N X.env.scope scope own)
    (B : Blk4 X tg kx elt ifs scope g tt tk te) (hfold : ∀ x, foldedSetIterable iter X.env x = pure x) (h : tDcT wi g tt tk te (own.map (·.2)) σ H Q)
    (hend : ∀ D L u m G, Inv X pins σ G u → Q (.ref D) G → u.heap.Ns L m → FpOk X pins G L → compPost (model X.prog X.w) X.A X.xe use Qf (.ref D) L (.ok .next) u) :
    wpAny (model X.prog X.w) X.A (comprehension (.DictComp kx elt [⟨tg, iter, ifs, 0⟩] scope pos) scope X.env pos' newDict false (eval iter X.env) use) Qf X.xe s := by
  have free : ∀ y ∈ scope.names, y.2 = .free → ∃ c, X.env.cells.lookup y.1 = some c := fun y hy e => (ok.free y hy e).elim (fun k => Inow.ok.has _ (.inl k)) fun k => Inow.ok.has _ (.inr k)
  refine wpAny_comprehension_free (use := use) rfl hfold (closure_ok free) ok.kind (fun y hy e => by rw [ok.uniq y hy, e]) (thn (hi.run pins s σ H _ Inow h) fun xv u1 hx => thn hx fun itv u2 got => ?_)
  obtain ⟨it, fp, tn, J, G2, rfl, I2, T, at0, own2, walk⟩ := got
  refine wpAny_newObj_type (newEnv_comp ?_)
  generalize hD : u2.heap.objs.size = D
  have fresh : G2 D = none := I2.hok.fresh (Nat.le_of_eq hD)
  obtain ⟨W, ⟨m0, begins⟩, turn⟩ := walk D fresh
  -- the empty dict stands
  generalize hG3 : upd G2 D (.dT []) = G3 at begins
  generalize hu3 : ({ u2 with heap := u2.heap.push { cls := .type "dict", data := .dict #[] } } : Shared) = u3
  have p3 : u3.heap = u2.heap.push { cls := .type "dict", data := .dict #[] } := by rw [← hu3]
  have I3 : Inv X pins σ G3 u3 := by
    rw [← hG3, ← hu3]
    refine I2.laid (t' := u2.toks) (fun b o e => Heap.get?_push_of_some _ e) (Nat.le_of_eq hD) ?_
    rw [← hD]
    exact dt_empty u2.heap I2.big
  have below : ∀ b ∈ fp, b < u2.heap.objs.size := fun b hb => let ⟨_, e, _⟩ := T.obj _ _ at0 b hb; Heap.lt_size e
  have own3 : ∀ b ∈ fp, FpOk X pins G3 b ∧ b < u3.heap.objs.size := fun b hb => by
    have lt := below b hb
    refine ⟨⟨?_, (own2 b hb).2⟩, by rw [p3, Heap.size_push]; exact Nat.lt_succ_of_lt lt⟩
    rw [← hG3, upd_ne (by rw [← hD]; exact Nat.ne_of_lt lt)]
    exact (own2 b hb).1
  have at3 : tn 0 u3.heap := T.keep _ _ _ at0 fun b _ o e => by rw [p3]; exact Heap.get?_push_of_some _ e
  have I4 := block_start I3 ok hN own3
  have pg := B.tgt u3 G3 u3.heap.objs.size (cellsFrom (u3.heap.objs.size + 1) scope.names (cloFrom X.env.cells scope.names [])) fp
  have pt := B.tst u3 G3 u3.heap.objs.size (cellsFrom (u3.heap.objs.size + 1) scope.names (cloFrom X.env.cells scope.names [])) fp
  have pk := B.key u3 G3 u3.heap.objs.size (cellsFrom (u3.heap.objs.size + 1) scope.names (cloFrom X.env.cells scope.names [])) fp
  have pe := B.elm u3 G3 u3.heap.objs.size (cellsFrom (u3.heap.objs.size + 1) scope.names (cloFrom X.env.cells scope.names [])) fp
  have no3 : ∀ b ∈ fp, G3 b = none := fun b hb => (own3 b hb).1.1
  show codeAny _ _ (.compStart (.DictComp kx elt [⟨tg, iter, ifs, 0⟩] scope pos) 0 (.ref it) (.ref D) (compEnvC scope (cellsFrom (u3.heap.objs.size + 1) scope.names (cloFrom X.env.cells scope.names [])) u3.heap.objs.size X.env)) (compPost (model X.prog X.w) X.A X.xe use Qf (.ref D) u3.heap.objs.size) { u3 with heap := pushCells (u3.heap.push { cls := .type "dict", data := .dict #[] }) scope.names }
  generalize hce : compEnvC scope (cellsFrom (u3.heap.objs.size + 1) scope.names (cloFrom X.env.cells scope.names [])) u3.heap.objs.size X.env = ce at I4 pg pt pk pe ⊢
  have lce : ce.locals = u3.heap.objs.size := by rw [← hce] <;> rfl
  generalize hu4 : ({ u3 with heap := pushCells (u3.heap.push { cls := .type "dict", data := .dict #[] }) scope.names } : Shared) = u4 at I4 ⊢
  have at4 : tn 0 u4.heap := T.keep _ _ _ at3 fun b _ o e => by rw [← hu4]; exact pushCells_keeps _ _ _ _ (Heap.get?_push_of_some _ e)
  generalize hY : X.blk u3 G3 scope ce fp = Y at I4 pg pt pk pe
  have Yu : Y.A.units + 1 < cLine := by rw [← hY]; exact hu
  have held : ∀ {ρ : St} {G : Hp} {u : Shared}, Inv Y [] ρ G u → (∀ b ∈ fp, G b = none) → ∀ b ∈ fp, FpOk Y [] G b := fun {ρ G u} I' no b hb => by
    subst hY
    exact ⟨no b hb, (I'.ok.exf b hb).1, I'.ok.exfs b hb, .inl hb, fun x c e => (I'.ok.exf b hb).2 x c e, fun p hp => absurd (show p ∈ ([] : List (Addr × Obj)) ++ [] from hp) (by simp)⟩
  have loop : codeAny (model X.prog X.w) X.A (.compLoop (.DictComp kx elt [⟨tg, iter, ifs, 0⟩] scope pos) 0 (.ref it) (.ref D) ce) (compPost (model X.prog X.w) X.A X.xe use Qf (.ref D) u3.heap.objs.size) u4 := by
    refine compLoop_anyD (fun n u => ∃ i G, Inv Y [] (wipe σ (own.map (·.2))) G u ∧ tn i u.heap ∧ (∀ b ∈ fp, G b = none) ∧ W i n G) ?_ m0 ⟨0, G3, I4, at4, no3, begins⟩
    rintro n u5 ⟨i, G5, I5, at5, no5, w5⟩
    have TY := fun (go : Bool) => held I5 no5
    subst hY
    rcases turn i n G5 w5 with ⟨stop, qq⟩ | ⟨go, Nx, hNx, step⟩
    · refine thnF (T.done (X.blk u3 G3 scope ce fp) rfl rfl rfl hc i [] u5 _ G5 (fun _ _ => False) I5 (held I5 no5) at5 stop) fun r u6 ⟨hr, I6⟩ => ?_
      subst hr
      have back : Inv X pins σ G5 u6 := I3.call' (ch := fp) I6.os I6.base I6.hok I6.bare fun b hb => let z := (own3 b hb).1; ⟨z.2.2.2.1, z.2.1, z.2.2.2.2.1, z.2.2.2.2.2⟩
      have nL : G5 u3.heap.objs.size = none := lce ▸ (I6.free : G5 ce.locals = none)
      obtain ⟨m, ns, _⟩ := I6.loc
      exact hend D u3.heap.objs.size u6 m G5 back qq (lce ▸ (ns : u6.heap.Ns ce.locals m)) (I3.fpOk (Nat.le_refl _) nL)
    · refine thnF (T.item (X.blk u3 G3 scope ce fp) rfl rfl rfl hc i [] u5 _ G5 (fun _ _ => False) I5 (held I5 no5) at5 go) fun r u6 ⟨u, hr, h6⟩ => ?_
      subst hr
      refine thnF h6 fun _ u7 ⟨x, G7, I7, r7, y7, at7, no7⟩ => ?_
      refine thnF (pg.run _ u7 _ G7 x u _ (I7.pinned (held I7 no7) (T.obj _ _ at7)) r7 (step x G7 y7)) fun _ u8 ⟨ρ, G8, I8, same, q8⟩ => ?_
      refine thnF (pt.run _ u8 ρ G8 _ I8 q8) fun b u9 ⟨G9, I9, q9⟩ => ?_
      have next : ∀ {u' : Shared} {G' : Hp}, Inv (X.blk u3 G3 scope ce fp) ([] ++ pinsAt fp u7.heap) ρ G' u' → Nx G' → ∃ m, m < n ∧ ∃ i G, Inv (X.blk u3 G3 scope ce fp) [] (wipe σ (own.map (·.2))) G u' ∧ tn i u'.heap ∧ (∀ b ∈ fp, G b = none) ∧ W i m G := fun {u' G'} I' nx => by
        obtain ⟨m', less, w'⟩ := hNx G' nx
        have pinned : ∀ b ∈ fp, ∀ o, u7.heap.get? b = some o → u'.heap.get? b = some o ∧ G' b = none := fun b hb o e => let z := I'.pin (b, o) (List.mem_append_right _ (List.mem_append_right _ (mem_pinsAt hb e))); ⟨z.1, z.2.1⟩
        have hl : (wipe σ (own.map (·.2))).length = ρ.length := by rw [← same, wipe_length]
        refine ⟨m', less, i + 1, G', (I'.unpinned (pins := [])).weak hl (fun j v e => ?_), T.keep _ _ _ at7 fun b hb o e => (pinned b hb o e).1, fun b hb => ?_, w'⟩
        · rw [← same] at e
          exact (wipe_some e).1
        · obtain ⟨o, e, _⟩ := T.obj _ _ at7 b hb
          exact (pinned b hb o e).2
      cases b with
      | false =>
        rw [if_neg Bool.false_ne_true] at q9 ⊢
        exact next I9 q9
      | true =>
        rw [if_pos rfl] at q9 ⊢
        refine thnF (pk.run _ u9 ρ G9 _ I9 q9) fun z u10 ⟨yv, G10, I10, r10, q10⟩ => ?_
        refine thnF (pe.run _ u10 ρ G10 _ I10 q10) fun z2 u11 ⟨zv, G11, I11, r11, T0, ks0, kvs0, ey, atT, at11, room, nx⟩ => ?_
        exact d_dictSetT (X := X.blk u3 G3 scope ce fp) Yu I11 (ey ▸ r10) atT r11 at11 room fun u12 I12 => next I12 nx
  exact codeAny_compStart_dict loop (T.self X.A 0 _ _ _ at4 loop)
theorem pe_dcT {pos : Pos} (hu : X.A.units + 1 < cLine) (hc : X.calm = true) (hN : X.N.Nodup) (hi : PI X tg iter wi) (ok : BlkOk X.N X.env.scope scope own) (B : Blk4 X tg kx elt ifs scope g tt tk te) (hfold : ∀ x, foldedSetIterable iter X.env x = pure x := by intro _; rfl) :
    PE X (.DictComp kx elt [⟨tg, iter, ifs, 0⟩] scope pos) (tDcT wi g tt tk te (own.map (·.2))) := by
  refine ⟨fun pins s σ H Q I h => ?_⟩
  rw [arm_eval_DictComp]
  refine dcT_core hu hc hN I hi ok B hfold h fun D L u m G I' q ns f => ⟨m, ns, fun h'' sb => ?_⟩
  obtain ⟨f0, f1, f2, f3, f4, f5⟩ := f
  exact ⟨.ref D, G, I'.turned (t' := u.toks) (fun b o hb e => (sb.2 b hb).trans e) f0 f1 f3 f4 f5, rfl, q⟩
end
section
variable {J : It} {n : Nat} {Gd : Hp → Prop} {Y : Nat → Hp → V → Hp → Prop}
/-- over anything that is walked: Pv by the turn and the heap (the new dict at D within) -/
theorem dcT_it (w : Walk J n Gd Y) {g : TG} {tt : TT} {tk te : TE} {vs : List Nat} {σ : St} {H1 : Hp} {D : Addr} {Qd : Hp → Prop} (Pv : Nat → Hp → Prop) (h0 : Pv 0 (upd H1 D (.dT []))) (hG : ∀ i G, i ≤ n → Pv i G → Gd G)
    (each : ∀ i x G G', i < n → Pv i G → Y i G x G' → DTurnT D g tt tk te vs σ (Pv (i + 1)) x G') (hd : ∀ G, Pv n G → Qd G) : DWalkT J D g tt tk te vs σ H1 Qd := by
  refine ⟨fun i m G => m = n - i ∧ i ≤ n ∧ Pv i G, ⟨n, rfl, Nat.zero_le n, h0⟩, ?_⟩
  rintro i m G ⟨em, le, pv⟩
  have gd := hG i G le pv
  rcases Nat.lt_or_ge i n with lt | ge
  · exact .inr ⟨w.goes i G lt gd, Pv (i + 1), fun G' pv' => ⟨n - (i + 1), by omega, rfl, lt, pv'⟩, fun x G' y => each i x G G' lt pv (w.yields i G x G' lt gd y)⟩
  · have ei : i = n := Nat.le_antisymm le ge
    rw [ei] at pv ⊢
    exact .inl ⟨w.stops G gd, hd G pv⟩
end
end L2

/-! dict(l) of a list of pairs whose keys are tuples -/
namespace L2
open PySem PySem.Spec PyProof.Rows
def mergedH {κ : Type} [DecidableEq κ] (acc more : List (κ × Addr × Value)) : List (κ × Addr × Value) := more.foldl (fun a q => storedH a q.1 q.2.1 q.2.2) acc
def mergeT (kvs more : List (List Key × V)) : List (List Key × V) := more.foldl (fun acc kv => putK acc kv.1 kv.2) kvs
theorem storedH_le {κ : Type} [DecidableEq κ] (xs : List (κ × Addr × Value)) (k : κ) (a : Addr) (v : Value) : (storedH xs k a v).length ≤ xs.length + 1 := by
  unfold storedH
  split
  · rw [List.length_map]; omega
  · rw [List.length_append]; exact Nat.le_refl _
theorem mem_stored {κ : Type} [DecidableEq κ] {xs : List (κ × Addr × Value)} {k : κ} {a : Addr} {v : Value} {x : κ × Addr × Value} (h : x ∈ storedH xs k a v) : (∃ y ∈ xs, y.2.1 = x.2.1) ∨ x.2.1 = a := by
  unfold storedH at h
  split at h
  · obtain ⟨y, hy, e⟩ := List.mem_map.mp h
    refine .inl ⟨y, hy, ?_⟩
    rw [← e]
    unfold putAt
    split <;> rfl
  · rcases List.mem_append.mp h with q | q
    · exact .inl ⟨x, q, rfl⟩
    · rw [List.mem_singleton.mp q]
      exact .inr rfl
theorem tkey_at {P : Program} {w : World} {h h' : Heap} {ks : List Key} {a : Addr} (x : (tupleKind (mixKind P w)).is h ks a) (k : ∀ o, h.get? a = some o → h'.get? a = some o) : (tupleKind (mixKind P w)).is h' ks a := by
  obtain ⟨o, its, n, h1, h2, h3, h4⟩ := x
  exact ⟨o, its, n, k _ h1, h2, h3, h4⟩
theorem dH_at {P : Program} {w : World} {h h' : Heap} {d : Addr} {xs : List (List Key × Addr × Value)} (x : h.DictOfH (tupleKind (mixKind P w)) d xs) (kd : ∀ o, h.get? d = some o → h'.get? d = some o) (kk : ∀ y ∈ xs, ∀ o, h.get? y.2.1 = some o → h'.get? y.2.1 = some o) : h'.DictOfH (tupleKind (mixKind P w)) d xs := by
  obtain ⟨o, es, ep, h1, h2, h3, h4, h5, h6⟩ := x
  exact ⟨o, es, ep, kd _ h1, h2, h3, h4, fun y hy => tkey_at (h5 y hy) (kk y hy), h6⟩
section
variable {prog : Program} {w : World} {A : Around} {E : Value → Shared → Prop}
theorem upd_loopT {R : Result → Shared → Prop} {S I l : Addr} {items : Array Value} {res : Value} (hr : A.units + 1 < cLine) (hh : A.handled = none) (hlI : l ≠ I) (hSI : S ≠ I) (hSl : S ≠ l) :
    ∀ (rest : List (List Key × Addr × Value)) (i : Nat) (acc : List (List Key × Addr × Value)) (ix : Int) (t : Tok) (s : Shared), items.size = i + rest.length → acc.length + rest.length ≤ sizeLine →
      (∀ (j : Nat) (q : List Key × Addr × Value), rest[j]? = some q → ∃ b : Addr, items[i + j]? = some (.ref b) ∧ b ≠ S ∧ b ≠ I ∧ q.2.1 ≠ S ∧ q.2.1 ≠ I ∧ IsTup s.heap b #[.ref q.2.1, q.2.2] ∧ (tupleKind (mixKind prog w)).is s.heap q.1 q.2.1) →
      (∀ x ∈ acc, x.2.1 ≠ S ∧ x.2.1 ≠ I) → s.heap.IsListIter I l i → s.heap.IsList l items → s.heap.DictOfH (tupleKind (mixKind prog w)) S acc →
      (∀ h' tk, h'.DictOfH (tupleKind (mixKind prog w)) S (mergedH acc rest) → (∀ b o, b ≠ S → b ≠ I → s.heap.get? b = some o → h'.get? b = some o) → R (.ok (.ret res)) { s with heap := h', toks := tk }) →
      codeAny (model prog w) A (.builtin "dict.update.loop" ⟨[.ref S, .ref I, .int ix t, res], []⟩) R s
  | [], i, acc, ix, t, s, hsz, hln, ht, hac, hit, hl, hm, hR => by
    refine codeAny_builtin ud_entry ?_
    rw [Around.under_plainId ud_plain _]
    show wpAny _ A.in1 (pyNext (.ref I) >>= _) _ _ s
    refine wpAny_bind (wpAny_pyNext_list_end (A := A.in1) hh hit hl (by first | exact Array.getElem?_eq_none (Nat.le_of_eq hsz) | (simp at hsz; simp; omega)) fun h' he => ?_)
    show wpAny _ A.in1 (Builtin.Dict.addKeywords S [] >>= _) _ _ _
    refine wpAny_bind (wpAny_pure (wpAny_pure ?_))
    exact hR h' s.toks (dH_at hm (fun o e => he S o hSI e) fun y hy o e => he _ o (hac y hy).2 e) fun b o _ hb e => he b o hb e
  | q :: rest, i, acc, ix, t, s, hsz, hln, ht, hac, hit, hl, hm, hR => by
    obtain ⟨b, hb, hbS, hbI, hqS, hqI, htup, hk⟩ := ht 0 q rfl
    rw [List.length_cons] at hsz hln
    refine codeAny_builtin ud_entry ?_
    rw [Around.under_plainId ud_plain _]
    show wpAny _ A.in1 (pyNext (.ref I) >>= _) _ _ s
    refine wpAny_bind (wpAny_pyNext_list_item (x := .ref b) hit hl (by simpa using hb) fun h1 hit1 hs1 => ?_)
    have ht1 : IsTup h1 b #[.ref q.2.1, q.2.2] := htup.extBut hs1.extBut hbI
    have hl1 : h1.IsList l items := hl.extBut hs1.extBut hlI
    have hm1 : h1.DictOfH (tupleKind (mixKind prog w)) S acc := dH_at hm (fun o e => hs1.extBut S o hSI e) fun y hy o e => hs1.extBut _ o (hac y hy).2 e
    have hk1 : (tupleKind (mixKind prog w)).is h1 q.1 q.2.1 := tkey_at hk fun o e => hs1.extBut _ o hqI e
    obtain ⟨o, ho, hc, n, hd⟩ := id ht1
    show wpAny _ A.in1 (holding [Value.ref b] _ >>= _) _ _ _
    refine wpAny_bind (wpAny_holding ?_)
    refine wpAny_bind (wpAny_tryCatch ?_)
    unfold Builtin.Dict.pairItems
    refine wpAny_bind (wpAny_typeOf (T := "tuple") ⟨o, ho, hc⟩ ?_)
    rw [if_pos (by first | decide | rfl | simp)]
    refine wpAny_bind (wpAny_seqItems ho hd (wpAny_pure ?_))
    show wpAny _ A.in1 (holding [.ref q.2.1, q.2.2] (dictSet S (.ref q.2.1) q.2.2)) _ _ _
    refine wpAny_holding (wpAny_dictSet_heap (hsz := by omega) (show (tupleKind (mixKind prog w)).room A.in1 from hr) hk1 hm1 fun h2 hm2 hs2 => ?_)
    refine wpAny_pure ⟨plainId_quiet ud_plain _, upd_loopT (items := items) hr hh hlI hSI hSl rest (i + 1) (storedH acc q.1 q.2.1 q.2.2) (ix + 1) 0 _ (show items.size = i + 1 + rest.length by omega) ?_ (fun j q' e => ?_) (fun x hx => ?_) ?_ ?_ hm2 fun h' tk hd' k => ?_⟩
    · have z := storedH_le acc q.1 q.2.1 q.2.2
      omega
    · obtain ⟨b', hb', hbS', hbI', hqS', hqI', htup', hk'⟩ := ht (j + 1) q' (by simpa using e)
      refine ⟨b', ?_, hbS', hbI', hqS', hqI', (htup'.extBut hs1.extBut hbI').extBut hs2.extBut hbS', tkey_at (tkey_at hk' fun o e => hs1.extBut _ o hqI' e) fun o e => hs2.extBut _ o hqS' e⟩
      rw [show i + 1 + j = i + (j + 1) by omega]
      exact hb'
    · rcases mem_stored hx with ⟨y, hy, e⟩ | e
      · rw [← e]; exact hac y hy
      · rw [e]; exact ⟨hqS, hqI⟩
    · exact hit1.at fun o' e => hs2.extBut I o' (Ne.symm hSI) e
    · exact hl1.extBut hs2.extBut (Ne.symm hSl)
    · exact hR h' tk hd' fun c oc h3 h4 e => k c oc h3 h4 (hs2.extBut c oc h3 (hs1.extBut c oc h4 e))
theorem call_dict_pairsT {s : Shared} {l : Addr} {ol : Obj} {items : Array Value} {n : Nat} {prs : List (List Key × Addr × Value)} {Q : Value → Shared → Prop} (hr : A.units + 2 < cLine) (hh : A.handled = none) (hl : s.heap.get? l = some ol) (hc : ol.cls = .type "list") (hd : ol.dict = none)
    (hdat : ol.data = .seq items n) (hsz : items.size = prs.length) (hln : prs.length ≤ sizeLine)
    (ht : ∀ (j : Nat) (q : List Key × Addr × Value), prs[j]? = some q → ∃ b : Addr, items[j]? = some (.ref b) ∧ IsTup s.heap b #[.ref q.2.1, q.2.2] ∧ (tupleKind (mixKind prog w)).is s.heap q.1 q.2.1)
    (h : ∀ h' tk, h'.DictOfH (tupleKind (mixKind prog w)) s.heap.objs.size (mergedH [] prs) → (∀ b o, s.heap.get? b = some o → h'.get? b = some o) → Q (.ref s.heap.objs.size) { s with heap := h', toks := tk }) :
    wpAny (model prog w) A (call (.type "dict") [.ref l]) Q E s := by
  refine callType_codes (Q₁ := fun obj s₁ => obj = .ref s.heap.objs.size ∧ s₁ = { s with heap := s.heap.push { cls := .type "dict", data := .dict #[] } }) PySem.F.kt_called_dict (PySem.F.kt_typeCall_dict_1 _) PySem.F.entry_dict_init (kt_code_dict_new _ ⟨rfl, rfl⟩) ?_
  rintro obj s₁ ⟨rfl, rfl⟩
  have hnew : (s.heap.push { cls := .type "dict", data := .dict #[] }).DictOfH (tupleKind (mixKind prog w)) s.heap.objs.size [] := Heap.DictOfH.new s.heap
  have k0 : ∀ b o, s.heap.get? b = some o → (s.heap.push { cls := .type "dict", data := .dict #[] }).get? b = some o := fun b o e => Heap.get?_push_of_some _ e
  refine ⟨⟨_, Heap.get?_push_size _ rfl, rfl⟩, PySem.F.args_dict_init_2 _ _, ?_⟩
  unfold Builtin.«dict.__init__»
  refine wpAny_bind ?_
  unfold Builtin.Dict.selfAndRest
  refine wpAny_bind (wpAny_notOrdered_dict ⟨_, Heap.get?_push_size _ rfl, rfl⟩ ?_)
  show wpAny _ _ (pure (s.heap.objs.size, [Value.ref l])) _ _ _
  refine wpAny_pure ?_
  show wpAny _ _ (Builtin.Dict.updateFrom "dict.__init__" s.heap.objs.size (.ref l) [] .none) _ _ _
  unfold Builtin.Dict.updateFrom
  refine wpAny_bind (wpAny_typeOf (T := "list") ⟨ol, k0 _ _ hl, hc⟩ ?_)
  rw [if_pos (by first | decide | rfl | simp)]
  refine wpAny_bind (miss_list (k0 _ _ hl) hc hdat hd hh fun h1 tk1 hk1 => ?_)
  rw [if_pos (show (none : Option Value).isNone = true from rfl)]
  refine wpAny_bind (wpAny_rule ?_)
  have hl1 : h1.IsList l items := ⟨ol, hk1 _ _ (k0 _ _ hl), hc, n, hdat⟩
  have hS1 : s.heap.objs.size < h1.objs.size := by
    have e : (s.heap.push { cls := .type "dict", data := .dict #[] }).get? s.heap.objs.size = some { cls := .type "dict", data := .dict #[] } := Heap.get?_push_size _ rfl
    exact Heap.lt_size (hk1 _ _ e)
  refine wpAny_bind (wpAny_pyIter_list hl1 ?_)
  have k2 : ∀ b o, h1.get? b = some o → (h1.push { cls := .type "list_iterator", data := .fields #[.ref l, .int 0 0] }).get? b = some o := fun b o e => Heap.get?_push_of_some _ e
  have hlt : l < s.heap.objs.size := Heap.lt_size hl
  have key := upd_loopT (prog := prog) (w := w) (A := A.in1) (R := wants (fun r s₂ => r = .none ∧ Q (.ref s.heap.objs.size) s₂) E) (S := s.heap.objs.size) (I := h1.objs.size) (l := l) (items := items) (res := Value.none) (show A.in1.units + 1 < cLine from hr) hh
    (Nat.ne_of_lt (Nat.lt_trans hlt hS1)) (Nat.ne_of_lt hS1) (Nat.ne_of_gt hlt) prs 0 [] 0 0
    { s with heap := h1.push { cls := .type "list_iterator", data := .fields #[.ref l, .int 0 0] }, toks := tk1 } (by rw [hsz, Nat.zero_add]) (by rw [List.length_nil, Nat.zero_add]; exact hln)
    (fun j q e => by
      obtain ⟨b, e1, e2, e3⟩ := ht j q e
      have hb : b < s.heap.objs.size := e2.lt
      have hq : q.2.1 < s.heap.objs.size := by
        obtain ⟨o, _, _, h1, _⟩ := e3
        exact Heap.lt_size h1
      exact ⟨b, by rw [Nat.zero_add]; exact e1, Nat.ne_of_lt hb, Nat.ne_of_lt (Nat.lt_trans hb hS1), Nat.ne_of_lt hq, Nat.ne_of_lt (Nat.lt_trans hq hS1), e2.keeps fun c o z => k2 _ _ (hk1 _ _ (k0 _ _ z)), tkey_at e3 fun o z => k2 _ _ (hk1 _ _ (k0 _ _ z))⟩)
    (fun _ z => nomatch z) ⟨_, Heap.get?_push_size _ rfl, rfl, rfl⟩ (hl1.at fun o e => k2 _ _ e) (dH_at (dH_at hnew (fun o e => hk1 _ _ e) fun _ z => nomatch z) (fun o e => k2 _ _ e) fun _ z => nomatch z)
    (fun h' tk hd' k => ⟨rfl, h h' tk hd' fun b o e => k b o (Nat.ne_of_lt (Heap.lt_size e)) (Nat.ne_of_lt (Nat.lt_trans (Heap.lt_size e) hS1)) (k2 _ _ (hk1 _ _ (k0 _ _ e)))⟩)
  first
    | exact wpAny_pure ⟨plainId_quiet ud_plain _, key⟩
    | exact wpAny_bind (wpAny_pure (wpAny_pure ⟨plainId_quiet ud_plain _, key⟩))
end
section
variable {X : Cx}
theorem KT.merge {H : Hp} : ∀ {more : List (List Key × V)} {xm : List (List Key × Addr × Value)} {acc : List (List Key × V)} {xa : List (List Key × Addr × Value)}, KT H more xm → KT H acc xa → KT H (mergeT acc more) (mergedH xa xm)
  | _, _, _, _, .nil, r => r
  | p :: more, q :: xm, acc, xa, .cons h t, r => by
    obtain ⟨k, v⟩ := p
    obtain ⟨k', a, u⟩ := q
    obtain ⟨e, h1, h2⟩ := h
    cases (show k = k' from e)
    show KT H (mergeT (putK acc k v) more) (mergedH (storedH xa k a u) xm)
    exact KT.merge t (r.put k h1 h2)
theorem mergeT_le : ∀ (more acc : List (List Key × V)), (mergeT acc more).length ≤ acc.length + more.length
  | [], acc => Nat.le_refl _
  | p :: more, acc => by
    have h := mergeT_le more (putK acc p.1 p.2)
    have h2 := length_putK acc p.1 p.2
    show (mergeT (putK acc p.1 p.2) more).length ≤ _
    rw [List.length_cons]
    omega
theorem pairs_ofT {pins : List (Addr × Obj)} {σ : St} {H : Hp} {s : Shared} (I : Inv X pins σ H s) : ∀ {ps : List Addr} {kvs : List (List Key × V)}, Paired (fun (p : Addr) (kv : List Key × V) => ∃ b, H p = some (.tup [V.ref b, kv.2]) ∧ H b = some (.tup (kv.1.map kV))) ps kvs →
    ∃ prs : List (List Key × Addr × Value), KT H kvs prs ∧ prs.length = ps.length ∧ ∀ (j : Nat) (q : List Key × Addr × Value), prs[j]? = some q → ∃ b : Addr, ps[j]? = some b ∧ IsTup s.heap b #[.ref q.2.1, q.2.2] ∧ (tupleKind (mixKind X.prog X.w)).is s.heap q.1 q.2.1
  | _, _, .nil => ⟨[], .nil, rfl, fun j q e => by simp at e⟩
  | _, _, .cons (a := p) (b := kv) h t => by
    obtain ⟨prs, r, hl, hp⟩ := pairs_ofT I t
    obtain ⟨b, h1, h2⟩ := h
    obtain ⟨its, rv, ht, _⟩ := I.tuple (SqT.of (K := X.K) h1)
    obtain ⟨u, y, ei, ru, ry⟩ := vals2 rv
    subst ei
    cases (show u = Value.ref b from ru)
    refine ⟨(kv.1, b, y) :: prs, .cons ⟨rfl, h2, ry⟩ r, by rw [List.length_cons, List.length_cons, hl], fun j q e => ?_⟩
    cases j with
    | zero =>
      have e' : (kv.1, b, y) = q := Option.some.inj e
      subst e'
      exact ⟨p, rfl, ht, key_of I.hok h2⟩
    | succ j =>
      obtain ⟨b', e1, e2, e3⟩ := hp j q (by simpa using e)
      exact ⟨b', by simpa using e1, e2, e3⟩
/-- dict(xs) of a list of pairs (tuple, value) -/
theorem call_dictPT (hu : X.A.units + 2 < cLine) (hcalm : X.calm = true) : CallR X (.type "dict") (fun xs H Q => ∃ (a : Addr) (ps : List Addr) (kvs : List (List Key × V)), xs = [.ref a] ∧ SqL X.K H a (ps.map V.ref) ∧ Paired (fun (p : Addr) (kv : List Key × V) => ∃ b, H p = some (.tup [V.ref b, kv.2]) ∧ H b = some (.tup (kv.1.map kV))) ps kvs ∧
    ∀ p, H p = none → Q (.ref p) (upd H p (.dT (mergeT [] kvs)))) := by
  intro pins s σ H xs us Q I r q
  obtain ⟨a, ps, kvs, ex, hq, hp, q⟩ := q
  subst ex
  obtain ⟨u, eu, rx⟩ := vals1 r
  subst eu
  cases rx
  obtain ⟨its, rv, pl, hz⟩ := I.list hq
  have ei := refs_at rv
  subst ei
  rw [List.length_map] at hz
  obtain ⟨prs, rel, hl, hpr⟩ := pairs_ofT I hp
  obtain ⟨o, n, ho, hc, hd, hdat⟩ := pl
  refine call_dict_pairsT (prs := prs) hu (I.ok.hd hcalm) ho hc hd hdat (by simp [hl]) (by rw [hl]; exact hz) (fun j q' e => ?_) fun h' tk hd' k => ?_
  · obtain ⟨b, e1, e2, e3⟩ := hpr j q' e
    exact ⟨b, by simp [e1], e2, e3⟩
  · have hm : (s.heap.objs.size == sysModules) = false := beq_eq_false_iff_ne.mpr (Nat.ne_of_gt I.big)
    have hlen : (mergeT [] kvs).length ≤ sizeLine := by
      refine Nat.le_trans (mergeT_le kvs []) ?_
      rw [List.length_nil, Nat.zero_add, Paired.length rel, hl]
      exact hz
    obtain ⟨oo, es, ep, h1, h2, h3, h4, _, h6⟩ := hd'
    have kt : KT H (mergeT [] kvs) (mergedH [] prs) := KT.merge rel .nil
    have hfr := I.hok.fresh (Nat.le_refl s.heap.objs.size)
    refine ⟨.ref s.heap.objs.size, upd H s.heap.objs.size (.dT (mergeT [] kvs)), I.laid (t' := tk) k (Nat.le_refl _) (show ObjOk X.prog X.w _ _ _ (.dT (mergeT [] kvs)) from ⟨hlen, hm, mergedH [] prs, kt.keeps fun c ys ec => ?_, oo, es, ep, h1, h2, h3, h4, h6⟩), rfl, q _ hfr⟩
    rw [upd_ne (ne_of_none ec hfr)]
    exact ec
end
end L2

namespace RK
open PySem L2
theorem merge_P {g : Str × Str → Int} : ∀ {m l : List (Str × Str)}, (l ++ m).Nodup → mergeT (kvP l g) (kvP m g) = kvP (l ++ m) g
  | [], l, _ => by rw [List.append_nil]; rfl
  | p :: m, l, h => by
    have hp : p ∉ l := fun z => (List.nodup_append.mp h).2.2 p z p List.mem_cons_self rfl
    show mergeT (putK (kvP l g) (kP p) (.int (g p))) (kvP m g) = _
    rw [put_P_new hp, merge_P (by rw [List.append_assoc]; exact h), List.append_assoc]
    rfl
def spWTable : Sp := fun vs H Q _ => ∃ (d : Addr) (zs : List Str) (kvs : List (Key × V)), vs = [.ref d] ∧ H d = some (.dK kvs) ∧ Sta zs zs kvs ∧ zs.Nodup ∧ zs.length ≤ 1000 ∧ ∀ e H', H e = none → H' e = some (.dT (kvP (pairsOf zs) (netF zs kvs))) → Same H H' → Q (.ref e) H'
section
variable {P : Program} {w : World} {K : PySem.W.Frag} {mg : Str → Option Value} {base : Heap}
theorem scWTable : FnScope ["stand", "x", "y"] ["stand"] (defScope sWTable) := ⟨rfl, rfl, rfl, by decide +kernel, rfl, by decide +kernel, by decide +kernel⟩
theorem ok_wtable {f fP fN : Addr} {fd fdP fdN : FuncData} (F : Fun K "_law_w_table" "_law_w_table" sWTable f fd) (B : B0 K mg)
    (GP : FnOk P w K mg base CX0 1 fP fdP ["names"] spPairsOf) (bP : Binds K fdP ["names"] []) (gP : mg "_law_w_pairs" = some (.ref fP)) (kPb : PySem.W.keepIn K (.ref fP) = true)
    (GN : FnOk P w K mg base CX0 1 fN fdN ["stand", "one", "other"] spWNet) (bN : Binds K fdN ["stand", "one", "other"] []) (gN : mg "_law_w_net" = some (.ref fN)) (kN : PySem.W.keepIn K (.ref fN) = true) :
    FnOk P w K mg base CX0 2 f fd ["stand"] spWTable := by
  refine F.ok scWTable (fun vs H Q E h => ?_) (fun cdv A outer s H vs Q E hr h => ?_)
  · obtain ⟨d, zs, kvs, rfl, _⟩ := h
    rfl
  · obtain ⟨d, zs, kvs, rfl, hd, hst, hnd, hl, q⟩ := h
    have hu2 : _ + 2 < cLine := Nat.lt_of_le_of_lt (Nat.add_le_add_left (by decide : 2 ≤ 64) _) hr.units
    refine ⟨_, pss_one (ps_ret (pe_callTy (call_dictPT hu2 rfl) (by rfl) B.dict (by decide +kernel) (pa_cons (pe_lc (te := tTup (tCons (tTup (tCons (tVar 1) (tCons (tVar 2) tNil))) (tCons (tCall spWNet [] E0 (tCons (tVar 0) (tCons (tVar 1) (tCons (tVar 2) tNil)))) tNil))) (own := [("x", 1), ("y", 2)]) (g := gTup K 2 (gCons (gName 1) (gCons (gName 2) gNil))) (tt := tYes) rfl scWTable.nd (pi_list (pe_call GP hr (by rfl) gP kPb bP .nil pass0 (pa_cons (pe_callTy (call_list_dK rfl) (by rfl) B.list (by decide +kernel) (pa_cons (pv 0) pa_nil)) pa_nil))) (blkOk_by (N := ["stand", "x", "y"]) (sc := defScope sWTable) (by decide +kernel))
        (fun _ _ _ _ _ => by exact (pg_tup rfl (pgs_cons (pg_name (i := 1) scWTable.nd rfl (Or.inl rfl)) (pgs_cons (pg_name (i := 2) scWTable.nd rfl (Or.inl rfl)) pgs_nil)))) (fun _ _ _ _ _ => pts_nil)
        (fun _ _ _ _ _ => by exact (pe_tup (pa_cons (pe_tup (pa_cons (pv 1) (pa_cons (pv 2) pa_nil))) (pa_cons (pe_call GN hr (by rfl) gN kN bN .nil pass0 (pa_cons (pv 0) (pa_cons (pv 1) (pa_cons (pv 2) pa_nil)))) pa_nil))))) pa_nil))), ?_⟩
    refine ⟨_, rfl, d, kvs, rfl, hd, fun L hL => ?_⟩
    have hkl : (kvs.map fun kv => kV kv.1) = zs.map V.str := by rw [hst.kv]; exact keys_list
    rw [hkl]
    generalize hE : upd H L _ = H1
    have s1 : Same H H1 := hE ▸ same_upd hL
    have e1 := congrFun hE.symm L
    rw [upd_same] at e1
    clear hE
    refine ⟨L, zs, rfl, e1, hl, fun p H2 hp0 hpa s2 => ?_⟩
    obtain ⟨ts, hts, hpr⟩ := hpa
    have s12 := s1.trans s2
    have tsl : (ts.map V.ref).length = (pairsOf zs).length := by rw [List.length_map]; exact Paired.length hpr
    refine ⟨p, rfl, ⟨_, SqL.of hts⟩, fun D hD => ?_⟩
    refine lc_it (walk_list (K := K) (a := p) (xs := ts.map V.ref)) (fun i G => Same H2 G ∧ ∃ us : List Addr, G D = some (.lst (us.map V.ref)) ∧ Paired (fun (t : Addr) (kv : List Key × V) => t ≠ D ∧ ∃ b, b ≠ D ∧ G t = some (.tup [.ref b, kv.2]) ∧ G b = some (.tup (kv.1.map kV))) us (kvP ((pairsOf zs).take i) (netF zs kvs))) ⟨same_upd hD, [], upd_same, .nil⟩ (fun i G _ z => SqL.of (z.1 _ _ hts)) ?_ ?_
    · rintro i x G1 G2 hi ⟨sm, us, hacc, hus⟩ ⟨rfl, hx⟩
      obtain ⟨T, hT, rfl⟩ := get_map hx
      obtain ⟨pr, hpri, hTp, hTo⟩ := paired_get hpr hT
      have hpm : pr ∈ pairsOf zs := List.mem_of_getElem? hpri
      obtain ⟨pm1, pm2, pm3⟩ := mem_pairs.mp (show (pr.1, pr.2) ∈ pairsOf zs from hpm)
      refine ⟨T, _, rfl, SqT.of (sm _ _ hTo), rfl, _, _, rfl, _, _, rfl, rfl, rfl, tyes ?_⟩
      refine ⟨_, rfl, _, rfl, by show 2 ≤ sizeLine; decide, fun U hU => ?_⟩
      generalize hE : upd G2 U _ = G3
      have s3 : Same G2 G3 := hE ▸ same_upd hU
      have eU := congrFun hE.symm U
      rw [upd_same] at eU
      clear hE
      refine ⟨_, rfl, _, rfl, _, rfl, d, zs, kvs, pr.1, pr.2, rfl, s3 _ _ (sm _ _ (s12 _ _ hd)), hst, pm1, pm2, hl, fun G4 s4 => ⟨by show 2 ≤ sizeLine; decide, fun R hR => ?_⟩⟩
      generalize hE : upd G4 R _ = G5
      have s5 : Same G4 G5 := hE ▸ same_upd hR
      have eR := congrFun hE.symm R
      rw [upd_same] at eR
      clear hE
      have s25 := s3.trans (s4.trans s5)
      have usl : us.length = i := by
        rw [Paired.length hus, kvP_len, List.length_take]
        rw [tsl] at hi
        omega
      have hDU : U ≠ D := Ne.symm (ne_of_none hacc hU)
      have hDR : R ≠ D := Ne.symm (ne_of_none (s4 _ _ (s3 _ _ hacc)) hR)
      refine ⟨_, s25 _ _ hacc, ?_, fun b o hb => ?_, us ++ [R], ?_, ?_⟩
      · rw [List.length_map, usl]
        rw [tsl] at hi
        exact Nat.lt_trans hi (Nat.lt_of_le_of_lt from_len (sq_room hl))
      · rw [upd_ne (ne_of_none hb hD)]
        exact s25 _ _ (sm _ _ hb)
      · rw [upd_same, List.map_append]
        rfl
      · rw [take_more hpri]
        have ek : kvP ((pairsOf zs).take i ++ [pr]) (netF zs kvs) = kvP ((pairsOf zs).take i) (netF zs kvs) ++ [(kP pr, V.int (netF zs kvs pr))] := by
          unfold kvP
          rw [List.map_append, List.map_singleton]
        rw [ek]
        refine Paired.snoc (Paired.mono (fun t kv h => ⟨h.1, ?_⟩) hus) ⟨hDR, U, hDU, by rw [upd_ne hDR]; exact eR, by rw [upd_ne hDU]; exact s5 _ _ (s4 _ _ eU)⟩
        obtain ⟨b, h1, h2, h3⟩ := h.2
        exact ⟨b, h1, by rw [upd_ne h.1]; exact s25 _ _ h2, by rw [upd_ne h1]; exact s25 _ _ h3⟩
    · rintro G ⟨sm, us, hacc, hus⟩
      rw [tsl, List.take_length] at hus
      refine ⟨D, us, _, rfl, SqL.of hacc, Paired.mono (fun t kv h => let ⟨b, _, h2, h3⟩ := h.2; ⟨b, h2, h3⟩) hus, fun e he => ?_⟩
      have em : mergeT [] (kvP (pairsOf zs) (netF zs kvs)) = kvP (pairsOf zs) (netF zs kvs) := merge_P (l := []) (nodup_pairs hnd)
      rw [em]
      have s2G := s12.trans sm
      exact q e _ (s2G.free he) upd_same (s2G.trans (same_upd he))
theorem scWByNets : FnScope ["names", "nets", "found", "rank", "one", "other"] ["names", "nets"] (defScope sWByNets) := ⟨rfl, rfl, rfl, by decide +kernel, rfl, by decide +kernel, by decide +kernel⟩
theorem ok_wbynets {f : Addr} {fd : FuncData} (F : Fun K "_law_w_by_nets" "_law_w_by_nets" sWByNets f fd) (B : B0 K mg) (zsum : mg "sum" = none) :
    FnOk P w K mg base CX0 2 f fd ["names", "nets"] spPlacedBy := by
  refine F.ok scWByNets (fun vs H Q E h => ?_) (fun cdv A outer s H vs Q E hr h => ?_)
  · obtain ⟨n, e, zs, kvt, g, rfl, _⟩ := h
    rfl
  · obtain ⟨n, e, zs, kvt, g, rfl, hn, he, hval, hnd, hl, q⟩ := h
    have hu := hu_of hr
    refine ⟨_, pss_cons (ps_set (i := 2) scWByNets.nd rfl (Or.inl rfl) pe_dnewK)
      (pss_cons (ps_for PassesOwn.never rfl (pi_enum (by rfl) B.enum (pa_cons (pv 0) pa_nil)) (pg_tup rfl (pgs_cons (pg_name (i := 3) scWByNets.nd rfl (Or.inl rfl)) (pgs_cons (pg_name (i := 4) scWByNets.nd rfl (Or.inr rfl)) pgs_nil)))
        (pss_one (ps_dput hu (pv 2) (pv 4) (pe_op op_add (pv 3) (pe_callB (cr_sum rfl) (by rfl) zsum (by decide +kernel) (pa_cons (pe_lc (te := tDGet (tVar 1) (tTup (tCons (tVar 4) (tCons (tVar 5) tNil)))) (own := [("other", 5)]) (g := gName 5) (tt := tTest (tOp rNe (tVar 5) (tVar 4))) rfl scWByNets.nd (pi_list (pv 0)) (blkOk_by (N := ["names", "nets", "found", "rank", "one", "other"]) (sc := defScope sWByNets) (by decide +kernel))
          (fun _ _ _ _ _ => pg_name (i := 5) scWByNets.nd rfl (Or.inl rfl)) (fun _ _ _ _ _ => by exact (pts_one (pt_cmpR op_ne (pv 5) (pv 4) (nomark _)))) (fun _ _ _ _ _ => by exact (pe_dget hu (pv 1) (pe_tup (pa_cons (pv 4) (pa_cons (pv 5) pa_nil))) (fun _ _ => rfl)))) pa_nil))) rfl)))
      (pss_one (ps_ret (pv 2)))), ?_⟩
    refine fun f1 hf1 => ?_
    generalize hE : upd H f1 _ = H1
    have s1 : Same H H1 := hE ▸ same_upd hf1
    have ef := congrFun hE.symm f1
    rw [upd_same] at ef
    clear hE
    have hnf : n ≠ f1 := ne_of_none hn hf1
    have hef : e ≠ f1 := ne_of_none he hf1
    have hlen : (zs.map V.str).length = zs.length := List.length_map _
    refine ⟨_, rfl, n, _, rfl, SqL.of (s1 _ _ hn), for_it (walk_enum (K := K) (a := n) (xs := zs.map V.str)) (fun i σ G => ∃ w3 w4, σ = [some (.ref n), some (.ref e), some (.ref f1), w3, w4, none] ∧ But f1 H1 G ∧ G f1 = some (.dK (kvOf (zs.take i) (placedG zs g)))) ⟨none, none, rfl, Same.but (Same.refl H1), ef⟩ (fun i σ G _ ⟨_, _, _, b, _⟩ => SqL.of (b _ _ hnf (s1 _ _ hn))) ?_ ?_⟩
    · rintro i x σ G1 G2 hi ⟨w3, w4, rfl, bG, eG⟩ ⟨T, x1, y, rfl, hT, rfl, hx1, hy⟩
      cases hx1
      replace hy : (zs.map V.str)[i]? = some y := hy
      obtain ⟨z, hz, hzm, rfl⟩ := name_at hy
      have sT := same_upd (o := .tup [.int (i : Nat), V.str z]) hT
      have eT : (upd G1 T (.tup [.int (i : Nat), V.str z])) T = some (.tup [.int (i : Nat), V.str z]) := upd_same
      generalize upd G1 T (.tup [.int (i : Nat), V.str z]) = G2 at sT eT
      have bG2 := bG.trans (Same.but sT)
      have hn2 := bG2 _ _ hnf (s1 _ _ hn)
      have he2 := bG2 _ _ hef (s1 _ _ he)
      refine ⟨T, _, rfl, SqT.of eT, rfl, _, _, rfl, _, _, rfl, rfl, ?_⟩
      refine ⟨_, rfl, _, rfl, n, rfl, ⟨_, SqL.of hn2⟩, fun D2 hD2 => ?_⟩
      refine lc_it (walk_list (K := K) (a := n) (xs := zs.map V.str)) (fun j G => Same G2 G ∧ G D2 = some (.lst (((zs.take j).filter fun y => decide (y ≠ z)).map fun y => V.int (g (z, y))))) ⟨same_upd hD2, upd_same⟩ (fun i G _ p => SqL.of (p.1 _ _ hn2)) ?_ ?_
      · rintro j x G3 G4 hj ⟨sm3, hacc3⟩ ⟨rfl, hy3⟩
        obtain ⟨y, hy, hym, rfl⟩ := name_at hy3
        refine ⟨rfl, _, rfl, _, rfl, rfl, _, rfl, ?_⟩
        rw [take_more hy, List.filter_append, List.map_append]
        refine ite2 (fun h => ?_) (fun h => ?_)
        · have hyz : y ≠ z := fun e => by subst e; simp at h
          have ef : ([y].filter fun y => decide (y ≠ z)) = [y] := by
            rw [List.filter_cons, if_pos (decide_eq_true hyz)]
            rfl
          rw [ef]
          refine ⟨_, rfl, _, rfl, _, rfl, by show 2 ≤ sizeLine; decide, fun T hT => ?_⟩
          generalize hE : upd G4 T _ = G5
          have s5 : Same G4 G5 := hE ▸ same_upd hT
          have eT := congrFun hE.symm T
          rw [upd_same] at eT
          clear hE
          refine ⟨e, _, rfl, hval (z, y) (mem_pairs.mpr ⟨hzm, hym, Ne.symm hyz⟩) ▸ DGet.t (k := kP (z, y)) (s5 _ _ (sm3 _ _ he2)) eT, _, s5 _ _ hacc3, ?_, fun b u hb => ?_, upd_same⟩
          · rw [List.length_map]
            have l1 := List.length_filter_le (fun y => decide (y ≠ z)) (zs.take j)
            rw [List.length_take] at l1
            exact Nat.lt_of_le_of_lt (Nat.le_trans l1 (Nat.le_trans (Nat.min_le_right _ _) hl)) (by decide)
          · rw [upd_ne (ne_of_none hb hD2)]
            exact s5 _ _ (sm3 _ _ hb)
        · have hyz : y = z := Decidable.byContradiction fun e => h (by
            rw [decide_eq_false (fun q => e (by cases q; rfl))]
            rfl)
          have ef : ([y].filter fun y => decide (y ≠ z)) = [] := by
            rw [List.filter_cons, if_neg (by rw [decide_eq_false (fun q => q hyz)]; exact Bool.false_ne_true)]
            rfl
          rw [ef]
          exact ⟨sm3, by rw [hacc3, List.map_nil, List.append_nil]⟩
      · rintro G3 ⟨sm3, hacc3⟩
        rw [hlen, List.take_length] at hacc3
        refine ⟨D2, (zs.filter fun y => decide (y ≠ z)).map fun y => g (z, y), rfl, SqL.of (by rw [hacc3, List.map_map]; rfl), ?_⟩
        have idx : zs.idxOf z = i := by
          obtain ⟨h1, h2⟩ := List.getElem?_eq_some_iff.mp hz
          have := hnd.idxOf_getElem i h1
          rw [h2] at this
          exact this
        refine ⟨_, _, rfl, rfl, _, rfl, _, rfl, f1, _, rfl, DPut.k (k := (Sum.inr z : Key)) (sm3 _ _ (sT _ _ eG)) ?_, _, _, rfl, (bG2.trans (Same.but sm3)).trans But.upd, ?_⟩
        · unfold kvOf
          rw [List.length_map, List.length_take]
          exact Nat.lt_of_le_of_lt (Nat.le_trans (Nat.min_le_right _ _) hl) (by decide)
        · rw [upd_same, put_new (fun kv hkv e => ?_), take_more hz]
          · unfold kvOf
            rw [List.map_append]
            unfold placedG
            rw [List.map_singleton, idx]
          · unfold kvOf at hkv
            obtain ⟨y2, hy4, rfl⟩ := List.mem_map.mp hkv
            exact nodup_take hnd hz (Sum.inr.inj e ▸ hy4)
    · rintro σ G ⟨w3, w4, rfl, bG, eG⟩
      rw [hlen, List.take_length] at eG
      exact ⟨_, rfl, q f1 G hf1 eG fun b o hb => bG b o (ne_of_none hb hf1) (s1 _ _ hb)⟩
end
end RK

namespace RK
open PySem L2
theorem notFirst_own {K : PySem.W.Frag} {C : Addr} : PySem.W.notFirst K C (.ref C) = true := by simp [PySem.W.notFirst]
theorem same_kv {G : Hp} {a b : Addr} {zs : List Str} {g : Str → Int} (ha : G a = some (.dK (kvOf zs g))) (hb : G b = some (.dK (kvOf zs g))) (hl : zs.length ≤ 1000) (hz : ∀ z ∈ zs, z.length ≤ 1000) : SameD G 3 (.ref a) (.ref b) := by
  refine .dict (n := 0) ha hb rfl (by unfold kvOf; rw [List.length_map]; exact hl) (fun i p q e1 e2 => ?_) fun i p q e1 e2 => ?_
  · rw [e1] at e2; cases e2
    refine ⟨rfl, ?_⟩
    unfold kvOf at e1
    obtain ⟨x, hx, rfl⟩ := List.mem_map.mp (List.mem_of_getElem? e1)
    exact hz _ hx
  · rw [e1] at e2; cases e2
    unfold kvOf at e1
    obtain ⟨x, hx, rfl⟩ := List.mem_map.mp (List.mem_of_getElem? e1)
    exact .int _
theorem netP_congr {zs : List Str} {kvs kvs' : List (Key × V)} {a b : Str} (h : ∀ z ∈ zs, placeOf kvs' z = placeOf kvs z) (ha : a ∈ zs) (hb : b ∈ zs) : netP zs kvs' a b = netP zs kvs a b := by
  unfold netP qN
  rw [h a ha, h b hb]
def spWAny : Sp := fun vs H Q _ => ∃ (a n : Addr) (zs : List Str) (m : Nat), vs = [.ref a, .ref n] ∧ a ≠ n ∧ SpAt H a m ∧ m < 900000000 ∧ H n = some (.lst (zs.map V.str)) ∧ zs.Nodup ∧ 2 ≤ zs.length ∧ zs.length ≤ 100 ∧
  ∀ e kvs H', H' e = some (.dK kvs) → Sta zs zs kvs → (∀ z ∈ zs, (placeOf kvs z).natAbs < 2 ^ 100) → e ≠ a → SpAt H' a (m + 1010) → But a H H' → Q (.ref e) H'
def spWTold (C : Addr) : Sp := fun vs H Q _ => ∃ (T p t e n d : Addr) (row : List Str) (g : Str → Int), vs = [.ref T, .ref n, .ref d] ∧ H T = some (.tup [.ref p, .ref e]) ∧ PathAt C H p t row ∧ H n = some (.lst (row.map V.str)) ∧ row.Nodup ∧ Nm row ∧ (∀ z ∈ row, z.length ≤ 1000) ∧ 2 ≤ row.length ∧ row.length ≤ 1000 ∧ H e = some (.dK (kvOf row g)) ∧ H d = some (.dK (kvOf row g)) ∧
  ∀ H', Same H H' → Q (.bl true) H'
section
variable {P : Program} {w : World} {K : PySem.W.Frag} {mg : Str → Option Value} {base : Heap} {C CB fB : Addr}
theorem scWAny : FnScope ["spring", "names"] ["spring", "names"] (defScope sWAny) := ⟨rfl, rfl, rfl, by decide +kernel, rfl, by decide +kernel, by decide +kernel⟩
theorem ok_wany {f fD fN fS fP : Addr} {fd fdD fdN fdS fdP : FuncData} (F : Fun K "_law_w_any" "_law_w_any" sWAny f fd)
    (GD : FnOk P w K mg base CX0 1 fD fdD ["spring", "many"] spDraw) (bD : Binds K fdD ["spring", "many"] []) (gD : mg "_law_draw" = some (.ref fD)) (kD : PySem.W.keepIn K (.ref fD) = true)
    (GN : FnOk P w K mg base CX0 5 fN fdN ["spring", "names", "many"] spWNear) (bN : Binds K fdN ["spring", "names", "many"] []) (gN : mg "_law_w_near" = some (.ref fN)) (kN : PySem.W.keepIn K (.ref fN) = true)
    (GS : FnOk P w K mg base CX0 3 fS fdS ["spring", "names", "size"] spWStand) (bS : Binds K fdS ["spring", "names", "size"] []) (gS : mg "_law_w_stand" = some (.ref fS)) (kS : PySem.W.keepIn K (.ref fS) = true)
    (GP : FnOk P w K mg base CX0 2 fP fdP ["spring", "some"] spPick) (bP : Binds K fdP ["spring", "some"] []) (gP : mg "_law_pick" = some (.ref fP)) (kPb : PySem.W.keepIn K (.ref fP) = true) :
    FnOk P w K mg base CX0 6 f fd ["spring", "names"] spWAny := by
  refine F.ok scWAny (fun vs H Q E h => ?_) (fun cdv A outer s H vs Q E hr h => ?_)
  · obtain ⟨a, n, zs, m, rfl, _⟩ := h
    rfl
  · obtain ⟨a, n, zs, m, rfl, han, hsp, hm, hn, hnd, h2, hl, q⟩ := h
    have hr1 : Room 1 _ := hr.mono (by decide)
    have hr2 : Room 2 _ := hr.mono (by decide)
    have hr3 : Room 3 _ := hr.mono (by decide)
    refine ⟨_, pss_cons (ps_if (pt_cmpR op_eq (pe_call GD hr1 (by rfl) gD kD bD .nil pass0 (pa_cons (pv 0) (pa_cons pe_int pa_nil))) pe_int (nomark _)) (pss_one (ps_ret (pe_call GN hr (by rfl) gN kN bN .nil pass0 (pa_cons (pv 0) (pa_cons (pv 1) (pa_cons pe_int pa_nil)))))) pss_nil)
      (pss_one (ps_ret (pe_call GS hr3 (by rfl) gS kS bS .nil pass0 (pa_cons (pv 0) (pa_cons (pv 1) (pa_cons (pe_call GP hr2 (by rfl) gP kPb bP .nil pass0 (pa_cons (pv 0) (pa_cons (pe_lst (pa_cons pe_int (pa_cons pe_int (pa_cons pe_int (pa_cons (pe_op op_pow pe_int pe_int) pa_nil))))) pa_nil))) pa_nil)))))), ?_⟩
    refine ⟨_, rfl, a, 2, m, rfl, by decide, by decide, hsp, by omega, fun r o h0 h1 ho => ?_⟩
    have sp1 : SpAt (upd H a o) a (m + 1) := ⟨o, upd_same, ho⟩
    have b1 : But a H (upd H a o) := But.upd
    generalize upd H a o = H1 at sp1 b1
    have hn1 := b1 _ _ (Ne.symm han) hn
    refine ⟨rfl, _, rfl, ite2 (fun _ => ?_) (fun _ => ?_)⟩
    · refine ⟨_, rfl, _, rfl, a, n, zs, 30, m + 1, rfl, han, sp1, by omega, hn1, hnd, h2, by omega, by decide, fun e kvs H2 he hst hb hea sp2 b2 => ?_⟩
      obtain ⟨o2, ho2, hok⟩ := sp2
      exact q e kvs H2 he hst (fun z hz => Nat.lt_of_le_of_lt (hb z hz) (by decide)) hea ⟨o2, ho2, hok.mono (by omega)⟩ (b1.trans b2)
    · refine ⟨_, rfl, _, rfl, _, rfl, _, _, rfl, rfl, ⟨by decide, by decide, by decide⟩, by show 4 ≤ sizeLine; decide, fun L9 hL9 => ?_⟩
      generalize hE : upd H1 L9 _ = G9
      have s9 : Same H1 G9 := hE ▸ same_upd hL9
      have e9 := congrFun hE.symm L9
      rw [upd_same] at e9
      clear hE
      have aL : a ≠ L9 := by
        obtain ⟨o, ho, _⟩ := sp1
        exact ne_of_none ho hL9
      refine ⟨a, L9, _, m + 1, rfl, aL, sp1.same s9, by omega, e9, by show 0 < 4; decide, by show 4 ≤ 1000; decide, fun v o9 hv ho9 => ?_⟩
      obtain ⟨N, rfl, hN⟩ : ∃ N : Nat, v = .int (N : Nat) ∧ N < 10000000000000000 := by
        simp only [List.mem_cons, List.not_mem_nil, or_false] at hv
        rcases hv with rfl | rfl | rfl | rfl
        · exact ⟨1, rfl, by decide⟩
        · exact ⟨2, rfl, by decide⟩
        · exact ⟨30, rfl, by decide⟩
        · exact ⟨1000000000000000, by decide +kernel, by decide⟩
      have b10 : But a H1 (upd G9 a o9) := (Same.but s9).trans But.upd
      have sp10 : SpAt (upd G9 a o9) a (m + 1 + 1) := ⟨o9, upd_same, ho9⟩
      generalize upd G9 a o9 = G10 at b10 sp10
      refine ⟨a, n, zs, N, m + 1 + 1, rfl, han, sp10, by omega, b10 _ _ (Ne.symm han) hn1, hnd, h2, by omega, hN, fun e kvs H2 he hst hb hea sp2 b2 => ?_⟩
      obtain ⟨o2, ho2, hok⟩ := sp2
      exact q e kvs H2 he hst hb hea ⟨o2, ho2, hok.mono (by omega)⟩ (b1.trans (b10.trans b2))
end
end RK

namespace RK
open PySem L2
/-! ### a newcomer by one number -/
def totG (zs : List Str) (kvs : List (Key × V)) (T : Int) (z : Str) : Int := ((zs.length : Int) + T - 1 - placeOf kvs z) / (zs.length : Int)
def gL (zs : List Str) (kvs : List (Key × V)) (nw : Str) (T : Int) (p : Str × Str) : Int := if p.1 = nw then totG zs kvs T p.2 else if p.2 = nw then 0 - totG zs kvs T p.1 else netF zs kvs p
def lonG (zs : List Str) (kvs : List (Key × V)) (nw : Str) (T : Int) : Str → Int := placedG (zs ++ [nw]) (gL zs kvs nw T)
def lonKv (zs : List Str) (kvs : List (Key × V)) (nw : Str) (T : Int) : List (Key × V) := kvOf (zs ++ [nw]) (lonG zs kvs nw T)
theorem sum_tot {zs ks : List Str} {kvs : List (Key × V)} (h : Sta zs ks kvs) (nd : zs.Nodup) (h0 : 0 < zs.length) {T : Int} : (zs.map fun z => totG zs kvs T z).sum = T := by
  have hn : (0 : Int) < (zs.length : Int) := by omega
  have e1 : ∀ y ∈ zs, (zs.length : Int) * totG zs kvs T y + ((zs.length : Int) + T - 1 - placeOf kvs y) % (zs.length : Int) = ((zs.length : Int) + T - 1) - placeOf kvs y := fun y _ => by
    unfold totG
    have := Int.emod_add_mul_ediv ((zs.length : Int) + T - 1 - placeOf kvs y) (zs.length : Int)
    omega
  have e2 : (zs.map fun y => ((zs.length : Int) + T - 1 - placeOf kvs y) % (zs.length : Int)).sum = (zs.length : Int) * ((zs.length : Int) - 1) / 2 := by
    refine sum_all ?_ (fun v hv => ?_) (List.length_map _)
    · refine nodup_inj nd fun a ha b hb e => ?_
      refine rest_inj h.ok ha hb ?_
      have q := eq_mod e
      exact (mod_eq (by rw [show placeOf kvs b - placeOf kvs a = (zs.length : Int) + T - 1 - placeOf kvs a - ((zs.length : Int) + T - 1 - placeOf kvs b) by omega]; exact q) : placeOf kvs b % (zs.length : Int) = placeOf kvs a % (zs.length : Int)).symm
    · obtain ⟨y, _, rfl⟩ := List.mem_map.mp hv
      exact ⟨Int.emod_nonneg _ (by omega), Int.emod_lt_of_pos _ hn⟩
  have e3 := sum_congr e1
  rw [sum_add (f := fun y => (zs.length : Int) * totG zs kvs T y) (g := fun y => ((zs.length : Int) + T - 1 - placeOf kvs y) % (zs.length : Int)), e2, sum_mulc, nat_of_list', h.sum] at e3
  have e4 := even_n (zs.length : Int)
  have e6 : (zs.length : Int) * (zs.map fun y => totG zs kvs T y).sum + (zs.length : Int) * ((zs.length : Int) - 1) / 2 = (zs.length : Int) * ((zs.length : Int) + T - 1) - (zs.length : Int) * ((zs.length : Int) - 1) / 2 := e3
  have e5 : (zs.length : Int) * (zs.map fun y => totG zs kvs T y).sum = (zs.length : Int) * T := by
    have e7 : (zs.length : Int) * ((zs.length : Int) + T - 1) = (zs.length : Int) * ((zs.length : Int) - 1) + (zs.length : Int) * T := by
      rw [← Int.mul_add]
      congr 1
      omega
    omega
  exact Int.eq_of_mul_eq_mul_left (by omega) e5
theorem lon_place {zs ks : List Str} {kvs : List (Key × V)} {nw x : Str} {T : Int} (h : Sta zs ks kvs) (nd : zs.Nodup) (hw : nw ∉ zs) (hx : x ∈ zs) : lonG zs kvs nw T x = placeOf kvs x - totG zs kvs T x := by
  have hxn : x ≠ nw := fun e => hw (e ▸ hx)
  unfold lonG placedG
  rw [idx_app hx, List.filter_append, List.map_append, List.sum_append]
  have e1 : ((zs.filter fun y => decide (y ≠ x)).map fun y => gL zs kvs nw T (x, y)) = (zs.filter fun y => decide (y ≠ x)).map fun y => netP zs kvs x y := List.map_congr_left fun y hy => by
    have hy := (List.mem_filter.mp hy).1
    unfold gL
    rw [if_neg hxn, if_neg (fun e : y = nw => hw (e ▸ hy))]
    rfl
  have e2 : ([nw].filter fun y => decide (y ≠ x)) = [nw] := by
    rw [List.filter_cons, if_pos (decide_eq_true (Ne.symm hxn))]
    rfl
  rw [e1, filt_sum (f := fun y => netP zs kvs x y) net_self, sum_net h nd hx, e2, List.map_singleton, List.sum_singleton]
  unfold gL
  rw [if_neg hxn, if_pos rfl]
  show ((zs.idxOf x : Nat) : Int) + (placeOf kvs x - ((zs.idxOf x : Nat) : Int) + (0 - totG zs kvs T x)) = _
  omega
theorem lon_new {zs ks : List Str} {kvs : List (Key × V)} {nw : Str} {T : Int} (h : Sta zs ks kvs) (nd : zs.Nodup) (h0 : 0 < zs.length) (hw : nw ∉ zs) : lonG zs kvs nw T nw = (zs.length : Int) + T := by
  unfold lonG placedG
  rw [idx_app2 hw, List.filter_append, List.map_append, List.sum_append]
  have e1 : ((zs.filter fun y => decide (y ≠ nw)).map fun y => gL zs kvs nw T (nw, y)) = zs.map fun y => totG zs kvs T y := by
    have ef : (zs.filter fun y => decide (y ≠ nw)) = zs := List.filter_eq_self.mpr fun y hy => decide_eq_true (fun e => hw (e ▸ hy))
    rw [ef]
    refine List.map_congr_left fun y _ => ?_
    unfold gL
    rw [if_pos rfl]
  have e2 : ([nw].filter fun y => decide (y ≠ nw)) = [] := by simp
  rw [e1, sum_tot h nd h0, e2]
  simp
theorem lon_nodup {zs : List Str} {nw : Str} (nd : zs.Nodup) (hw : nw ∉ zs) : (zs ++ [nw]).Nodup :=
  List.nodup_append.mpr ⟨nd, List.nodup_cons.mpr ⟨List.not_mem_nil, List.nodup_nil⟩, fun a ha b hb e => hw (List.mem_singleton.mp hb ▸ e ▸ ha)⟩
theorem lon_len {zs : List Str} {nw : Str} : (zs ++ [nw]).length = zs.length + 1 := by simp
/-- quotient and rest of who has room -/
theorem tot_rest {zs : List Str} {kvs : List (Key × V)} {T : Int} (h0 : 0 < zs.length) (z : Str) : ∃ r : Int, 0 ≤ r ∧ r < (zs.length : Int) ∧ placeOf kvs z = (zs.length : Int) + T - 1 - (zs.length : Int) * totG zs kvs T z - r ∧ r = ((zs.length : Int) + T - 1 - placeOf kvs z) % (zs.length : Int) := by
  have hn : (0 : Int) < (zs.length : Int) := by omega
  refine ⟨_, Int.emod_nonneg _ (by omega), Int.emod_lt_of_pos _ hn, ?_, rfl⟩
  unfold totG
  have := Int.emod_add_mul_ediv ((zs.length : Int) + T - 1 - placeOf kvs z) (zs.length : Int)
  omega
theorem lon_mul (n k : Int) : (n + 1) * k = n * k + k := by rw [Int.add_mul, Int.one_mul]
theorem mod_is {n k r d : Int} (e : d = n * k + r) (h0 : 0 ≤ r) (h1 : r < n) : d % n = r := by
  rw [e, Int.mul_add_emod_self_left]
  exact Int.emod_eq_of_lt h0 h1
theorem div_is {n k r d : Int} (e : d = n * k + r) (h0 : 0 ≤ r) (h1 : r < n) : d / n = k :=
  ((Int.ediv_emod_unique (by omega)).mpr ⟨by omega, h0, h1⟩ : d / n = k ∧ d % n = r).1
theorem lon_sta {zs ks : List Str} {kvs : List (Key × V)} {nw : Str} {T : Int} (h : Sta zs ks kvs) (nd : zs.Nodup) (h0 : 0 < zs.length) (hw : nw ∉ zs) : Sta (zs ++ [nw]) (zs ++ [nw]) (lonKv zs kvs nw T) := by
  refine Sta.mk' (List.Perm.refl _) ?_ ?_
  · rw [lon_len, List.map_append, List.sum_append, List.map_singleton, List.sum_singleton, lon_new h nd h0 hw]
    have e1 : (zs.map (lonG zs kvs nw T)).sum = (zs.map fun x => placeOf kvs x + (- totG zs kvs T x)).sum := sum_congr fun x hx => by rw [lon_place h nd hw hx]; omega
    have e2 : (zs.map fun x => - totG zs kvs T x).sum = - T := by
      have := sum_mulc (c := -1) (f := fun x => totG zs kvs T x) (l := zs)
      rw [sum_tot h nd h0] at this
      rw [show (zs.map fun x => - totG zs kvs T x) = zs.map fun x => -1 * totG zs kvs T x from List.map_congr_left fun x _ => by omega, this]
      omega
    rw [e1, sum_add (f := fun x => placeOf kvs x) (g := fun x => - totG zs kvs T x), e2, h.sum]
    have e3 := even_n (zs.length : Int)
    have e4 : ((zs.length + 1 : Nat) : Int) * (((zs.length + 1 : Nat) : Int) - 1) = (zs.length : Int) * ((zs.length : Int) - 1) + 2 * (zs.length : Int) := by
      rw [show (((zs.length + 1 : Nat) : Int) - 1) = (zs.length : Int) by omega, show ((zs.length + 1 : Nat) : Int) = (zs.length : Int) - 1 + 2 by omega, Int.add_mul, Int.mul_comm]
    rw [e4]
    omega
  · have hres : ∀ x ∈ zs, ∃ k r : Int, lonG zs kvs nw T x = (zs.length : Int) + T - 1 - ((zs.length : Int) + 1) * k - r ∧ 0 ≤ r ∧ r < (zs.length : Int) ∧ r = ((zs.length : Int) + T - 1 - placeOf kvs x) % (zs.length : Int) := fun x hx => by
      obtain ⟨r, r0, r1, er, rr⟩ := tot_rest (T := T) h0 x
      refine ⟨totG zs kvs T x, r, ?_, r0, r1, rr⟩
      rw [lon_place h nd hw hx, lon_mul]
      omega
    rw [lon_len]
    refine nodup_inj (lon_nodup nd hw) fun a ha b hb e => ?_
    have key : ∀ x ∈ zs ++ [nw], ∃ k r : Int, lonG zs kvs nw T x = (zs.length : Int) + T - 1 - ((zs.length : Int) + 1) * k - r ∧ 0 ≤ r ∧ r ≤ (zs.length : Int) ∧ (x ∈ zs → r < (zs.length : Int) ∧ r = ((zs.length : Int) + T - 1 - placeOf kvs x) % (zs.length : Int)) ∧ (x = nw → r = (zs.length : Int)) := fun x hx => by
      rcases List.mem_append.mp hx with q | q
      · obtain ⟨k, r, h1, h2, h3, h4⟩ := hres x q
        exact ⟨k, r, h1, h2, by omega, fun _ => ⟨h3, h4⟩, fun e => absurd (e ▸ q) hw⟩
      · have e := List.mem_singleton.mp q
        subst e
        refine ⟨-1, (zs.length : Int), ?_, by omega, Int.le_refl _, fun z => absurd z hw, fun _ => rfl⟩
        rw [lon_new h nd h0 hw, lon_mul]
        omega
    obtain ⟨k1, r1, a1, a2, a3, a4, a5⟩ := key a ha
    obtain ⟨k2, r2, b1, b2, b3, b4, b5⟩ := key b hb
    have hr : r1 = r2 := by
      have q := eq_mod e
      obtain ⟨k3, e3⟩ := mod_zero q
      rw [a1, b1, show ((zs.length + 1 : Nat) : Int) = (zs.length : Int) + 1 by omega] at e3
      have e5 : r2 - r1 = ((zs.length : Int) + 1) * (k3 + k1 - k2) := by
        rw [Int.mul_sub, Int.mul_add]
        omega
      have f1 : (r2 - r1) % ((zs.length : Int) + 1) = 0 := by rw [e5]; exact Int.mul_emod_right _ _
      by_cases q : r1 ≤ r2
      · rw [Int.emod_eq_of_lt (by omega) (by omega)] at f1
        omega
      · have f2 : (r1 - r2) % ((zs.length : Int) + 1) = 0 := by
          rw [show r1 - r2 = ((zs.length : Int) + 1) * -(k3 + k1 - k2) by rw [Int.mul_neg, ← e5]; omega]
          exact Int.mul_emod_right _ _
        rw [Int.emod_eq_of_lt (by omega) (by omega)] at f2
        omega
    rcases List.mem_append.mp ha with q | q <;> rcases List.mem_append.mp hb with q2 | q2
    · have e7 := (a4 q).2.symm.trans (hr.trans (b4 q2).2)
      refine rest_inj h.ok q q2 ?_
      have q := eq_mod e7
      exact (mod_eq (by rw [show placeOf kvs b - placeOf kvs a = (zs.length : Int) + T - 1 - placeOf kvs a - ((zs.length : Int) + T - 1 - placeOf kvs b) by omega]; exact q) : placeOf kvs b % (zs.length : Int) = placeOf kvs a % (zs.length : Int)).symm
    · have := (a4 q).1
      have := b5 (List.mem_singleton.mp q2)
      omega
    · have := (b4 q2).1
      have := a5 (List.mem_singleton.mp q)
      omega
    · rw [List.mem_singleton.mp q, List.mem_singleton.mp q2]
theorem lonKv_place {zs : List Str} {kvs : List (Key × V)} {nw x : Str} {T : Int} (hx : x ∈ zs ++ [nw]) : placeOf (lonKv zs kvs nw T) x = lonG zs kvs nw T x := place_kv hx
theorem lon_net {zs ks : List Str} {kvs : List (Key × V)} {nw a b : Str} {T : Int} (h : Sta zs ks kvs) (nd : zs.Nodup) (hw : nw ∉ zs) (ha : a ∈ zs) (hb : b ∈ zs) : netP (zs ++ [nw]) (lonKv zs kvs nw T) a b = netP zs kvs a b := by
  have h0 := List.length_pos_of_mem ha
  have i1 := List.idxOf_lt_length_of_mem ha
  have i2 := List.idxOf_lt_length_of_mem hb
  unfold netP qN
  rw [lonKv_place (List.mem_append_left _ ha), lonKv_place (List.mem_append_left _ hb), lon_place h nd hw ha, lon_place h nd hw hb, lon_len, idx_app ha, idx_app hb, show ((zs.length + 1 : Nat) : Int) = (zs.length : Int) + 1 by omega]
  obtain ⟨ra, a0, a1, ea, _⟩ := tot_rest (T := T) (kvs := kvs) h0 a
  obtain ⟨rb, b0, b1, eb, _⟩ := tot_rest (T := T) (kvs := kvs) h0 b
  generalize totG zs kvs T a = Na at ea
  generalize totG zs kvs T b = Nb at eb
  rw [ea, eb]
  have p1 : (zs.length : Int) + T - 1 - (zs.length : Int) * Na - ra - Na - ((zs.length : Int) + T - 1 - (zs.length : Int) * Nb - rb - Nb) = ((zs.length : Int) + 1) * (Nb - Na) + (rb - ra) := by
    rw [lon_mul, Int.mul_sub]
    omega
  have p2 : (zs.length : Int) + T - 1 - (zs.length : Int) * Na - ra - ((zs.length : Int) + T - 1 - (zs.length : Int) * Nb - rb) = (zs.length : Int) * (Nb - Na) + (rb - ra) := by
    rw [Int.mul_sub]
    omega
  rw [p1, p2]
  have q1 : (((zs.length : Int) + 1) * (Nb - Na) + (rb - ra)) / ((zs.length : Int) + 1) = ((zs.length : Int) * (Nb - Na) + (rb - ra)) / (zs.length : Int) := by
    by_cases q : 0 ≤ rb - ra
    · rw [div_is rfl q (by omega), div_is rfl q (by omega)]
    · have f1 : ((zs.length : Int) + 1) * (Nb - Na) + (rb - ra) = ((zs.length : Int) + 1) * (Nb - Na - 1) + ((zs.length : Int) + 1 + (rb - ra)) := by
        rw [lon_mul, lon_mul, Int.mul_sub (zs.length : Int) (Nb - Na) 1]
        omega
      have f2 : (zs.length : Int) * (Nb - Na) + (rb - ra) = (zs.length : Int) * (Nb - Na - 1) + ((zs.length : Int) + (rb - ra)) := by
        rw [Int.mul_sub (zs.length : Int) (Nb - Na) 1]
        omega
      rw [div_is f1 (by omega) (by omega), div_is f2 (by omega) (by omega)]
  have q2 : (((zs.idxOf a : Nat) : Int) - ((zs.idxOf b : Nat) : Int)) / ((zs.length : Int) + 1) = (((zs.idxOf a : Nat) : Int) - ((zs.idxOf b : Nat) : Int)) / (zs.length : Int) := by
    by_cases q : 0 ≤ ((zs.idxOf a : Nat) : Int) - ((zs.idxOf b : Nat) : Int)
    · rw [Int.ediv_eq_zero_of_lt q (by omega), Int.ediv_eq_zero_of_lt q (by omega)]
    · have f1 : ((zs.idxOf a : Nat) : Int) - ((zs.idxOf b : Nat) : Int) = ((zs.length : Int) + 1) * -1 + ((zs.length : Int) + 1 + (((zs.idxOf a : Nat) : Int) - ((zs.idxOf b : Nat) : Int))) := by omega
      have f2 : ((zs.idxOf a : Nat) : Int) - ((zs.idxOf b : Nat) : Int) = (zs.length : Int) * -1 + ((zs.length : Int) + (((zs.idxOf a : Nat) : Int) - ((zs.idxOf b : Nat) : Int))) := by omega
      rw [div_is f1 (by omega) (by omega), div_is f2 (by omega) (by omega)]
  rw [q1, q2]
theorem lon_net_new {zs ks : List Str} {kvs : List (Key × V)} {nw b : Str} {T : Int} (h : Sta zs ks kvs) (nd : zs.Nodup) (hw : nw ∉ zs) (hb : b ∈ zs) : netP (zs ++ [nw]) (lonKv zs kvs nw T) nw b = totG zs kvs T b := by
  have h0 := List.length_pos_of_mem hb
  have i2 := List.idxOf_lt_length_of_mem hb
  unfold netP qN
  rw [lonKv_place (List.mem_append_right _ List.mem_cons_self), lonKv_place (List.mem_append_left _ hb), lon_new h nd h0 hw, lon_place h nd hw hb, lon_len, idx_app2 hw, idx_app hb, show ((zs.length + 1 : Nat) : Int) = (zs.length : Int) + 1 by omega]
  obtain ⟨rb, b0, b1, eb, _⟩ := tot_rest (T := T) (kvs := kvs) h0 b
  generalize totG zs kvs T b = Nb at eb
  rw [eb]
  have f1 : (zs.length : Int) + T - ((zs.length : Int) + T - 1 - (zs.length : Int) * Nb - rb - Nb) = ((zs.length : Int) + 1) * Nb + (1 + rb) := by
    rw [lon_mul]
    omega
  have e0 : [nw].idxOf nw = 0 := by simp
  rw [div_is f1 (by omega) (by omega), e0, Int.ediv_eq_zero_of_lt (by omega) (by omega)]
  omega
theorem lon_over {zs ks : List Str} {kvs : List (Key × V)} {nw : Str} {T : Int} (h : Sta zs ks kvs) (nd : zs.Nodup) (h0 : 0 < zs.length) (hw : nw ∉ zs) : kvOf (zs ++ [nw]) (overOf (zs ++ [nw]) (lonKv zs kvs nw T) nw) = lonKv zs kvs nw (T + 1) := by
  have st := lon_sta (T := T) h nd h0 hw
  obtain ⟨y, hy1, hy2, hy3⟩ := next_is st.ok (by rw [lon_len]; omega) nw
  have hyn := next_ne (by rw [lon_len]; omega) hy3
  have hyz : y ∈ zs := by
    rcases List.mem_append.mp hy2 with q | q
    · exact q
    · exact absurd (List.mem_singleton.mp q) hyn
  rw [lonKv_place hy2, lonKv_place (List.mem_append_right _ List.mem_cons_self), lon_new h nd h0 hw, lon_len, show ((zs.length + 1 : Nat) : Int) = (zs.length : Int) + 1 by omega] at hy3
  have up : ∀ x ∈ zs, totG zs kvs (T + 1) x = totG zs kvs T x + if x = y then 1 else 0 := fun x hx => by
    obtain ⟨r, r0, r1, er, rr⟩ := tot_rest (T := T) (kvs := kvs) h0 x
    have ry : x = y ↔ r = (zs.length : Int) - 1 := by
      have last : ∀ u ∈ zs, ∀ s : Int, 0 ≤ s → s < (zs.length : Int) → placeOf kvs u = (zs.length : Int) + T - 1 - (zs.length : Int) * totG zs kvs T u - s → ((s = (zs.length : Int) - 1) ↔ lonG zs kvs nw T u % ((zs.length : Int) + 1) = ((zs.length : Int) + T + 1) % ((zs.length : Int) + 1)) := fun u hu s s0 s1 es => by
        rw [lon_place h nd hw hu, es]
        have e1 : (zs.length : Int) + T - 1 - (zs.length : Int) * totG zs kvs T u - s - totG zs kvs T u - ((zs.length : Int) + T + 1) = ((zs.length : Int) + 1) * (- totG zs kvs T u - 1) + ((zs.length : Int) - 1 - s) := by
          rw [lon_mul, Int.mul_sub, Int.mul_neg]
          omega
        constructor
        · intro e
          refine mod_eq ?_
          rw [e1, e, Int.sub_self, Int.add_zero]
          exact Int.mul_emod_right _ _
        · intro e
          have := eq_mod e
          rw [e1, mod_is rfl (by omega) (by omega)] at this
          omega
      obtain ⟨sy, y0, y1, ey, _⟩ := tot_rest (T := T) (kvs := kvs) h0 y
      have ly := (last y hyz sy y0 y1 ey).mpr hy3
      constructor
      · intro e
        subst e
        exact (last x hx r r0 r1 er).mpr hy3
      · intro e
        have := (last x hx r r0 r1 er).mp e
        refine rest_inj st.ok (List.mem_append_left _ hx) hy2 ?_
        rw [lonKv_place (List.mem_append_left _ hx), lonKv_place hy2, lon_len, show ((zs.length + 1 : Nat) : Int) = (zs.length : Int) + 1 by omega]
        exact this.trans hy3.symm
    have e1 : totG zs kvs (T + 1) x = ((zs.length : Int) + (T + 1) - 1 - placeOf kvs x) / (zs.length : Int) := rfl
    rw [e1, er]
    generalize totG zs kvs T x = N
    by_cases q : x = y
    · have := ry.mp q
      rw [if_pos q]
      refine div_is (r := 0) ?_ (by omega) (by omega)
      rw [Int.mul_add]
      omega
    · have : r ≠ (zs.length : Int) - 1 := fun e => q (ry.mpr e)
      rw [if_neg q, Int.add_zero]
      exact div_is (r := r + 1) (by omega) (by omega) (by omega)
  refine kv_congr fun u hu => ?_
  unfold overOf
  rw [hy1]
  show (if u = y then placeOf (lonKv zs kvs nw T) y - 1 else if u = nw then placeOf (lonKv zs kvs nw T) nw + 1 else placeOf (lonKv zs kvs nw T) u) = _
  rw [lonKv_place hy2, lonKv_place hu, lonKv_place (List.mem_append_right _ List.mem_cons_self)]
  by_cases q : u = y
  · rw [if_pos q, q, lon_place h nd hw hyz, lon_place h nd hw hyz, up y hyz, if_pos rfl]
    omega
  · rw [if_neg q]
    by_cases q2 : u = nw
    · rw [if_pos q2, q2, lon_new h nd h0 hw, lon_new h nd h0 hw]
      omega
    · have huz : u ∈ zs := by
        rcases List.mem_append.mp hu with z | z
        · exact z
        · exact absurd (List.mem_singleton.mp z) q2
      rw [if_neg q2, lon_place h nd hw huz, lon_place h nd hw huz, up u huz, if_neg q]
      omega
end RK

namespace RK
open PySem L2
/-! ### a newcomer: what is none; the longer path -/
def newB (zs : List Str) : V → Bool
  | .str z => nameB z && !decide (z ∈ zs)
  | _ => false
def spNeedNew (K : PySem.W.Frag) (CN : Addr) : Sp := fun vs H Q E => ∃ (n : Addr) (zs : List Str) (v : V) (k : Kd), vs = [.ref n, v] ∧ H n = some (.lst (zs.map V.str)) ∧ Th K H v k ∧
  (newB zs v = false → ∀ d H', Same H H' → H' d = some (.xd [("name", v)]) → E (.ref CN) (some d) H') ∧ (newB zs v = true → ∀ H', Same H H' → Q .non H')
def spNeedTot (K : PySem.W.Frag) (CT : Addr) : Sp := fun vs H Q E => ∃ (v : V) (k : Kd), vs = [v] ∧ Th K H v k ∧
  (k.isInt = false → ∀ d H', Same H H' → H' d = some (.xd [("total", v)]) → E (.ref CT) (some d) H') ∧ (k.isInt = true → ∀ H', Same H H' → Q .non H')
def addP (nw : Str) : List Str → List (Str × Str)
  | [] => []
  | z :: r => (nw, z) :: (z, nw) :: addP nw r
theorem addP_app {nw : Str} : ∀ {l m : List Str}, addP nw (l ++ m) = addP nw l ++ addP nw m
  | [], _ => rfl
  | z :: l, m => by
    show (nw, z) :: (z, nw) :: addP nw (l ++ m) = _
    rw [addP_app]
    rfl
theorem mem_addP {nw : Str} {p : Str × Str} : ∀ {l : List Str}, p ∈ addP nw l ↔ (p.1 = nw ∧ p.2 ∈ l) ∨ (p.2 = nw ∧ p.1 ∈ l)
  | [] => by
    constructor
    · intro h; exact nomatch h
    · rintro (⟨_, h⟩ | ⟨_, h⟩) <;> exact nomatch h
  | z :: l => by
    obtain ⟨a, b⟩ := p
    show (a, b) ∈ (nw, z) :: (z, nw) :: addP nw l ↔ _
    rw [List.mem_cons, List.mem_cons, mem_addP (l := l), List.mem_cons, List.mem_cons]
    constructor
    · rintro (h | h | ⟨h1, h2⟩ | ⟨h1, h2⟩)
      · cases h; exact .inl ⟨rfl, .inl rfl⟩
      · cases h; exact .inr ⟨rfl, .inl rfl⟩
      · exact .inl ⟨h1, .inr h2⟩
      · exact .inr ⟨h1, .inr h2⟩
    · rintro (⟨h1, h2 | h2⟩ | ⟨h1, h2 | h2⟩)
      · exact .inl (Prod.ext h1 h2)
      · exact .inr (.inr (.inl ⟨h1, h2⟩))
      · exact .inr (.inl (Prod.ext h2 h1))
      · exact .inr (.inr (.inr ⟨h1, h2⟩))
theorem addP_len {nw : Str} : ∀ {l : List Str}, (addP nw l).length = 2 * l.length
  | [] => rfl
  | z :: l => by
    show (addP nw l).length + 1 + 1 = 2 * (l.length + 1)
    rw [addP_len]
    omega
def gA (nw : Str) (t : Str → Int) (g : Str × Str → Int) (p : Str × Str) : Int := if p.1 = nw then t p.2 else if p.2 = nw then 0 - t p.1 else g p
def spNetsTotal : Sp := fun vs H Q _ => ∃ (n d : Addr) (zs : List Str) (kvs : List (Key × V)) (T : Int), vs = [.ref n, .ref d, .int T] ∧ H n = some (.lst (zs.map V.str)) ∧ H d = some (.dK kvs) ∧ (∀ z ∈ zs, valV kvs (Sum.inr z : Key) = some (.int (placeOf kvs z))) ∧ zs.Nodup ∧ 0 < zs.length ∧ zs.length ≤ 1000 ∧
  ∀ e H', H e = none → H' e = some (.dK (kvOf zs (totG zs kvs T))) → Same H H' → Q (.ref e) H'
def spAddNets : Sp := fun vs H Q _ => ∃ (e o : Addr) (nw : Str) (zs : List Str) (t : Str → Int) (g : Str × Str → Int), vs = [.ref e, .str nw, .ref o] ∧ e ≠ o ∧ H e = some (.dT (kvP (pairsOf zs) g)) ∧ H o = some (.dK (kvOf zs t)) ∧ zs.Nodup ∧ nw ∉ zs ∧ zs.length ≤ 1000 ∧
  ∀ H', H' e = some (.dT (kvP (pairsOf zs ++ addP nw zs) (gA nw t g))) → But e H H' → Q .non H'
section
variable {P : Program} {w : World} {K : PySem.W.Frag} {mg : Str → Option Value} {base : Heap} {C CB fB CN fN CT fT : Addr}
theorem scNetsTotal : FnScope ["names", "places", "total", "many", "name"] ["names", "places", "total"] (defScope sNetsTotal) := ⟨rfl, rfl, rfl, by decide +kernel, rfl, by decide +kernel, by decide +kernel⟩
theorem ok_netsTotal {f : Addr} {fd : FuncData} (F : Fun K "nets_by_total" "nets_by_total" sNetsTotal f fd) (B : B0 K mg) :
    FnOk P w K mg base CX0 1 f fd ["names", "places", "total"] spNetsTotal := by
  refine F.ok scNetsTotal (fun vs H Q E h => ?_) (fun cdv A outer s H vs Q E hr h => ?_)
  · obtain ⟨n, d, zs, kvs, T, rfl, _⟩ := h
    rfl
  · obtain ⟨n, d, zs, kvs, T, rfl, hn, hd, hpl, hnd, h0, hl, q⟩ := h
    have hu := hu_of hr
    have l60 : (zs.length : Int).natAbs < 2 ^ 60 := Nat.lt_of_le_of_lt (show (zs.length : Int).natAbs ≤ 1000 by omega) (by decide)
    have hkl : (zs.map V.str).length = zs.length := List.length_map _
    refine ⟨_, pss_cons (ps_set (i := 3) scNetsTotal.nd rfl (Or.inr rfl) (pe_callB call_len_seq (by rfl) B.len PySem.boot_len (pa_cons (pv 0) pa_nil)))
      (pss_one (ps_ret (pe_dc (tk := tVar 4) (tv := tOp (rI CDivW fun i j => .int (i / j)) (tOp (rI0 fun i j => .int (i - j)) (tOp (rI0 fun i j => .int (i - j)) (tOp (rI0 fun i j => .int (i + j)) (tVar 3) (tVar 2)) (L2.tC (.int 1))) (tDGet (tVar 1) (tVar 4))) (tVar 3)) (own := [("name", 4)]) (g := gName 4) (tt := tYes) rfl scNetsTotal.nd (pi_list (pv 0)) (blkOk_by (N := ["names", "places", "total", "many", "name"]) (sc := defScope sNetsTotal) (by decide +kernel))
        (fun _ _ _ _ _ => pg_name (i := 4) scNetsTotal.nd rfl (Or.inl rfl)) (fun _ _ _ _ _ => pts_nil) (fun _ _ _ _ _ => by exact (pv 4))
        (fun _ _ _ _ _ => by exact (pe_op op_fdivW (pe_op op_sub (pe_op op_sub (pe_op op_add (pv 3) (pv 2)) pe_int) (pe_dget hu (pv 1) (pv 4) (fun _ _ => rfl))) (pv 3)))))), ?_⟩
    refine ⟨_, rfl, n, _, rfl, .inl (SqL.of hn), ?_⟩
    rw [hkl]
    refine ⟨_, rfl, n, rfl, ⟨_, SqL.of hn⟩, fun D hD => ?_⟩
    refine dc_it (walk_list (K := K) (a := n) (xs := zs.map V.str)) (fun i G => Same H G ∧ G D = some (.dK (kvOf (zs.take i) (totG zs kvs T)))) ⟨same_upd hD, upd_same⟩ (fun i G _ p => SqL.of (p.1 _ _ hn)) ?_ ?_
    · rintro i x1 G1 G2 hi ⟨sm, hacc⟩ ⟨rfl, hy⟩
      obtain ⟨z, hz, hzm, rfl⟩ := name_at hy
      refine ⟨rfl, tyes ?_⟩
      refine ⟨_, rfl, _, rfl, _, rfl, _, _, rfl, rfl, _, _, rfl, rfl, _, rfl, _, rfl, d, _, rfl, hpl z hzm ▸ DGet.k (k := (Sum.inr z : Key)) (sm _ _ hd), _, _, rfl, rfl, _, rfl, _, _, rfl, rfl, wide_div (b := 60) (by omega) l60 (by decide) (by decide), _, (Sum.inr z : Key), rfl, hacc, ?_, fun b u hb => ?_, ?_⟩
      · unfold kvOf
        rw [List.length_map, List.length_take]
        exact Nat.lt_of_le_of_lt (Nat.le_trans (Nat.min_le_right _ _) hl) (show 1000 < sizeLine by decide)
      · rw [upd_ne (ne_of_none hb hD)]
        exact sm _ _ hb
      · rw [upd_same, put_new (fun kv hkv e => ?_), take_more hz]
        · unfold kvOf
          rw [List.map_append]
          rfl
        · unfold kvOf at hkv
          obtain ⟨y2, hy4, rfl⟩ := List.mem_map.mp hkv
          exact nodup_take hnd hz (Sum.inr.inj e ▸ hy4)
    · rintro G ⟨sm, hacc⟩
      rw [hkl, List.take_length] at hacc
      exact q D G hD hacc sm
theorem scAddNets : FnScope ["nets", "one", "over", "other"] ["nets", "one", "over"] (defScope sAddNets) := ⟨rfl, rfl, rfl, by decide +kernel, rfl, by decide +kernel, by decide +kernel⟩
theorem ok_addNets {f : Addr} {fd : FuncData} (F : Fun K "add_nets" "add_nets" sAddNets f fd) :
    FnOk P w K mg base CX0 1 f fd ["nets", "one", "over"] spAddNets := by
  refine F.ok scAddNets (fun vs H Q E h => ?_) (fun cdv A outer s H vs Q E hr h => ?_)
  · obtain ⟨e, o, nw, zs, t, g, rfl, _⟩ := h
    rfl
  · obtain ⟨e, o, nw, zs, t, g, rfl, heo, he, ho, hnd, hw, hl, q⟩ := h
    have hu := hu_of hr
    refine ⟨_, pss_one (ps_lock (ps_for PassesOwn.never rfl (pi_keys (pv 2)) (pg_name (i := 3) scAddNets.nd rfl (Or.inl rfl))
      (pss_cons (ps_dput hu (pv 0) (pe_tup (pa_cons (pv 1) (pa_cons (pv 3) pa_nil))) (pe_dget hu (pv 2) (pv 3) (fun _ _ => rfl)) rfl)
      (pss_one (ps_dput hu (pv 0) (pe_tup (pa_cons (pv 3) (pa_cons (pv 1) pa_nil))) (pe_un un_neg (pe_dget hu (pv 2) (pv 3) (fun _ _ => rfl))) rfl))))), ?_⟩
    refine ⟨o, .dK (kvOf zs t), ho, trivial, fun od => ?_⟩
    have hf : (upd H o (.frz od (.dK (kvOf zs t)))) o = some (.frz od (.dK (kvOf zs t))) := upd_same
    have bf : ∀ b u, b ≠ o → H b = some u → (upd H o (.frz od (.dK (kvOf zs t)))) b = some u := fun b u hb e => by rw [upd_ne hb]; exact e
    generalize upd H o (.frz od (.dK (kvOf zs t))) = H1 at hf bf
    have e0 : kvP (pairsOf zs) g = kvP (pairsOf zs) (gA nw t g) := kvP_congr fun p hp => by
      obtain ⟨h1, h2, h3⟩ := mem_pairs.mp (show (p.1, p.2) ∈ pairsOf zs from hp)
      unfold gA
      rw [if_neg (fun e : p.1 = nw => hw (e ▸ h1)), if_neg (fun e : p.2 = nw => hw (e ▸ h2))]
    have klen : (kvOf zs t).length = zs.length := List.length_map _
    refine ⟨_, rfl, o, od, rfl, .inl ⟨_, hf, for_it (walk_keys (d := o) (o := od) (kvs := kvOf zs t)) (fun i σ G => ∃ w3, σ = [some (.ref e), some (.str nw), some (.ref o), w3] ∧ But e H1 G ∧ G e = some (.dT (kvP (pairsOf zs ++ addP nw (zs.take i)) (gA nw t g)))) ⟨none, rfl, Same.but (Same.refl H1), by rw [bf _ _ heo he, e0]; exact congrArg (fun z => some (HO.dT (kvP z _))) (List.append_nil _).symm⟩ (fun i σ G _ ⟨_, _, b, _⟩ => b _ _ (Ne.symm heo) hf) ?_ ?_⟩⟩
    · rintro i x σ G0 G hi ⟨w3, rfl, bG, eG⟩ ⟨rfl, k, v, hkv, rfl⟩
      rw [klen] at hi
      have hkv2 := hkv
      unfold kvOf at hkv2
      rw [List.getElem?_map] at hkv2
      obtain ⟨z, hz, e2⟩ := Option.map_eq_some_iff.mp hkv2
      obtain ⟨rfl, rfl⟩ := Prod.mk.inj e2
      have hzm : z ∈ zs := List.mem_of_getElem? hz
      have hzn : z ≠ nw := fun e => hw (e ▸ hzm)
      have hfG := bG _ _ (Ne.symm heo) hf
      have hsz : ∀ j : Nat, j ≤ i → (pairsOf zs ++ addP nw (zs.take j)).length + 1 < sizeLine := fun j hj => by
        rw [List.length_append, addP_len, List.length_take]
        have h1 := from_len (zs := zs) (r := zs)
        have h2 : zs.length * zs.length ≤ 1000 * 1000 := Nat.mul_le_mul hl hl
        have h3 : (pairsOf zs).length ≤ 1000 * 1000 := Nat.le_trans h1 h2
        refine Nat.lt_of_le_of_lt (show _ ≤ 1002001 by omega) (by decide)
      have nin1 : (nw, z) ∉ pairsOf zs ++ addP nw (zs.take i) := fun q => by
        rcases List.mem_append.mp q with q | q
        · exact hw (mem_pairs.mp q).1
        · rcases mem_addP.mp q with ⟨_, h⟩ | ⟨h, _⟩
          · exact nodup_take hnd hz h
          · exact hzn h
      have nin2 : (z, nw) ∉ (pairsOf zs ++ addP nw (zs.take i)) ++ [(nw, z)] := fun q => by
        rcases List.mem_append.mp q with q | q
        · rcases List.mem_append.mp q with q | q
          · exact hw (mem_pairs.mp q).2.1
          · rcases mem_addP.mp q with ⟨h, _⟩ | ⟨_, h⟩
            · exact hzn h
            · exact nodup_take hnd hz h
        · exact hzn (Prod.mk.inj (List.mem_singleton.mp q)).1
      refine ⟨_, rfl, _, rfl, o, _, rfl, .inl ⟨_, (Sum.inr z : Key), .inr ⟨od, hfG⟩, rfl, (val_kv hzm).symm⟩, ?_⟩
      refine ⟨_, rfl, _, rfl, _, rfl, by show 2 ≤ sizeLine; decide, fun U hU => ?_⟩
      generalize hE : upd G U _ = G1
      have sU : Same G G1 := hE ▸ same_upd hU
      have eU := congrFun hE.symm U
      rw [upd_same] at eU
      clear hE
      refine ⟨e, _, rfl, DPut.t (k := kP (nw, z)) (sU _ _ eG) eU (by rw [kvP_len]; have := hsz i (Nat.le_refl _); omega), ?_⟩
      have ev1 : gA nw t g (nw, z) = t z := if_pos rfl
      rw [← ev1, put_P_new nin1]
      have b1 : But e H1 (upd G1 e (.dT (kvP (pairsOf zs ++ addP nw (zs.take i) ++ [(nw, z)]) (gA nw t g)))) := (bG.trans (Same.but sU)).trans But.upd
      have e1 : (upd G1 e (.dT (kvP (pairsOf zs ++ addP nw (zs.take i) ++ [(nw, z)]) (gA nw t g)))) e = some (.dT (kvP (pairsOf zs ++ addP nw (zs.take i) ++ [(nw, z)]) (gA nw t g))) := upd_same
      generalize upd G1 e (.dT (kvP (pairsOf zs ++ addP nw (zs.take i) ++ [(nw, z)]) (gA nw t g))) = G2 at b1 e1
      refine ⟨_, rfl, _, rfl, o, _, rfl, .inl ⟨_, (Sum.inr z : Key), .inr ⟨od, b1 _ _ (Ne.symm heo) hf⟩, rfl, (val_kv hzm).symm⟩, ?_⟩
      refine ⟨_, rfl, _, rfl, _, rfl, _, rfl, by show 2 ≤ sizeLine; decide, fun U2 hU2 => ?_⟩
      generalize hE : upd G2 U2 _ = G3
      have sU2 : Same G2 G3 := hE ▸ same_upd hU2
      have eU2 := congrFun hE.symm U2
      rw [upd_same] at eU2
      clear hE
      refine ⟨e, _, rfl, DPut.t (k := kP (z, nw)) (sU2 _ _ e1) eU2 (by rw [kvP_len, List.length_append]; exact hsz i (Nat.le_refl _)), _, rfl, (b1.trans (Same.but sU2)).trans But.upd, ?_⟩
      have ev2 : gA nw t g (z, nw) = -t z := by
        unfold gA
        rw [if_neg hzn, if_pos rfl]
        exact Int.zero_sub _
      rw [show (fun i : Int => V.int (-i)) (t z) = V.int (gA nw t g (z, nw)) from congrArg V.int ev2.symm, upd_same, put_P_new nin2, take_more hz, addP_app, ← List.append_assoc, List.append_assoc (pairsOf zs ++ addP nw (List.take i zs))]
      rfl
    · rintro σ G ⟨w3, rfl, bG, eG⟩
      rw [klen, List.take_length] at eG
      refine ⟨bG _ _ (Ne.symm heo) hf, ?_⟩
      refine q _ (by rw [upd_ne heo]; exact eG) fun b u hb hu => ?_
      by_cases hbo : b = o
      · subst hbo
        rw [ho] at hu
        rw [upd_same]
        exact hu
      · rw [upd_ne hbo]
        exact bG _ _ hb (bf _ _ hbo hu)
end
end RK

namespace RK
open PySem L2
theorem lon_nm {zs : List Str} {nw : Str} (h : Nm zs) (hn : nameB nw = true) : Nm (zs ++ [nw]) := fun z hz => by
  rcases List.mem_append.mp hz with q | q
  · exact h z q
  · rw [List.mem_singleton.mp q]; exact hn
theorem lon_zl {zs : List Str} {nw : Str} (h : ∀ z ∈ zs, z.length ≤ 1000) (hn : nw.length ≤ 1000) : ∀ z ∈ zs ++ [nw], z.length ≤ 1000 := fun z hz => by
  rcases List.mem_append.mp hz with q | q
  · exact h z q
  · rw [List.mem_singleton.mp q]; exact hn
theorem new_str {zs : List Str} {v : V} (h : newB zs v = true) : ∃ z, v = .str z ∧ nameB z = true ∧ z ∉ zs := by
  cases v with
  | str z =>
    obtain ⟨h1, h2⟩ := Bool.and_eq_true_iff.mp (show (nameB z && !decide (z ∈ zs)) = true from h)
    refine ⟨z, rfl, h1, fun q => ?_⟩
    rw [decide_eq_true q] at h2
    cases h2
  | _ => cases h
theorem Th.int_of {K : PySem.W.Frag} {H : Hp} {v : V} {k : Kd} (h : Th K H v k) (e : k.isInt = true) : ∃ i, v = .int i := by
  cases h <;> first | exact ⟨_, rfl⟩ | cases e
section
variable {P : Program} {w : World} {K : PySem.W.Frag} {mg : Str → Option Value} {base : Heap} {C CB fB CP CS CN CT : Addr}
end
end RK

namespace RK
open PySem L2
/-! ### the law's own longer stand; fewer walkers -/
def newS : Str := "new"
def spWOfSome : Sp := fun vs H Q _ => ∃ (d s : Addr) (zs L : List Str) (kvs : List (Key × V)), vs = [.ref d, .ref s] ∧ H d = some (.dK kvs) ∧ Sta L L kvs ∧ L.Nodup ∧ L.length ≤ 1000 ∧ H s = some (.lst (zs.map V.str)) ∧ zs.Nodup ∧ zs.length ≤ 1000 ∧ (∀ z ∈ zs, z ∈ L) ∧
  ∀ e H', H e = none → H' e = some (.dK (kvOf zs (placedG zs (netF L kvs)))) → Same H H' → Q (.ref e) H'
section
variable {P : Program} {w : World} {K : PySem.W.Frag} {mg : Str → Option Value} {base : Heap}
theorem scWOfSome : FnScope ["stand", "some"] ["stand", "some"] (defScope sWOfSome) := ⟨rfl, rfl, rfl, by decide +kernel, rfl, by decide +kernel, by decide +kernel⟩
theorem ok_wofsome {f fB' fT : Addr} {fd fdB fdT : FuncData} (F : Fun K "_law_w_of_some" "_law_w_of_some" sWOfSome f fd)
    (GB : FnOk P w K mg base CX0 2 fB' fdB ["names", "nets"] spPlacedBy) (bB : Binds K fdB ["names", "nets"] []) (gB : mg "_law_w_by_nets" = some (.ref fB')) (kB : PySem.W.keepIn K (.ref fB') = true)
    (GT : FnOk P w K mg base CX0 2 fT fdT ["stand"] spWTable) (bT : Binds K fdT ["stand"] []) (gT : mg "_law_w_table" = some (.ref fT)) (kT : PySem.W.keepIn K (.ref fT) = true) :
    FnOk P w K mg base CX0 3 f fd ["stand", "some"] spWOfSome := by
  refine F.ok scWOfSome (fun vs H Q E h => ?_) (fun cdv A outer s H vs Q E hr h => ?_)
  · obtain ⟨d, s, zs, L, kvs, rfl, _⟩ := h
    rfl
  · obtain ⟨d, so, zs, L, kvs, rfl, hd, hst, hnd, hl, hs, hzn, hzl, hsub, q⟩ := h
    refine ⟨_, pss_one (ps_ret (pe_call GB hr (by rfl) gB kB bB .nil pass0 (pa_cons (pv 1) (pa_cons (pe_call GT hr (by rfl) gT kT bT .nil pass0 (pa_cons (pv 0) pa_nil)) pa_nil)))), ?_⟩
    refine ⟨_, rfl, _, rfl, d, L, kvs, rfl, hd, hst, hnd, hl, fun e H1 he0 he1 s1 => ?_⟩
    refine ⟨so, e, zs, _, netF L kvs, rfl, s1 _ _ hs, he1, fun p hp => ?_, hzn, hzl, fun g H2 hg0 hg2 s2 => q g H2 (s1.free hg0) hg2 (s1.trans s2)⟩
    obtain ⟨h1, h2, h3⟩ := mem_pairs.mp (show (p.1, p.2) ∈ pairsOf zs from hp)
    exact val_P (mem_pairs.mpr ⟨hsub _ h1, hsub _ h2, h3⟩ : (p.1, p.2) ∈ pairsOf L)
end
end RK

namespace RK
open PySem L2
/-! ### a table of nets whose threes go together is a stand's -/
theorem div_small {a b n : Nat} (ha : a < n) (hb : b < n) : ((a : Int) - (b : Int)) / (n : Int) = if a < b then -1 else 0 := by
  split
  · rename_i h
    have e : (a : Int) - b = ((a : Int) - b + n) + (n : Int) * (-1) := by omega
    rw [e, Int.add_mul_ediv_left _ _ (by omega), Int.ediv_eq_zero_of_lt (by omega) (by omega)]
    rfl
  · exact Int.ediv_eq_zero_of_lt (by omega) (by omega)
theorem div_add {a b n : Int} (h : 0 < n) : a / n + b / n ≤ (a + b) / n ∧ (a + b) / n ≤ a / n + b / n + 1 := by
  have ea := Int.emod_add_mul_ediv a n
  have eb := Int.emod_add_mul_ediv b n
  have a1 := Int.emod_nonneg a (Int.ne_of_gt h)
  have a2 := Int.emod_lt_of_pos a h
  have b1 := Int.emod_nonneg b (Int.ne_of_gt h)
  have b2 := Int.emod_lt_of_pos b h
  generalize a % n = ra at *
  generalize b % n = rb at *
  generalize a / n = qa at *
  generalize b / n = qb at *
  have e : a + b = (ra + rb) + n * (qa + qb) := by rw [Int.mul_add]; omega
  rw [e, Int.add_mul_ediv_left _ _ (Int.ne_of_gt h)]
  by_cases q : ra + rb < n
  · rw [Int.ediv_eq_zero_of_lt (by omega) q]
    omega
  · have e2 : (ra + rb) / n = 1 := by
      have e3 : ra + rb = (ra + rb - n) + n * 1 := by omega
      rw [e3, Int.add_mul_ediv_left _ _ (Int.ne_of_gt h), Int.ediv_eq_zero_of_lt (by omega) (by omega)]
      rfl
    rw [e2]
    omega
theorem sum_between {t : Str → Int} {c : Int} : ∀ {l : List Str}, (∀ z ∈ l, c ≤ t z ∧ t z ≤ c + 1) → (l.length : Int) * c ≤ (l.map t).sum ∧ (l.map t).sum ≤ (l.length : Int) * c + (l.length : Int)
  | [], _ => by simp
  | z :: r, h => by
    have ih := sum_between (l := r) fun y hy => h y (List.mem_cons_of_mem _ hy)
    have h1 := h z List.mem_cons_self
    rw [List.map_cons, List.sum_cons, List.length_cons]
    have e : ((r.length + 1 : Nat) : Int) * c = (r.length : Int) * c + c := by rw [Int.natCast_add, Int.add_mul]; simp
    rw [e]
    omega
theorem sum_less {t : Str → Int} {c : Int} {y : Str} : ∀ {l : List Str}, (∀ z ∈ l, c ≤ t z ∧ t z ≤ c + 1) → y ∈ l → t y = c → (l.map t).sum < (l.length : Int) * c + (l.length : Int)
  | [], _, hy, _ => nomatch hy
  | z :: r, h, hy, e => by
    have h1 := h z List.mem_cons_self
    rw [List.map_cons, List.sum_cons, List.length_cons]
    have e2 : ((r.length + 1 : Nat) : Int) * c = (r.length : Int) * c + c := by rw [Int.natCast_add, Int.add_mul]; simp
    rw [e2]
    rcases List.mem_cons.mp hy with rfl | hy
    · have := (sum_between (l := r) fun u hu => h u (List.mem_cons_of_mem _ hu)).2
      omega
    · have := sum_less (l := r) (fun u hu => h u (List.mem_cons_of_mem _ hu)) hy e
      omega
theorem sum_more {t : Str → Int} {c : Int} {y : Str} : ∀ {l : List Str}, (∀ z ∈ l, c ≤ t z ∧ t z ≤ c + 1) → y ∈ l → t y = c + 1 → (l.length : Int) * c < (l.map t).sum
  | [], _, hy, _ => nomatch hy
  | z :: r, h, hy, e => by
    have h1 := h z List.mem_cons_self
    rw [List.map_cons, List.sum_cons, List.length_cons]
    have e2 : ((r.length + 1 : Nat) : Int) * c = (r.length : Int) * c + c := by rw [Int.natCast_add, Int.add_mul]; simp
    rw [e2]
    rcases List.mem_cons.mp hy with rfl | hy
    · have := (sum_between (l := r) fun u hu => h u (List.mem_cons_of_mem _ hu)).1
      omega
    · have := sum_more (l := r) (fun u hu => h u (List.mem_cons_of_mem _ hu)) hy e
      omega
theorem sum_swap {f : Str → Str → Int} {m : List Str} : ∀ {l : List Str}, (l.map fun x => (m.map fun y => f x y).sum).sum = (m.map fun y => (l.map fun x => f x y).sum).sum
  | [] => by
    have e : (m.map fun _ => (0 : Int)).sum = 0 := by rw [sum_const, Int.mul_zero]
    simp only [List.map_nil, List.sum_nil]
    exact e.symm
  | z :: r => by
    rw [List.map_cons, List.sum_cons, sum_swap]
    simp only [List.map_cons, List.sum_cons]
    exact (sum_add (f := fun y => f z y) (g := fun y => (r.map fun x => f x y).sum)).symm
structure TabD (zs : List Str) (d : Str → Str → Int) : Prop where
  self : ∀ x ∈ zs, d x x = 0
  turn : ∀ x ∈ zs, ∀ y ∈ zs, x ≠ y → d y x = -1 - d x y
  tri : ∀ x ∈ zs, ∀ y ∈ zs, ∀ z ∈ zs, d x y ≤ d x z - d y z ∧ d x z - d y z ≤ d x y + 1
/-- the net of two, told by d -/
def tabG (zs : List Str) (d : Str → Str → Int) (p : Str × Str) : Int := d p.1 p.2 - (((zs.idxOf p.1 : Nat) : Int) - ((zs.idxOf p.2 : Nat) : Int)) / (zs.length : Int)
section
variable {zs : List Str} {d : Str → Str → Int}
theorem placed_tab (h : TabD zs d) (nd : zs.Nodup) {x : Str} (hx : x ∈ zs) : placedG zs (tabG zs d) x = (zs.length : Int) - 1 + (zs.map fun z => d x z).sum := by
  unfold placedG
  have h0 : 0 < zs.length := List.length_pos_of_mem hx
  have es : tabG zs d (x, x) = 0 := by
    unfold tabG
    rw [h.self x hx, Int.sub_self, Int.zero_ediv]
    rfl
  rw [filt_sum (f := fun y => tabG zs d (x, y)) es]
  have e2 := sum_q (first_sta nd h0) nd h0 hx
  have e3 : ∀ y ∈ zs, qN zs (firstKv zs) x y + tabG zs d (x, y) = d x y := fun y hy => by
    unfold qN tabG
    rw [first_kv nd, place_kv hx, place_kv hy]
    show (((zs.idxOf x : Nat) : Int) - ((zs.idxOf y : Nat) : Int)) / (zs.length : Int) + (d x y - (((zs.idxOf x : Nat) : Int) - ((zs.idxOf y : Nat) : Int)) / (zs.length : Int)) = d x y
    omega
  have e4 := sum_congr e3
  rw [sum_add (f := fun y => qN zs (firstKv zs) x y) (g := fun y => tabG zs d (x, y)), e2, first_kv nd, place_kv hx] at e4
  have eta : (List.map (d x) zs).sum = (List.map (fun z => d x z) zs).sum := rfl
  omega
theorem diff_tab (h : TabD zs d) (nd : zs.Nodup) {x y : Str} (hx : x ∈ zs) (hy : y ∈ zs) (ne : x ≠ y) :
    (zs.length : Int) * d x y < placedG zs (tabG zs d) x - placedG zs (tabG zs d) y ∧ placedG zs (tabG zs d) x - placedG zs (tabG zs d) y < (zs.length : Int) * d x y + (zs.length : Int) := by
  rw [placed_tab h nd hx, placed_tab h nd hy]
  have es : (zs.map fun z => d x z).sum - (zs.map fun z => d y z).sum = (zs.map fun z => d x z - d y z).sum := by
    have e : ∀ z ∈ zs, (d x z - d y z) + d y z = d x z := fun _ _ => by omega
    have e2 := sum_congr e
    rw [sum_add (f := fun z => d x z - d y z) (g := fun z => d y z)] at e2
    have eta : (List.map (d x) zs).sum = (List.map (fun z => d x z) zs).sum := rfl
    omega
  have hb : ∀ z ∈ zs, d x y ≤ d x z - d y z ∧ d x z - d y z ≤ d x y + 1 := fun z hz => h.tri x hx y hy z hz
  have ey : d x y - d y y = d x y := by have := h.self y hy; omega
  have ex : d x x - d y x = d x y + 1 := by
    have := h.self x hx
    have := h.turn x hx y hy ne
    omega
  have l1 := sum_more hb hx ex
  have l2 := sum_less hb hy ey
  rw [← es] at l1 l2
  omega
theorem sum_tab (h : TabD zs d) (nd : zs.Nodup) : (zs.map (placedG zs (tabG zs d))).sum = (zs.length : Int) * ((zs.length : Int) - 1) / 2 := by
  have e1 := sum_congr (f := placedG zs (tabG zs d)) fun x hx => placed_tab h nd hx
  rw [e1, sum_add (f := fun _ => (zs.length : Int) - 1) (g := fun x => (zs.map fun z => d x z).sum), sum_const]
  have sw : (zs.map fun x => (zs.map fun z => d x z).sum).sum = (zs.map fun x => (zs.map fun z => d z x).sum).sum := sum_swap
  have rowsum : ∀ x ∈ zs, (zs.map fun z => d x z).sum + (zs.map fun z => d z x).sum = 1 - (zs.length : Int) := fun x hx => by
    rw [← sum_add (f := fun z => d x z) (g := fun z => d z x)]
    have e : ∀ z ∈ zs, d x z + d z x = (if z = x then 1 else 0) - 1 := fun z hz => by
      by_cases q : z = x
      · subst q
        rw [if_pos rfl, h.self z hz]
        rfl
      · rw [if_neg q]
        have := h.turn x hx z hz (fun e => q e.symm)
        omega
    rw [sum_congr e]
    have e3 : (zs.map fun z => ((if z = x then 1 else 0) - 1 : Int)).sum = (zs.map fun z => ((if z = x then 1 else 0) : Int)).sum + (zs.map fun _ => (-1 : Int)).sum := (sum_add (f := fun z => if z = x then 1 else 0) (g := fun _ => -1))
    rw [e3, sum_const, sum_one nd, if_pos hx]
    omega
  have e4 := sum_congr rowsum
  rw [sum_add (f := fun x => (zs.map fun z => d x z).sum) (g := fun x => (zs.map fun z => d z x).sum), ← sw, sum_const] at e4
  have e5 := even_n (zs.length : Int)
  have e6 : (zs.length : Int) * (1 - (zs.length : Int)) = - ((zs.length : Int) * ((zs.length : Int) - 1)) := by
    rw [← Int.mul_neg]
    congr 1
    omega
  rw [e6] at e4
  generalize (zs.length : Int) * ((zs.length : Int) - 1) = N at *
  generalize (zs.map fun x => (zs.map fun z => d x z).sum).sum = S at *
  omega
def tabKv (zs : List Str) (d : Str → Str → Int) : List (Key × V) := kvOf zs (placedG zs (tabG zs d))
theorem sta_tab (h : TabD zs d) (nd : zs.Nodup) : Sta zs zs (tabKv zs d) := by
  refine Sta.mk' (List.Perm.refl _) (sum_tab h nd) (nodup_inj nd fun x hx y hy e => ?_)
  refine Decidable.byContradiction fun ne => ?_
  obtain ⟨k, hk⟩ := mod_zero (eq_mod e)
  obtain ⟨h1, h2⟩ := diff_tab h nd hx hy ne
  rw [hk] at h1 h2
  have c0 : (0 : Int) < (zs.length : Int) := by have := List.length_pos_of_mem hx; omega
  have g1 := Int.lt_of_mul_lt_mul_left h1 (Int.le_of_lt c0)
  have g2 : (zs.length : Int) * k < (zs.length : Int) * (d x y + 1) := by rw [Int.mul_add, Int.mul_one]; exact h2
  have g3 := Int.lt_of_mul_lt_mul_left g2 (Int.le_of_lt c0)
  omega
theorem q_tab (h : TabD zs d) (nd : zs.Nodup) {x y : Str} (hx : x ∈ zs) (hy : y ∈ zs) : qN zs (tabKv zs d) x y = d x y := by
  by_cases ne : x = y
  · subst ne
    rw [h.self x hx]
    unfold qN
    rw [Int.sub_self, Int.zero_ediv]
  · obtain ⟨h1, h2⟩ := diff_tab h nd hx hy ne
    have c0 : (0 : Int) < (zs.length : Int) := by have := List.length_pos_of_mem hx; omega
    unfold qN tabKv
    rw [place_kv hx, place_kv hy]
    generalize placedG zs (tabG zs d) x - placedG zs (tabG zs d) y = D at *
    have e : D = (D - (zs.length : Int) * d x y) + (zs.length : Int) * d x y := by omega
    rw [e, Int.add_mul_ediv_left _ _ (Int.ne_of_gt c0), Int.ediv_eq_zero_of_lt (by omega) (by omega), Int.zero_add]
theorem net_tab (h : TabD zs d) (nd : zs.Nodup) {x y : Str} (hx : x ∈ zs) (hy : y ∈ zs) : netP zs (tabKv zs d) x y = tabG zs d (x, y) := by
  unfold netP tabG
  rw [q_tab h nd hx hy]
end
/-- a stand's own nets, told by d, are such a table -/
theorem q_turn {zs ks : List Str} {kvs : List (Key × V)} (h : Sta zs ks kvs) {x y : Str} (hx : x ∈ zs) (hy : y ∈ zs) (ne : x ≠ y) : qN zs kvs y x = -1 - qN zs kvs x y := by
  have n0 : (0 : Int) < (zs.length : Int) := by have := List.length_pos_of_mem hx; omega
  have hm : (placeOf kvs x - placeOf kvs y) % (zs.length : Int) ≠ 0 := fun e => ne (rest_inj h.ok hx hy (mod_eq e))
  have e1 := Int.emod_add_mul_ediv (placeOf kvs x - placeOf kvs y) (zs.length : Int)
  have e2 := Int.emod_nonneg (placeOf kvs x - placeOf kvs y) (Int.ne_of_gt n0)
  have e3 := Int.emod_lt_of_pos (placeOf kvs x - placeOf kvs y) n0
  unfold qN
  generalize (placeOf kvs x - placeOf kvs y) % (zs.length : Int) = r at *
  generalize (placeOf kvs x - placeOf kvs y) / (zs.length : Int) = k at *
  have e : placeOf kvs y - placeOf kvs x = ((zs.length : Int) - r) + (zs.length : Int) * (-1 - k) := by
    rw [Int.mul_sub, Int.mul_neg, Int.mul_one]
    omega
  rw [e, Int.add_mul_ediv_left _ _ (Int.ne_of_gt n0), Int.ediv_eq_zero_of_lt (by omega) (by omega), Int.zero_add]
theorem q_self {zs : List Str} {kvs : List (Key × V)} {x : Str} : qN zs kvs x x = 0 := by unfold qN; rw [Int.sub_self, Int.zero_ediv]
theorem q_tri {zs : List Str} {kvs : List (Key × V)} (h0 : 0 < zs.length) (x y z : Str) : qN zs kvs x y ≤ qN zs kvs x z - qN zs kvs y z ∧ qN zs kvs x z - qN zs kvs y z ≤ qN zs kvs x y + 1 := by
  have n0 : (0 : Int) < (zs.length : Int) := by omega
  have d := div_add (a := placeOf kvs x - placeOf kvs y) (b := placeOf kvs y - placeOf kvs z) n0
  rw [show placeOf kvs x - placeOf kvs y + (placeOf kvs y - placeOf kvs z) = placeOf kvs x - placeOf kvs z by omega] at d
  unfold qN
  omega
end RK

namespace RK
open PySem L2
/-! ### two stands joined -/
theorem fl_step {n u v a : Int} (h : 0 < n) (h1 : n * a ≤ u - v) (h2 : u - v ≤ n * a + n) : a ≤ u / n - v / n ∧ u / n - v / n ≤ a + 1 := by
  have e1 : (v + n * a) / n = v / n + a := Int.add_mul_ediv_left _ _ (Int.ne_of_gt h)
  have e2 : (v + n * (a + 1)) / n = v / n + (a + 1) := Int.add_mul_ediv_left _ _ (Int.ne_of_gt h)
  have e3 : n * (a + 1) = n * a + n := by rw [Int.mul_add, Int.mul_one]
  have g1 := Int.ediv_le_ediv h (show v + n * a ≤ u by omega)
  have g2 := Int.ediv_le_ediv h (show u ≤ v + n * (a + 1) by omega)
  omega
theorem tot_fl {O : List Str} {kvO : List (Key × V)} (h0 : 0 < O.length) (t : Int) (z : Str) : totG O kvO t z - 1 = (t - 1 - placeOf kvO z) / (O.length : Int) := by
  unfold totG
  have e : (O.length : Int) + t - 1 - placeOf kvO z = (t - 1 - placeOf kvO z) + (O.length : Int) * 1 := by omega
  rw [e, Int.add_mul_ediv_left _ _ (show (O.length : Int) ≠ 0 by omega)]
  omega
def jd (M O : List Str) (kvM kvO : List (Key × V)) (T : Str → Int) (x y : Str) : Int :=
  if x ∈ M then (if y ∈ M then qN M kvM x y else totG O kvO (T x) y - 1) else (if y ∈ M then - totG O kvO (T y) x else qN O kvO x y)
def jG (M O : List Str) (kvM kvO : List (Key × V)) (T : Str → Int) (p : Str × Str) : Int :=
  if p.1 ∈ M then (if p.2 ∈ M then netF M kvM p else totG O kvO (T p.1) p.2) else (if p.2 ∈ M then - totG O kvO (T p.2) p.1 else netF O kvO p)
/-- no two of M bar it -/
def NoCl (M O : List Str) (kvM : List (Key × V)) (T : Str → Int) : Prop := ∀ x ∈ M, ∀ y ∈ M, M.idxOf x < M.idxOf y → (O.length : Int) * qN M kvM x y ≤ T x - T y ∧ T x - T y ≤ (O.length : Int) * qN M kvM x y + (O.length : Int)
section
variable {M O : List Str} {kvM kvO : List (Key × V)} {T : Str → Int}
theorem nocl_all {ks : List Str} (hM : Sta M ks kvM) (h : NoCl M O kvM T) {x y : Str} (hx : x ∈ M) (hy : y ∈ M) (ne : x ≠ y) : (O.length : Int) * qN M kvM x y ≤ T x - T y ∧ T x - T y ≤ (O.length : Int) * qN M kvM x y + (O.length : Int) := by
  rcases Nat.lt_or_ge (M.idxOf x) (M.idxOf y) with q | q
  · exact h x hx y hy q
  · have q2 : M.idxOf y < M.idxOf x := Nat.lt_of_le_of_ne q fun e => ne (by
      have e1 := List.getElem_idxOf (List.idxOf_lt_length_of_mem hx)
      have e2 := List.getElem_idxOf (List.idxOf_lt_length_of_mem hy)
      rw [← e1, ← e2]
      simp only [e])
    have h1 := h y hy x hx q2
    rw [q_turn hM hx hy ne] at h1
    have e : (O.length : Int) * (-1 - qN M kvM x y) = - (O.length : Int) - (O.length : Int) * qN M kvM x y := by rw [Int.mul_sub, Int.mul_neg, Int.mul_one]
    omega
theorem jd_tab {ks ls : List Str} (hM : Sta M ks kvM) (hO : Sta O ls kvO) (nd : (M ++ O).Nodup) (h0 : 0 < M.length) (h1 : 0 < O.length) (hc : NoCl M O kvM T) : TabD (M ++ O) (jd M O kvM kvO T) := by
  have dis : ∀ x ∈ O, x ∉ M := fun x hx q => (List.nodup_append.mp nd).2.2 x q x hx rfl
  have n1 : (0 : Int) < (O.length : Int) := by omega
  have mm : ∀ {x y}, x ∈ M → y ∈ M → jd M O kvM kvO T x y = qN M kvM x y := fun hx hy => by unfold jd; rw [if_pos hx, if_pos hy]
  have mo : ∀ {x y}, x ∈ M → y ∈ O → jd M O kvM kvO T x y = (T x - 1 - placeOf kvO y) / (O.length : Int) := fun hx hy => by unfold jd; rw [if_pos hx, if_neg (dis _ hy), tot_fl h1]
  have om : ∀ {x y}, x ∈ O → y ∈ M → jd M O kvM kvO T x y = -1 - (T y - 1 - placeOf kvO x) / (O.length : Int) := fun {x y} hx hy => by
    unfold jd
    rw [if_neg (dis _ hx), if_pos hy, ← tot_fl h1]
    omega
  have oo : ∀ {x y}, x ∈ O → y ∈ O → jd M O kvM kvO T x y = qN O kvO x y := fun hx hy => by unfold jd; rw [if_neg (dis _ hx), if_neg (dis _ hy)]
  have self : ∀ x ∈ M ++ O, jd M O kvM kvO T x x = 0 := fun x hx => by
    rcases List.mem_append.mp hx with h | h
    · rw [mm h h, q_self]
    · rw [oo h h, q_self]
  have turn : ∀ x ∈ M ++ O, ∀ y ∈ M ++ O, x ≠ y → jd M O kvM kvO T y x = -1 - jd M O kvM kvO T x y := fun x hx y hy ne => by
    rcases List.mem_append.mp hx with h | h <;> rcases List.mem_append.mp hy with g | g
    · rw [mm h g, mm g h, q_turn hM h g ne]
    · rw [mo h g, om g h]
    · rw [om h g, mo g h]
      omega
    · rw [oo h g, oo g h, q_turn hO h g ne]
  refine ⟨self, turn, ?_⟩
  generalize hJ : jd M O kvM kvO T = J at *
  have s12 : ∀ {x y z}, x ∈ M ++ O → y ∈ M ++ O → x ≠ y → (J x y ≤ J x z - J y z ∧ J x z - J y z ≤ J x y + 1) → (J y x ≤ J y z - J x z ∧ J y z - J x z ≤ J y x + 1) := fun hx hy ne h => by
    have := turn _ hx _ hy ne
    omega
  have s23 : ∀ {x y z}, y ∈ M ++ O → z ∈ M ++ O → y ≠ z → (J x y ≤ J x z - J y z ∧ J x z - J y z ≤ J x y + 1) → (J x z ≤ J x y - J z y ∧ J x y - J z y ≤ J x z + 1) := fun hy hz ne h => by
    have := turn _ hy _ hz ne
    omega
  have MMM : ∀ {x y z}, x ∈ M → y ∈ M → z ∈ M → (J x y ≤ J x z - J y z ∧ J x z - J y z ≤ J x y + 1) := fun {x y z} hx hy hz => by
    rw [mm hx hy, mm hx hz, mm hy hz]
    exact q_tri h0 x y z
  have MMO : ∀ {x y z}, x ∈ M → y ∈ M → z ∈ O → x ≠ y → (J x y ≤ J x z - J y z ∧ J x z - J y z ≤ J x y + 1) := fun {x y z} hx hy hz ne => by
    rw [mm hx hy, mo hx hz, mo hy hz]
    have h := nocl_all hM hc hx hy ne
    exact fl_step n1 (by omega) (by omega)
  have MOO : ∀ {x y z}, x ∈ M → y ∈ O → z ∈ O → (J x y ≤ J x z - J y z ∧ J x z - J y z ≤ J x y + 1) := fun {x y z} hx hy hz => by
    rw [mo hx hy, mo hx hz, oo hy hz]
    have d := div_add (a := T x - 1 - placeOf kvO y) (b := placeOf kvO y - placeOf kvO z) n1
    rw [show T x - 1 - placeOf kvO y + (placeOf kvO y - placeOf kvO z) = T x - 1 - placeOf kvO z by omega] at d
    unfold qN
    omega
  have OOO : ∀ {x y z}, x ∈ O → y ∈ O → z ∈ O → (J x y ≤ J x z - J y z ∧ J x z - J y z ≤ J x y + 1) := fun {x y z} hx hy hz => by
    rw [oo hx hy, oo hx hz, oo hy hz]
    exact q_tri h1 x y z
  intro x hx y hy z hz
  by_cases e1 : x = y
  · subst e1
    have := self x hx
    omega
  by_cases e2 : x = z
  · subst e2
    have := self x hx
    have := turn x hx y hy e1
    omega
  by_cases e3 : y = z
  · subst e3
    have := self y hy
    omega
  have l : ∀ {u}, u ∈ M → u ∈ M ++ O := fun h => List.mem_append_left _ h
  have r : ∀ {u}, u ∈ O → u ∈ M ++ O := fun h => List.mem_append_right _ h
  rcases List.mem_append.mp hx with a | a <;> rcases List.mem_append.mp hy with b | b <;> rcases List.mem_append.mp hz with c | c
  · exact MMM a b c
  · exact MMO a b c e1
  · exact s23 hz hy (Ne.symm e3) (MMO a c b e2)
  · exact MOO a b c
  · exact s12 hy hx (Ne.symm e1) (s23 hz hx (Ne.symm e2) (MMO b c a e3))
  · exact s12 hy hx (Ne.symm e1) (MOO b a c)
  · exact s23 hz hy (Ne.symm e3) (s12 hz hx (Ne.symm e2) (MOO c a b))
  · exact OOO a b c
end
end RK

namespace RK
open PySem L2
theorem sum_le' {e f : Str → Int} : ∀ {l : List Str}, (∀ u ∈ l, e u ≤ f u) → (l.map e).sum ≤ (l.map f).sum
  | [], _ => by simp
  | z :: r, h => by
    have ih := sum_le' (l := r) fun u hu => h u (List.mem_cons_of_mem _ hu)
    have := h z List.mem_cons_self
    rw [List.map_cons, List.sum_cons, List.map_cons, List.sum_cons]
    omega
theorem sum_lt' {e f : Str → Int} {z : Str} : ∀ {l : List Str}, (∀ u ∈ l, e u ≤ f u) → z ∈ l → e z < f z → (l.map e).sum < (l.map f).sum
  | [], _, hz, _ => nomatch hz
  | y :: r, h, hz, q => by
    have h1 := h y List.mem_cons_self
    rw [List.map_cons, List.sum_cons, List.map_cons, List.sum_cons]
    rcases List.mem_cons.mp hz with rfl | hz
    · have := sum_le' (l := r) fun u hu => h u (List.mem_cons_of_mem _ hu)
      omega
    · have := sum_lt' (l := r) (fun u hu => h u (List.mem_cons_of_mem _ hu)) hz q
      omega
theorem eq_of_sums {e f : Str → Int} {l : List Str} (hs : (l.map f).sum = (l.map e).sum) (h : ∀ z ∈ l, ∀ u ∈ l, e z < f z → e u ≤ f u) : ∀ z ∈ l, f z = e z := by
  by_cases q : ∃ z ∈ l, e z < f z
  · obtain ⟨z, hz, q⟩ := q
    have := sum_lt' (fun u hu => h z hz u hu q) hz q
    omega
  · have le : ∀ u ∈ l, f u ≤ e u := fun u hu => Int.not_lt.mp fun x => q ⟨u, hu, x⟩
    intro z hz
    refine Decidable.byContradiction fun ne => ?_
    have := sum_lt' le hz (by have := le z hz; omega)
    omega
/-- nets over O that go together with O's stand are told by their sum -/
theorem tot_uniq {O ks : List Str} {kvO : List (Key × V)} {f : Str → Int} {T : Int} (hO : Sta O ks kvO) (nd : O.Nodup) (h0 : 0 < O.length) (hf : ∀ z ∈ O, ∀ u ∈ O, f z + qN O kvO z u ≤ f u ∧ f u ≤ f z + qN O kvO z u + 1) (hs : (O.map fun z => f z + 1).sum = T) :
    ∀ z ∈ O, f z = totG O kvO T z - 1 := by
  have n1 : (0 : Int) < (O.length : Int) := by omega
  have e1 := sum_tot hO nd h0 (T := T)
  have hs2 : (O.map f).sum = (O.map fun z => totG O kvO T z - 1).sum := by
    have a1 : (O.map fun z => f z + 1).sum = (O.map f).sum + (O.map fun _ => (1 : Int)).sum := sum_add
    have a2 : (O.map fun z => totG O kvO T z + (-1)).sum = (O.map fun z => totG O kvO T z).sum + (O.map fun _ => (-1 : Int)).sum := sum_add
    have a3 : (O.map fun z => totG O kvO T z - 1) = (O.map fun z => totG O kvO T z + (-1)) := List.map_congr_left fun z _ => by omega
    rw [sum_const] at a1 a2
    rw [a3]
    omega
  refine eq_of_sums (e := fun z => totG O kvO T z - 1) hs2 fun z hz u hu q => ?_
  have d := div_add (a := T - 1 - placeOf kvO z) (b := placeOf kvO z - placeOf kvO u) n1
  rw [show T - 1 - placeOf kvO z + (placeOf kvO z - placeOf kvO u) = T - 1 - placeOf kvO u by omega] at d
  have q2 : totG O kvO T z - 1 < f z := q
  show totG O kvO T u - 1 ≤ f u
  rw [tot_fl h0] at q2 ⊢
  have h := (hf z hz u hu).1
  unfold qN at h
  omega
theorem idx_lt_of {l : List Str} {x y : Str} (hx : x ∈ l) (hy : y ∈ l) : (((l.idxOf x : Nat) : Int) - ((l.idxOf y : Nat) : Int)) / (l.length : Int) = if l.idxOf x < l.idxOf y then -1 else 0 := div_small (List.idxOf_lt_length_of_mem hx) (List.idxOf_lt_length_of_mem hy)
section
variable {M O : List Str} {kvM kvO : List (Key × V)} {T : Str → Int}
theorem idx_m {x y : Str} (hx : x ∈ M) (hy : y ∈ M) : ((((M ++ O).idxOf x : Nat) : Int) - (((M ++ O).idxOf y : Nat) : Int)) / ((M ++ O).length : Int) = (((M.idxOf x : Nat) : Int) - ((M.idxOf y : Nat) : Int)) / (M.length : Int) := by
  rw [idx_lt_of (List.mem_append_left _ hx) (List.mem_append_left _ hy), idx_lt_of hx hy, idx_app hx, idx_app hy]
theorem idx_o {x y : Str} (hx : x ∈ O) (hy : y ∈ O) (nx : x ∉ M) (ny : y ∉ M) : ((((M ++ O).idxOf x : Nat) : Int) - (((M ++ O).idxOf y : Nat) : Int)) / ((M ++ O).length : Int) = (((O.idxOf x : Nat) : Int) - ((O.idxOf y : Nat) : Int)) / (O.length : Int) := by
  rw [idx_lt_of (List.mem_append_right _ hx) (List.mem_append_right _ hy), idx_lt_of hx hy, idx_app2 nx, idx_app2 ny]
  by_cases h : O.idxOf x < O.idxOf y
  · rw [if_pos h, if_pos (by omega)]
  · rw [if_neg h, if_neg (by omega)]
theorem idx_mo {x y : Str} (hx : x ∈ M) (hy : y ∈ O) (ny : y ∉ M) : ((((M ++ O).idxOf x : Nat) : Int) - (((M ++ O).idxOf y : Nat) : Int)) / ((M ++ O).length : Int) = -1 := by
  rw [idx_lt_of (List.mem_append_left _ hx) (List.mem_append_right _ hy), idx_app hx, idx_app2 ny, if_pos (by have := List.idxOf_lt_length_of_mem hx; omega)]
theorem idx_om {x y : Str} (hx : x ∈ O) (hy : y ∈ M) (nx : x ∉ M) : ((((M ++ O).idxOf x : Nat) : Int) - (((M ++ O).idxOf y : Nat) : Int)) / ((M ++ O).length : Int) = 0 := by
  rw [idx_lt_of (List.mem_append_right _ hx) (List.mem_append_left _ hy), idx_app hy, idx_app2 nx, if_neg (by have := List.idxOf_lt_length_of_mem hy; omega)]
theorem jG_tab (nd : (M ++ O).Nodup) {p : Str × Str} (h1 : p.1 ∈ M ++ O) (h2 : p.2 ∈ M ++ O) : jG M O kvM kvO T p = tabG (M ++ O) (jd M O kvM kvO T) p := by
  have dis : ∀ x ∈ O, x ∉ M := fun x hx q => (List.nodup_append.mp nd).2.2 x q x hx rfl
  obtain ⟨x, y⟩ := p
  unfold jG tabG jd
  rcases List.mem_append.mp h1 with a | a <;> rcases List.mem_append.mp h2 with b | b
  · rw [if_pos a, if_pos b, if_pos a, if_pos b, idx_m a b]
    rfl
  · rw [if_pos a, if_neg (dis _ b), if_pos a, if_neg (dis _ b), idx_mo a b (dis _ b)]
    show totG O kvO (T x) y = totG O kvO (T x) y - 1 - -1
    omega
  · rw [if_neg (dis _ a), if_pos b, if_neg (dis _ a), if_pos b, idx_om a b (dis _ a)]
    show - totG O kvO (T y) x = - totG O kvO (T y) x - 0
    omega
  · rw [if_neg (dis _ a), if_neg (dis _ b), if_neg (dis _ a), if_neg (dis _ b), idx_o a b (dis _ a) (dis _ b)]
    rfl
theorem placed_congr {zs : List Str} {g g' : Str × Str → Int} (h : ∀ p : Str × Str, p.1 ∈ zs → p.2 ∈ zs → g p = g' p) {x : Str} (hx : x ∈ zs) : placedG zs g x = placedG zs g' x := by
  unfold placedG
  congr 2
  exact List.map_congr_left fun y hy => h (x, y) hx (List.mem_filter.mp hy).1
theorem kvOf_congr' {zs : List Str} {g g' : Str → Int} (h : ∀ z ∈ zs, g z = g' z) : kvOf zs g = kvOf zs g' := by
  unfold kvOf
  exact List.map_congr_left fun z hz => by rw [h z hz]
/-- what joined tells -/
def joinKv (M O : List Str) (kvM kvO : List (Key × V)) (T : Str → Int) : List (Key × V) := kvOf (M ++ O) (placedG (M ++ O) (jG M O kvM kvO T))
theorem join_tab (nd : (M ++ O).Nodup) : joinKv M O kvM kvO T = tabKv (M ++ O) (jd M O kvM kvO T) := by
  unfold joinKv tabKv
  exact kvOf_congr' fun z hz => placed_congr (fun p h1 h2 => jG_tab nd h1 h2) hz
/-- its sums -/
theorem join_sums {ks ls : List Str} (hM : Sta M ks kvM) (hO : Sta O ls kvO) (nd : (M ++ O).Nodup) (h0 : 0 < M.length) (h1 : 0 < O.length) (hc : NoCl M O kvM T) {x : Str} (hx : x ∈ M) : (O.map fun z => netP (M ++ O) (joinKv M O kvM kvO T) x z).sum = T x := by
  have dis : ∀ x ∈ O, x ∉ M := fun x hx q => (List.nodup_append.mp nd).2.2 x q x hx rfl
  rw [join_tab nd]
  have e : ∀ z ∈ O, netP (M ++ O) (tabKv (M ++ O) (jd M O kvM kvO T)) x z = totG O kvO (T x) z := fun z hz => by
    rw [net_tab (jd_tab hM hO nd h0 h1 hc) nd (List.mem_append_left _ hx) (List.mem_append_right _ hz), ← jG_tab nd (List.mem_append_left _ hx) (List.mem_append_right _ hz)]
    unfold jG
    rw [if_pos hx, if_neg (dis _ hz)]
  rw [sum_congr e]
  exact sum_tot hO (List.nodup_append.mp nd).2.1 h1
theorem join_sta {ks ls : List Str} (hM : Sta M ks kvM) (hO : Sta O ls kvO) (nd : (M ++ O).Nodup) (h0 : 0 < M.length) (h1 : 0 < O.length) (hc : NoCl M O kvM T) : Sta (M ++ O) (M ++ O) (joinKv M O kvM kvO T) := by
  rw [join_tab nd]
  exact sta_tab (jd_tab hM hO nd h0 h1 hc) nd
/-- its first half -/
theorem join_m {ks ls : List Str} (hM : Sta M ks kvM) (hO : Sta O ls kvO) (nd : (M ++ O).Nodup) (h0 : 0 < M.length) (h1 : 0 < O.length) (hc : NoCl M O kvM T) : kvOf M (placedG M (netF (M ++ O) (joinKv M O kvM kvO T))) = kvOf M (placeOf kvM) := by
  have ndM := (List.nodup_append.mp nd).1
  rw [join_tab nd]
  refine kvOf_congr' fun x hx => ?_
  have e : ∀ p : Str × Str, p.1 ∈ M → p.2 ∈ M → netF (M ++ O) (tabKv (M ++ O) (jd M O kvM kvO T)) p = netF M kvM p := fun p a b => by
    show netP _ _ p.1 p.2 = _
    rw [net_tab (jd_tab hM hO nd h0 h1 hc) nd (List.mem_append_left _ a) (List.mem_append_left _ b), ← jG_tab nd (List.mem_append_left _ a) (List.mem_append_left _ b)]
    unfold jG
    rw [if_pos a, if_pos b]
  rw [placed_congr e hx, placed_row hM ndM (List.Perm.refl _) hx]
  omega
theorem join_o {ks ls : List Str} (hM : Sta M ks kvM) (hO : Sta O ls kvO) (nd : (M ++ O).Nodup) (h0 : 0 < M.length) (h1 : 0 < O.length) (hc : NoCl M O kvM T) : kvOf O (placedG O (netF (M ++ O) (joinKv M O kvM kvO T))) = kvOf O (placeOf kvO) := by
  have ndO := (List.nodup_append.mp nd).2.1
  have dis : ∀ x ∈ O, x ∉ M := fun x hx q => (List.nodup_append.mp nd).2.2 x q x hx rfl
  rw [join_tab nd]
  refine kvOf_congr' fun x hx => ?_
  have e : ∀ p : Str × Str, p.1 ∈ O → p.2 ∈ O → netF (M ++ O) (tabKv (M ++ O) (jd M O kvM kvO T)) p = netF O kvO p := fun p a b => by
    show netP _ _ p.1 p.2 = _
    rw [net_tab (jd_tab hM hO nd h0 h1 hc) nd (List.mem_append_right _ a) (List.mem_append_right _ b), ← jG_tab nd (List.mem_append_right _ a) (List.mem_append_right _ b)]
    unfold jG
    rw [if_neg (dis _ a), if_neg (dis _ b)]
  rw [placed_congr e hx, placed_row hO ndO (List.Perm.refl _) hx]
  omega
end
/-! ### the halves of a stand -/
section
variable {M O ks : List Str} {kvW : List (Key × V)}
def halfM (M Z : List Str) (kvW : List (Key × V)) : List (Key × V) := kvOf M (placedG M (netF Z kvW))
theorem half_tab (hW : Sta (M ++ O) ks kvW) : TabD M (qN (M ++ O) kvW) ∧ TabD O (qN (M ++ O) kvW) := by
  constructor
  · refine ⟨fun x _ => q_self, fun x hx y hy ne => q_turn hW (List.mem_append_left _ hx) (List.mem_append_left _ hy) ne, fun x hx y _ z _ => q_tri (by have := List.length_pos_of_mem hx; rw [List.length_append]; omega) x y z⟩
  · refine ⟨fun x _ => q_self, fun x hx y hy ne => q_turn hW (List.mem_append_right _ hx) (List.mem_append_right _ hy) ne, fun x hx y _ z _ => q_tri (by have := List.length_pos_of_mem hx; rw [List.length_append]; omega) x y z⟩
theorem half_m (nd : (M ++ O).Nodup) : halfM M (M ++ O) kvW = tabKv M (qN (M ++ O) kvW) := by
  unfold halfM tabKv
  refine kvOf_congr' fun z hz => placed_congr (fun p a b => ?_) hz
  unfold netF netP tabG
  rw [idx_m a b]
theorem half_o (nd : (M ++ O).Nodup) : halfM O (M ++ O) kvW = tabKv O (qN (M ++ O) kvW) := by
  have dis : ∀ x ∈ O, x ∉ M := fun x hx q => (List.nodup_append.mp nd).2.2 x q x hx rfl
  unfold halfM tabKv
  refine kvOf_congr' fun z hz => placed_congr (fun p a b => ?_) hz
  unfold netF netP tabG
  rw [idx_o a b (dis _ a) (dis _ b)]
theorem half_sta_m (hW : Sta (M ++ O) ks kvW) (nd : (M ++ O).Nodup) : Sta M M (halfM M (M ++ O) kvW) := by
  rw [half_m nd]
  exact sta_tab (half_tab hW).1 (List.nodup_append.mp nd).1
theorem half_sta_o (hW : Sta (M ++ O) ks kvW) (nd : (M ++ O).Nodup) : Sta O O (halfM O (M ++ O) kvW) := by
  rw [half_o nd]
  exact sta_tab (half_tab hW).2 (List.nodup_append.mp nd).2.1
theorem half_q_m (hW : Sta (M ++ O) ks kvW) (nd : (M ++ O).Nodup) {x y : Str} (hx : x ∈ M) (hy : y ∈ M) : qN M (halfM M (M ++ O) kvW) x y = qN (M ++ O) kvW x y := by
  rw [half_m nd]
  exact q_tab (half_tab hW).1 (List.nodup_append.mp nd).1 hx hy
theorem half_q_o (hW : Sta (M ++ O) ks kvW) (nd : (M ++ O).Nodup) {x y : Str} (hx : x ∈ O) (hy : y ∈ O) : qN O (halfM O (M ++ O) kvW) x y = qN (M ++ O) kvW x y := by
  rw [half_o nd]
  exact q_tab (half_tab hW).2 (List.nodup_append.mp nd).2.1 hx hy
def sumsW (M O : List Str) (kvW : List (Key × V)) (x : Str) : Int := (O.map fun z => netP (M ++ O) kvW x z).sum
theorem net_cross (nd : (M ++ O).Nodup) {x z : Str} (hx : x ∈ M) (hz : z ∈ O) : netP (M ++ O) kvW x z = qN (M ++ O) kvW x z + 1 := by
  have dis : ∀ x ∈ O, x ∉ M := fun x hx q => (List.nodup_append.mp nd).2.2 x q x hx rfl
  unfold netP
  rw [idx_mo hx hz (dis _ hz)]
  omega
theorem whole_nocl (hW : Sta (M ++ O) ks kvW) (nd : (M ++ O).Nodup) : NoCl M O (halfM M (M ++ O) kvW) (sumsW M O kvW) := fun x hx y hy _ => by
  rw [half_q_m hW nd hx hy]
  have es : sumsW M O kvW x - sumsW M O kvW y = (O.map fun z => qN (M ++ O) kvW x z - qN (M ++ O) kvW y z).sum := by
    unfold sumsW
    rw [sum_congr fun z hz => net_cross (kvW := kvW) nd hx hz, sum_congr fun z hz => net_cross (kvW := kvW) nd hy hz]
    have e : ∀ z ∈ O, (qN (M ++ O) kvW x z - qN (M ++ O) kvW y z) + (qN (M ++ O) kvW y z + 1) = qN (M ++ O) kvW x z + 1 := fun _ _ => by omega
    have e2 := sum_congr e
    rw [sum_add (f := fun z => qN (M ++ O) kvW x z - qN (M ++ O) kvW y z) (g := fun z => qN (M ++ O) kvW y z + 1)] at e2
    omega
  have l := sum_between (t := fun z => qN (M ++ O) kvW x z - qN (M ++ O) kvW y z) (c := qN (M ++ O) kvW x y) (l := O) fun z hz => q_tri (by have := List.length_pos_of_mem hx; rw [List.length_append]; omega) x y z
  omega
/-- joined again, it is whole -/
theorem join_whole (hW : Sta (M ++ O) ks kvW) (nd : (M ++ O).Nodup) (h0 : 0 < M.length) (h1 : 0 < O.length) : joinKv M O (halfM M (M ++ O) kvW) (halfM O (M ++ O) kvW) (sumsW M O kvW) = kvOf (M ++ O) (placeOf kvW) := by
  have dis : ∀ x ∈ O, x ∉ M := fun x hx q => (List.nodup_append.mp nd).2.2 x q x hx rfl
  have hOs := half_sta_o hW nd
  have ndO := (List.nodup_append.mp nd).2.1
  have hq : ∀ x ∈ M, ∀ z ∈ O, qN (M ++ O) kvW x z = totG O (halfM O (M ++ O) kvW) (sumsW M O kvW x) z - 1 := fun x hx => by
    refine tot_uniq hOs ndO h1 (f := fun z => qN (M ++ O) kvW x z) (fun z hz u hu => ?_) ?_
    · rw [half_q_o hW nd hz hu]
      have := q_tri (zs := M ++ O) (kvs := kvW) (by rw [List.length_append]; omega) x z u
      show qN _ _ x z + _ ≤ qN _ _ x u ∧ qN _ _ x u ≤ _
      omega
    · unfold sumsW
      exact (sum_congr fun z hz => net_cross nd hx hz).symm
  unfold joinKv
  refine kvOf_congr' fun z hz => ?_
  have e : ∀ p : Str × Str, p.1 ∈ M ++ O → p.2 ∈ M ++ O → jG M O (halfM M (M ++ O) kvW) (halfM O (M ++ O) kvW) (sumsW M O kvW) p = netF (M ++ O) kvW p := fun p a b => by
    rw [jG_tab nd a b]
    unfold tabG netF netP
    have ej : jd M O (halfM M (M ++ O) kvW) (halfM O (M ++ O) kvW) (sumsW M O kvW) p.1 p.2 = qN (M ++ O) kvW p.1 p.2 := by
      unfold jd
      rcases List.mem_append.mp a with a | a <;> rcases List.mem_append.mp b with b | b
      · rw [if_pos a, if_pos b, half_q_m hW nd a b]
      · rw [if_pos a, if_neg (dis _ b), hq _ a _ b]
      · rw [if_neg (dis _ a), if_pos b]
        have t := q_turn hW (List.mem_append_left _ b) (List.mem_append_right _ a) (fun e => dis _ a (e ▸ b))
        have := hq _ b _ a
        omega
      · rw [if_neg (dis _ a), if_neg (dis _ b), half_q_o hW nd a b]
    rw [ej]
  rw [placed_congr e hz, placed_row hW nd (List.Perm.refl _) hz]
  omega
end
end RK

namespace RK
open PySem L2
/-! ### whom the sums bar -/
theorem find_at {α : Type} {p : α → Bool} : ∀ {l : List α} {i : Nat} {x : α}, l[i]? = some x → p x = true → (∀ y ∈ l.take i, p y = false) → l.find? p = some x
  | [], _, _, h, _, _ => by simp at h
  | y :: r, 0, x, h, hp, _ => by
    cases (show some y = some x from h)
    rw [List.find?_cons, hp]
  | y :: r, i + 1, x, h, hp, hb => by
    rw [List.find?_cons, hb y List.mem_cons_self]
    exact find_at (l := r) (i := i) h hp fun z hz => hb z (List.mem_cons_of_mem _ hz)
def BarAt (H : Hp) (w : V) : Option (Str × Str) → Prop
  | none => w = .non
  | some pr => ∃ U, w = .ref U ∧ H U = some (.tup [.str pr.1, .str pr.2])
def joinOk (M : List Str) (kvM : List (Key × V)) (m : Nat) (kvT : List (Key × V)) (p : Str × Str) : Bool :=
  decide ((m : Int) * qN M kvM p.1 p.2 ≤ placeOf kvT p.1 - placeOf kvT p.2) && decide (placeOf kvT p.1 - placeOf kvT p.2 ≤ (m : Int) * (qN M kvM p.1 p.2 + 1))
def joinBar (M : List Str) (kvM : List (Key × V)) (m : Nat) (kvT : List (Key × V)) : Option (Str × Str) := (pairsAhead M).find? fun p => !joinOk M kvM m kvT p
def spFirstJ : Sp := fun vs H Q _ => ∃ (n d o s : Addr) (M O : List Str) (kvM kvT : List (Key × V)), vs = [.ref n, .ref d, .ref o, .ref s] ∧ H n = some (.lst (M.map V.str)) ∧ H d = some (.dK kvM) ∧ (∀ z ∈ M, valV kvM (Sum.inr z : Key) = some (.int (placeOf kvM z))) ∧
  H o = some (.lst (O.map V.str)) ∧ H s = some (.dK kvT) ∧ (∀ z ∈ M, valV kvT (Sum.inr z : Key) = some (.int (placeOf kvT z))) ∧ M.Nodup ∧ 0 < M.length ∧ M.length ≤ 1000 ∧ O.length ≤ 1000 ∧
  ∀ w H', BarAt H' w (joinBar M kvM O.length kvT) → Same H H' → Q w H'
section
variable {P : Program} {w : World} {K : PySem.W.Frag} {mg : Str → Option Value} {base : Heap}
theorem scFirstJoint : FnScope ["names", "places", "others", "sums", "one", "other", "laps"] ["names", "places", "others", "sums"] (defScope sFirstJoint) := ⟨rfl, rfl, rfl, by decide +kernel, rfl, by decide +kernel, by decide +kernel⟩
theorem ok_firstJoint {f fA : Addr} {fd fdA : FuncData} (F : Fun K "first_joint_clash" "first_joint_clash" sFirstJoint f fd) (B : B0 K mg)
    (GA : FnOk P w K mg base CX0 1 fA fdA ["names"] spPairsAh) (bA : Binds K fdA ["names"] []) (gA : mg "pairs_ahead" = some (.ref fA)) (kA9 : PySem.W.keepIn K (.ref fA) = true) :
    FnOk P w K mg base CX0 2 f fd ["names", "places", "others", "sums"] spFirstJ := by
  refine F.ok scFirstJoint (fun vs H Q E h => ?_) (fun cdv A outer s H vs Q E hr h => ?_)
  · obtain ⟨n, d, o, s, M, O, kvM, kvT, rfl, _⟩ := h
    rfl
  · obtain ⟨n, d, o, s, M, O, kvM, kvT, rfl, hn, hd, hpl, ho, hs, hps, hnd, h0, hl, hlo, q⟩ := h
    have hu := hu_of hr
    have hr1 : Room 1 _ := hr.mono (by decide)
    refine ⟨_, pss_cons (ps_for PassesOwn.never rfl (pi_list (pe_call GA hr1 (by rfl) gA kA9 bA .nil pass0 (pa_cons (pv 0) pa_nil))) (pg_tup rfl (pgs_cons (pg_name (i := 4) scFirstJoint.nd rfl (Or.inl rfl)) (pgs_cons (pg_name (i := 5) scFirstJoint.nd rfl (Or.inl rfl)) pgs_nil)))
        (pss_cons (ps_set (i := 6) scFirstJoint.nd rfl (Or.inl rfl) (pe_op op_fdivW (pe_op op_sub (pe_dget hu (pv 1) (pv 4) (fun _ _ => rfl)) (pe_dget hu (pv 1) (pv 5) (fun _ _ => rfl))) (pe_callB call_len_seq (by rfl) B.len PySem.boot_len (pa_cons (pv 0) pa_nil))))
      (pss_one (ps_if (pt_not (pt_chain op_le op_le (pe_op op_mul (pe_callB call_len_seq (by rfl) B.len PySem.boot_len (pa_cons (pv 2) pa_nil)) (pv 6)) (pe_op op_sub (pe_dget hu (pv 3) (pv 4) (fun _ _ => rfl)) (pe_dget hu (pv 3) (pv 5) (fun _ _ => rfl))) (pe_op op_mul (pe_callB call_len_seq (by rfl) B.len PySem.boot_len (pa_cons (pv 2) pa_nil)) (pe_op op_add (pv 6) pe_int)))) (pss_one (ps_ret (pe_tup (pa_cons (pv 4) (pa_cons (pv 5) pa_nil))))) (pss_nil)))))
      (pss_one (ps_ret pe_non)), ?_⟩
    have hml : (M.map V.str).length = M.length := List.length_map _
    have hol : (O.map V.str).length = O.length := List.length_map _
    refine ⟨_, rfl, n, M, rfl, hn, hl, fun p G3 hp0 hpa s3 => ?_⟩
    obtain ⟨ts, hts, hpr⟩ := hpa
    have tsl : (ts.map V.ref).length = (pairsAhead M).length := by rw [List.length_map]; exact Paired.length hpr
    refine ⟨p, rfl, ⟨_, SqL.of hts⟩, for_list (xs := ts.map V.ref) (fun i σ G => ∃ w4 w5 w6, σ = [some (.ref n), some (.ref d), some (.ref o), some (.ref s), w4, w5, w6] ∧ Same G3 G ∧ ∀ y ∈ (pairsAhead M).take i, (!joinOk M kvM O.length kvT y) = false) ⟨none, none, none, rfl, Same.refl G3, fun y hy => by rw [List.take_zero] at hy; exact nomatch hy⟩ (fun i σ G hi ⟨_, _, _, _, b, _⟩ => SqL.of (b _ _ hts)) ?_ ?_⟩
    · rintro i x σ G hx ⟨w4, w5, w6, rfl, sG, hbe⟩
      obtain ⟨T, hT, rfl⟩ := get_map hx
      obtain ⟨pr, hpri, hTp, hTo⟩ := paired_get hpr hT
      have hpm : pr ∈ pairsOf M := ahead_pairs hnd (List.mem_of_getElem? hpri)
      obtain ⟨pm1, pm2, pm3⟩ := mem_pairs.mp (show (pr.1, pr.2) ∈ pairsOf M from hpm)
      refine ⟨T, _, rfl, SqT.of (sG _ _ hTo), rfl, _, _, rfl, _, _, rfl, rfl, ?_⟩
      have sHG : Same H G := s3.trans sG
      have ml60 : (M.length : Int).natAbs < 2 ^ 60 := Nat.lt_of_le_of_lt (show (M.length : Int).natAbs ≤ 1000 by omega) (by decide)
      refine ⟨_, rfl, _, rfl, d, _, rfl, hpl _ pm1 ▸ DGet.k (k := (Sum.inr pr.1 : Key)) (sHG _ _ hd), _, rfl, _, rfl, d, _, rfl, hpl _ pm2 ▸ DGet.k (k := (Sum.inr pr.2 : Key)) (sHG _ _ hd), _, _, rfl, rfl, _, rfl, n, _, rfl, .inl (SqL.of (sHG _ _ hn)), ?_⟩
      rw [hml]
      refine ⟨_, _, rfl, rfl, wide_div (b := 60) (by omega) ml60 (by decide) (by decide), _, rfl, ?_⟩
      refine ⟨o, _, rfl, .inl (SqL.of (sHG _ _ ho)), ?_⟩
      rw [hol]
      have om64 : (-(2 ^ 64) : Int) < (O.length : Int) ∧ (O.length : Int) < 2 ^ 64 := ⟨by omega, by omega⟩
      refine ⟨_, rfl, _, _, rfl, rfl, .inl om64, _, rfl, _, rfl, s, _, rfl, hps _ pm1 ▸ DGet.k (k := (Sum.inr pr.1 : Key)) (sHG _ _ hs), _, rfl, _, rfl, s, _, rfl, hps _ pm2 ▸ DGet.k (k := (Sum.inr pr.2 : Key)) (sHG _ _ hs), _, _, rfl, rfl, ?_⟩
      have go : (!joinOk M kvM O.length kvT pr) = false → ∃ w4 w5 w6, [some (V.ref n), some (.ref d), some (.ref o), some (.ref s), some (.str pr.1), some (.str pr.2), some (.int ((placeOf kvM pr.1 - placeOf kvM pr.2) / (M.length : Int)))] = [some (.ref n), some (.ref d), some (.ref o), some (.ref s), w4, w5, w6] ∧ Same G3 G ∧ ∀ y ∈ (pairsAhead M).take (i + 1), (!joinOk M kvM O.length kvT y) = false := fun hm => ⟨_, _, _, rfl, sG, fun y hy => by
        rw [take_more hpri] at hy
        rcases List.mem_append.mp hy with z | z
        · exact hbe y z
        · rw [List.mem_singleton.mp z]; exact hm⟩
      have stop : (!joinOk M kvM O.length kvT pr) = true → ∀ U2, G U2 = none → Q (.ref U2) (upd G U2 (.tup [.str pr.1, .str pr.2])) := fun hm U2 hU2 => by
        refine q (.ref U2) _ ?_ (sHG.trans (same_upd hU2))
        have ec : joinBar M kvM O.length kvT = some pr := find_at hpri hm hbe
        rw [ec]
        exact ⟨U2, rfl, upd_same⟩
      refine ⟨_, _, rfl, rfl, _, rfl, ?_⟩
      generalize hS : placeOf kvT pr.1 - placeOf kvT pr.2 = X
      have em : joinOk M kvM O.length kvT pr = (decide ((O.length : Int) * ((placeOf kvM pr.1 - placeOf kvM pr.2) / (M.length : Int)) ≤ X) && decide (X ≤ (O.length : Int) * ((placeOf kvM pr.1 - placeOf kvM pr.2) / (M.length : Int) + 1))) := by unfold joinOk qN; rw [hS]
      refine ite2 (fun h1 => ?_) (fun h1 => ?_)
      · refine ⟨_, rfl, o, _, rfl, .inl (SqL.of (sHG _ _ ho)), ?_⟩
        rw [hol]
        refine ⟨_, rfl, _, _, rfl, rfl, _, _, rfl, rfl, .inl om64, ?_⟩
        have h1' := h1
        by_cases h2 : X ≤ (O.length : Int) * ((placeOf kvM pr.1 - placeOf kvM pr.2) / (M.length : Int) + 1)
        · refine ⟨_, _, rfl, rfl, true, congrArg V.bl (decide_eq_true (by rw [hS]; exact h2)), iteF ?_⟩
          exact go (by rw [em, show decide _ = true from h1, decide_eq_true h2]; rfl)
        · refine ⟨_, _, rfl, rfl, false, congrArg V.bl (decide_eq_false (by rw [hS]; exact h2)), iteT ?_⟩
          exact ⟨_, rfl, _, rfl, by show 2 ≤ sizeLine; decide, stop (by rw [em, decide_eq_false h2, Bool.and_false]; rfl)⟩
      · have h1' : decide ((O.length : Int) * ((placeOf kvM pr.1 - placeOf kvM pr.2) / (M.length : Int)) ≤ X) = false := Bool.eq_false_iff.mpr h1
        refine ⟨_, rfl, ?_⟩
        exact iteT ⟨_, rfl, _, rfl, by show 2 ≤ sizeLine; decide, stop (by rw [em, h1', Bool.false_and]; rfl)⟩
    · rintro σ G ⟨w4, w5, w6, rfl, sG, hbe⟩
      rw [tsl, List.take_length] at hbe
      refine q .non G ?_ (s3.trans sG)
      have ec : joinBar M kvM O.length kvT = none := List.find?_eq_none.mpr fun y hy => by rw [hbe y hy]; exact Bool.false_ne_true
      rw [ec]
      exact rfl

end
end RK

namespace RK
open PySem L2
/-! ### the names of both paths -/
def Bad (fld : Str) (C : Addr) (v : V) (H : Hp) (E : XK) : Prop := ∀ d H', Same H H' → H' d = some (.xd [(fld, v)]) → E (.ref C) (some d) H'
theorem Bad.same {fld : Str} {C : Addr} {v : V} {H H1 : Hp} {E : XK} (h : Bad fld C v H E) (s : Same H H1) : Bad fld C v H1 E := fun d H' s2 e => h d H' (s.trans s2) e
def PathT (K : PySem.W.Frag) (C CP : Addr) (v : V) (H : Hp) (E : XK) (next : List Str → Prop) : Prop :=
  (∃ k, Th K H v k ∧ Bad "thing" CP v H E) ∨ ∃ p t zs, v = .ref p ∧ PathAt C H p t zs ∧ zs.Nodup ∧ Nm zs ∧ (∀ z ∈ zs, z.length ≤ 1000) ∧ 2 ≤ zs.length ∧ zs.length ≤ 400 ∧ next zs
def StandT (K : PySem.W.Frag) (CS : Addr) (zs : List Str) (u : V) (H : Hp) (E : XK) (next : Addr → List (Key × V) → Prop) : Prop :=
  ∃ ku, Th K H u ku ∧ (ku.isDict = false → Bad "stand" CS u H E) ∧ (ku.isDict = true → ∃ dd kvs, u = .ref dd ∧ H dd = some (.dK kvs) ∧ (∀ kv ∈ kvs, ∃ kx, Th K H kv.2 kx) ∧ (standB zs kvs = false → Bad "stand" CS u H E) ∧ (standB zs kvs = true → next dd kvs))
def firstIn (M O : List Str) : Option Str := M.find? fun z => decide (z ∈ O)
abbrev BothT (K : PySem.W.Frag) (C CP CC : Addr) (v u : V) (H : Hp) (E : XK) (next : List Str → List Str → Prop) : Prop :=
  PathT K C CP v H E fun M => PathT K C CP u H E fun O => (∀ z, firstIn M O = some z → Bad "name" CC (.str z) H E) ∧ (firstIn M O = none → next M O)
def spBothG (K : PySem.W.Frag) (C CP CC : Addr) (Good : List Str → List Str → Hp → VK → Prop) : Sp := fun vs H Q E => ∃ v u, vs = [v, u] ∧ BothT K C CP CC v u H E fun M O => Good M O H Q
def GoodB (M O : List Str) (H : Hp) (Q : VK) : Prop := ∀ T n o H', H n = none → H' T = some (.tup [.ref n, .ref o]) → H' n = some (.lst (M.map V.str)) → H' o = some (.lst (O.map V.str)) → n ≠ o → Same H H' → Q (.ref T) H'
def GoodJ (C : Addr) (M O : List Str) (H : Hp) (Q : VK) : Prop := ∀ p t H', PathAt C H' p t (M ++ O) → Same H H' → Q (.ref p) H'
def sp4G (K : PySem.W.Frag) (C CP CC CS : Addr) (Good : List Str → List Str → Addr → List (Key × V) → Addr → List (Key × V) → Hp → VK → Prop) : Sp := fun vs H Q E => ∃ v su u so, vs = [v, su, u, so] ∧
  BothT K C CP CC v u H E fun M O => StandT K CS M su H E fun d kvM => StandT K CS O so H E fun e kvO => Good M O d kvM e kvO H Q
def GoodN (M O : List Str) (_ : Addr) (_ : List (Key × V)) (_ : Addr) (_ : List (Key × V)) (H : Hp) (Q : VK) : Prop := GoodB M O H Q
theorem StandT.same {K : PySem.W.Frag} {CS : Addr} {zs : List Str} {u : V} {H H1 : Hp} {E : XK} {next next' : Addr → List (Key × V) → Prop} (h : StandT K CS zs u H E next) (s : Same H H1) (hn : ∀ d kvs, u = .ref d → H1 d = some (.dK kvs) → standB zs kvs = true → next d kvs → next' d kvs) : StandT K CS zs u H1 E next' := by
  obtain ⟨ku, ht, h1, h2⟩ := h
  refine ⟨ku, ht.same s, fun e => (h1 e).same s, fun e => ?_⟩
  obtain ⟨dd, kvs, rfl, hd, hth, b, g⟩ := h2 e
  exact ⟨dd, kvs, rfl, s _ _ hd, fun kv hkv => let ⟨kx, e⟩ := hth kv hkv; ⟨kx, e.same s⟩, fun e => (b e).same s, fun e => hn _ _ rfl (s _ _ hd) e (g e)⟩
/-- need_stand, from such a thing -/
theorem StandT.sp {K : PySem.W.Frag} {CS n : Addr} {zs : List Str} {u : V} {H : Hp} {Q : VK} {E : XK} {next : Addr → List (Key × V) → Prop} (h : StandT K CS zs u H E next) (hn : H n = some (.lst (zs.map V.str))) (h0 : 0 < zs.length) (hl : zs.length ≤ 1000)
    (q : ∀ dd kvs H', u = .ref dd → H' dd = some (.dK kvs) → standB zs kvs = true → next dd kvs → Same H H' → Q .non H') : spNeedSt K CS [.ref n, u] H Q E := by
  obtain ⟨ku, ht, h1, h2⟩ := h
  refine ⟨n, zs, u, ku, rfl, hn, h0, hl, ht, h1, fun e => ?_⟩
  obtain ⟨dd, kvs, rfl, hd, hth, b, g⟩ := h2 e
  exact ⟨dd, kvs, rfl, hd, hth, b, fun e H' s => q dd kvs H' rfl (s _ _ hd) e (g e) s⟩
theorem both_nodup {M O : List Str} (h1 : M.Nodup) (h2 : O.Nodup) (h : firstIn M O = none) : (M ++ O).Nodup :=
  List.nodup_append.mpr ⟨h1, h2, fun x hx y hy e => by
    have q := List.find?_eq_none.mp h x hx
    subst e
    exact q (decide_eq_true hy)⟩
section
variable {P : Program} {w : World} {K : PySem.W.Frag} {mg : Str → Option Value} {base : Heap} {C CB fB0 CP CC CS fC : Addr}
theorem scBoth : FnScope ["first", "second", "names", "others", "name"] ["first", "second"] (defScope sBoth) := ⟨rfl, rfl, rfl, by decide +kernel, rfl, by decide +kernel, by decide +kernel⟩
theorem ok_both {f fO : Addr} {fd fdO : FuncData} (F : Fun K "names_of_both" "names_of_both" sBoth f fd) (EC : ErrAt P K mg "CommonWalker" "name" CC fC)
    (GO : FnOk P w K mg base (L2.CX P w) 2 fO fdO ["path"] (spWalkersOf K C CP)) (bO : Binds K fdO ["path"] []) (gO : mg "walkers_of" = some (.ref fO)) (kO9 : PySem.W.keepIn K (.ref fO) = true) :
    FnOk P w K mg base (L2.CX P w) 3 f fd ["first", "second"] (spBothG K C CP CC GoodB) := by
  refine F.okX scBoth (fun vs H Q E h => ?_) (fun cdv A outer s H vs Q E hr h => ?_)
  · obtain ⟨v, u, rfl, _⟩ := h
    rfl
  · obtain ⟨v, u, rfl, h⟩ := h
    have hu := hu_of hr
    have hr2 : Room 2 _ := hr.mono (by decide)
    refine ⟨_, pss_cons (ps_set (i := 2) scBoth.nd rfl (Or.inl rfl) (pe_call GO hr2 (by rfl) gO kO9 bO .nil (passes_call (takes_of rfl rfl rfl rfl) fun _ _ _ _ h => h) (pa_cons (pv 0) pa_nil)))
      (pss_cons (ps_set (i := 3) scBoth.nd rfl (Or.inl rfl) (pe_call GO hr2 (by rfl) gO kO9 bO .nil (passes_call (takes_of rfl rfl rfl rfl) fun _ _ _ _ h => h) (pa_cons (pv 1) pa_nil)))
      (pss_cons (ps_for PassesOwn.leaving rfl (pi_list (pv 2)) (pg_name (i := 4) scBoth.nd rfl (Or.inl rfl))
        (pss_one (ps_if (pt_cmpR op_in_seq (pv 4) (pv 3) (by rfl)) (pss_one (ps_raiseX rfl EC.x EC.g hr (takes_of rfl rfl rfl rfl) (by exact (pa_cons (pv 4) pa_nil)))) (pss_nil))))
      (pss_one (ps_ret (pe_tup (pa_cons (pv 2) (pa_cons (pv 3) pa_nil))))))), ?_⟩
    rcases h with ⟨k, ht, bad⟩ | ⟨p, t, M, rfl, hp, hndM, hnmM, hzM, h2M, hlM, h⟩
    · exact ⟨_, rfl, v, rfl, .inl ⟨k, ht, bad⟩⟩
    refine ⟨_, rfl, .ref p, rfl, .inr ⟨p, t, M, rfl, hp, fun n hn => ?_⟩⟩
    generalize hE : upd H n _ = H1
    have sH1 : Same H H1 := hE ▸ same_upd hn
    have en := congrFun hE.symm n
    rw [upd_same] at en
    clear hE
    rcases h with ⟨k, ht, bad⟩ | ⟨p2, t2, O, rfl, hp2, hndO, hnmO, hzO, h2O, hlO, hcm, good⟩
    · exact ⟨_, rfl, u, rfl, .inl ⟨k, ht.same sH1, bad.same sH1⟩⟩
    refine ⟨_, rfl, .ref p2, rfl, .inr ⟨p2, t2, O, rfl, hp2.same sH1, fun o ho => ?_⟩⟩
    generalize hE : upd H1 o _ = H2
    have sH2 : Same H1 H2 := hE ▸ same_upd ho
    have eo := congrFun hE.symm o
    rw [upd_same] at eo
    clear hE
    have en2 := sH2 _ _ en
    have sB := sH1.trans sH2
    have nno : n ≠ o := ne_of_none en ho
    have hml : (M.map V.str).length = M.length := List.length_map _
    refine ⟨_, rfl, n, rfl, ⟨_, SqL.of en2⟩, for_list (xs := M.map V.str) (fun i σ G => ∃ w4, σ = [some (.ref p), some (.ref p2), some (.ref n), some (.ref o), w4] ∧ G = H2 ∧ ∀ y ∈ M.take i, decide (y ∈ O) = false) ⟨none, rfl, rfl, fun y hy => by rw [List.take_zero] at hy; exact nomatch hy⟩ (fun i σ G hi ⟨_, _, e, _⟩ => by rw [e]; exact SqL.of en2) ?_ ?_⟩
    · rintro i x σ G hx ⟨w4, rfl, rfl, hbe⟩
      obtain ⟨z, hz, hzm, rfl⟩ := name_at hx
      refine ⟨_, rfl, _, rfl, o, _, rfl, .inl (SqL.of eo), rfl, flat_names O, decide (z ∈ O), congrArg V.bl in_names, ?_⟩
      cases hq : decide (z ∈ O) with
      | true =>
        refine iteT ⟨_, rfl, _, rfl, fun dd hdd => ?_⟩
        exact hcm z (find_at hz hq hbe) dd _ (sB.trans (same_upd hdd)) upd_same
      | false =>
        refine iteF ⟨_, rfl, rfl, fun y hy => ?_⟩
        rw [take_more hz] at hy
        rcases List.mem_append.mp hy with q | q
        · exact hbe y q
        · rw [List.mem_singleton.mp q]; exact hq
    · rintro σ G ⟨w4, rfl, rfl, hbe⟩
      rw [hml, List.take_length] at hbe
      refine ⟨_, rfl, _, rfl, by show 2 ≤ sizeLine; decide, fun T hT => ?_⟩
      have sT := same_upd (o := .tup [.ref n, .ref o]) hT
      refine good (List.find?_eq_none.mpr fun y hy => by rw [hbe y hy]; exact Bool.false_ne_true) T n o _ hn upd_same (sT _ _ en2) (sT _ _ eo) nno (sB.trans sT)

theorem scJointPath : FnScope ["first", "second", "names", "others"] ["first", "second"] (defScope sJointPath) := ⟨rfl, rfl, rfl, by decide +kernel, rfl, by decide +kernel, by decide +kernel⟩
theorem ok_jointPath {f fI fX : Addr} {fd fdI fdX : FuncData} (F : Fun K "joint_path" "joint_path" sJointPath f fd) (T : PT0 P K mg C CB fB0)
    (GI : FnOk P w K mg base (L2.CX P w) 2 fI fdI ["self", "walkers"] (spInit K C CB)) (bI : Binds K fdI ["self", "walkers"] []) (M : Mk K C fI)
    (GX : FnOk P w K mg base (L2.CX P w) 3 fX fdX ["first", "second"] (spBothG K C CP CC GoodB)) (bX : Binds K fdX ["first", "second"] []) (gX : mg "names_of_both" = some (.ref fX)) (kX9 : PySem.W.keepIn K (.ref fX) = true) :
    FnOk P w K mg base (L2.CX P w) 4 f fd ["first", "second"] (spBothG K C CP CC (GoodJ C)) := by
  refine F.okX scJointPath (fun vs H Q E h => ?_) (fun cdv A outer s H vs Q E hr h => ?_)
  · obtain ⟨v, u, rfl, _⟩ := h
    rfl
  · obtain ⟨v, u, rfl, h⟩ := h
    have hu := hu_of hr
    have hr3 : Room 3 _ := hr.mono (by decide)
    refine ⟨_, pss_cons (ps_asg (pe_call GX hr3 (by rfl) gX kX9 bX .nil (passes_call (takes_of rfl rfl rfl rfl) fun _ _ _ _ h => h) (pa_cons (pv 0) (pa_cons (pv 1) pa_nil))) (pg_tup rfl (pgs_cons (pg_name (i := 2) scJointPath.nd rfl (Or.inl rfl)) (pgs_cons (pg_name (i := 3) scJointPath.nd rfl (Or.inl rfl)) pgs_nil))))
      (pss_one (ps_ret (pe_make M GI hr (by rfl) T.mgC bI .nil passL (pa_cons (pe_op op_cat (pv 2) (pv 3)) pa_nil)))), ?_⟩
    rcases h with ⟨k, ht, bad⟩ | ⟨p, t, M, rfl, hp, hndM, hnmM, hzM, h2M, hlM, h⟩
    · exact ⟨_, rfl, _, rfl, v, u, rfl, .inl ⟨k, ht, bad⟩⟩
    rcases h with ⟨k, ht, bad⟩ | ⟨p2, t2, O, rfl, hp2, hndO, hnmO, hzO, h2O, hlO, hcm, good⟩
    · exact ⟨_, rfl, _, rfl, _, u, rfl, .inr ⟨p, t, M, rfl, hp, hndM, hnmM, hzM, h2M, hlM, .inl ⟨k, ht, bad⟩⟩⟩
    refine ⟨_, rfl, _, rfl, _, _, rfl, .inr ⟨p, t, M, rfl, hp, hndM, hnmM, hzM, h2M, hlM, .inr ⟨p2, t2, O, rfl, hp2, hndO, hnmO, hzO, h2O, hlO, hcm, fun hno T n o H1 hn0 eT en eo nno s1 => ?_⟩⟩⟩
    have nd : (M ++ O).Nodup := both_nodup hndM hndO hno
    refine ⟨T, _, rfl, SqT.of eT, rfl, _, _, rfl, _, _, rfl, rfl, ?_⟩
    refine ⟨_, rfl, _, rfl, n, o, _, _, rfl, rfl, en, eo, ?_, fun R hR => ?_⟩
    · rw [List.length_map, List.length_map]
      exact Nat.le_of_lt (Nat.lt_of_le_of_lt (show M.length + O.length ≤ 800 by omega) (by decide))
    have eR : (upd H1 R (.lst (M.map V.str ++ O.map V.str))) R = some (.lst ((M ++ O).map V.str)) := by rw [upd_same, List.map_append]
    have sR := same_upd (o := .lst (M.map V.str ++ O.map V.str)) hR
    refine fun x dx nx ndx nex => init_good (zs := M ++ O) nx ndx (.inl ⟨eR, rfl⟩) nd (fun z hz => (List.mem_append.mp hz).elim (hnmM z) (hnmO z)) (fun z hz => (List.mem_append.mp hz).elim (hzM z) (hzO z)) (by rw [List.length_append]; omega) (by rw [List.length_append]; omega) fun t' H4 hpa s4 => ⟨rfl, ?_⟩
    exact good hno x t' H4 hpa (s1.trans (sR.trans s4))

theorem scToJoin : FnScope ["first", "stand", "second", "other_stand", "names", "others"] ["first", "stand", "second", "other_stand"] (defScope sToJoin) := ⟨rfl, rfl, rfl, by decide +kernel, rfl, by decide +kernel, by decide +kernel⟩
theorem ok_toJoin {f fS fX : Addr} {fd fdS fdX : FuncData} (F : Fun K "names_to_join" "names_to_join" sToJoin f fd) 
    (GS : FnOk P w K mg base (L2.CX P w) 4 fS fdS ["names", "stand"] (spNeedSt K CS)) (bS : Binds K fdS ["names", "stand"] []) (gS : mg "need_stand" = some (.ref fS)) (kS9 : PySem.W.keepIn K (.ref fS) = true)
    (GX : FnOk P w K mg base (L2.CX P w) 3 fX fdX ["first", "second"] (spBothG K C CP CC GoodB)) (bX : Binds K fdX ["first", "second"] []) (gX : mg "names_of_both" = some (.ref fX)) (kX9 : PySem.W.keepIn K (.ref fX) = true) :
    FnOk P w K mg base (L2.CX P w) 5 f fd ["first", "stand", "second", "other_stand"] (sp4G K C CP CC CS GoodN) := by
  refine F.okX scToJoin (fun vs H Q E h => ?_) (fun cdv A outer s H vs Q E hr h => ?_)
  · obtain ⟨v, su, u, so, rfl, _⟩ := h
    rfl
  · obtain ⟨v, su, u, so, rfl, h⟩ := h
    have hu := hu_of hr
    have hr3 : Room 3 _ := hr.mono (by decide)
    have hr4 : Room 4 _ := hr.mono (by decide)
    refine ⟨_, pss_cons (ps_asg (pe_call GX hr3 (by rfl) gX kX9 bX .nil (passes_call (takes_of rfl rfl rfl rfl) fun _ _ _ _ h => h) (pa_cons (pv 0) (pa_cons (pv 2) pa_nil))) (pg_tup rfl (pgs_cons (pg_name (i := 4) scToJoin.nd rfl (Or.inl rfl)) (pgs_cons (pg_name (i := 5) scToJoin.nd rfl (Or.inl rfl)) pgs_nil))))
      (pss_cons (ps_expr (pe_call GS hr4 (by rfl) gS kS9 bS .nil (passes_call (takes_of rfl rfl rfl rfl) fun _ _ _ _ h => h) (pa_cons (pv 4) (pa_cons (pv 1) pa_nil))))
      (pss_cons (ps_expr (pe_call GS hr4 (by rfl) gS kS9 bS .nil (passes_call (takes_of rfl rfl rfl rfl) fun _ _ _ _ h => h) (pa_cons (pv 5) (pa_cons (pv 3) pa_nil))))
      (pss_one (ps_ret (pe_tup (pa_cons (pv 4) (pa_cons (pv 5) pa_nil))))))), ?_⟩
    rcases h with ⟨k, ht, bad⟩ | ⟨p, t, M, rfl, hp, hndM, hnmM, hzM, h2M, hlM, h⟩
    · exact ⟨_, rfl, _, rfl, v, u, rfl, .inl ⟨k, ht, bad⟩⟩
    rcases h with ⟨k, ht, bad⟩ | ⟨p2, t2, O, rfl, hp2, hndO, hnmO, hzO, h2O, hlO, hcm, good⟩
    · exact ⟨_, rfl, _, rfl, _, u, rfl, .inr ⟨p, t, M, rfl, hp, hndM, hnmM, hzM, h2M, hlM, .inl ⟨k, ht, bad⟩⟩⟩
    refine ⟨_, rfl, _, rfl, _, _, rfl, .inr ⟨p, t, M, rfl, hp, hndM, hnmM, hzM, h2M, hlM, .inr ⟨p2, t2, O, rfl, hp2, hndO, hnmO, hzO, h2O, hlO, hcm, fun hno T n o H1 hn0 eT en eo nno s1 => ?_⟩⟩⟩
    refine ⟨T, _, rfl, SqT.of eT, rfl, _, _, rfl, _, _, rfl, rfl, ?_⟩
    obtain ⟨ku, ht1, kno, kyes⟩ := good hno
    refine ⟨_, rfl, _, rfl, n, M, su, ku, rfl, en, by omega, by omega, ht1.same s1, fun e => (kno e).same s1, fun e => ?_⟩
    obtain ⟨dd, kvM, rfl, hd, hth, b, g⟩ := kyes e
    refine ⟨dd, kvM, rfl, s1 _ _ hd, fun kv hkv => let ⟨kx, e⟩ := hth kv hkv; ⟨kx, e.same s1⟩, fun e => (b e).same s1, fun hB H2 s2 => ?_⟩
    have s12 := s1.trans s2
    obtain ⟨ko, ht2, ono, oyes⟩ := g hB
    refine ⟨_, rfl, _, rfl, o, O, so, ko, rfl, s2 _ _ eo, by omega, by omega, ht2.same s12, fun e => (ono e).same s12, fun e => ?_⟩
    obtain ⟨de, kvO, rfl, hde, hthe, be, ge⟩ := oyes e
    refine ⟨de, kvO, rfl, s12 _ _ hde, fun kv hkv => let ⟨kx, e⟩ := hthe kv hkv; ⟨kx, e.same s12⟩, fun e => (be e).same s12, fun hB2 H3 s3 => ?_⟩
    have g2 := ge hB2
    have s13 := s12.trans s3
    refine ⟨_, rfl, _, rfl, by show 2 ≤ sizeLine; decide, fun U hU => ?_⟩
    have sU := same_upd (o := .tup [.ref n, .ref o]) hU
    exact g2 U n o _ hn0 upd_same (sU _ _ (s3 _ _ (s2 _ _ en))) (sU _ _ (s3 _ _ (s2 _ _ eo))) nno (s13.trans sU)

end
end RK

namespace RK
open PySem L2
/-! ### nets put into any table -/
def addV (nw : Str) (l : List Str) (t : Str → Int) (f : Str × Str → Option V) (p : Str × Str) : Option V :=
  if p.1 = nw ∧ p.2 ∈ l then some (.int (t p.2)) else if p.2 = nw ∧ p.1 ∈ l then some (.int (- t p.1)) else f p
def spAddV : Sp := fun vs H Q _ => ∃ (e o : Addr) (nw : Str) (zs : List Str) (t : Str → Int) (kvt : List (List Key × V)), vs = [.ref e, .str nw, .ref o] ∧ e ≠ o ∧ H e = some (.dT kvt) ∧ H o = some (.dK (kvOf zs t)) ∧ zs.Nodup ∧ nw ∉ zs ∧ kvt.length + 2 * zs.length < 1000000 ∧
  ∀ H' kvt', H' e = some (.dT kvt') → (∀ p : Str × Str, valV kvt' (kP p) = addV nw zs t (fun q => valV kvt (kP q)) p) → kvt'.length ≤ kvt.length + 2 * zs.length → But e H H' → Q .non H'
theorem addV_nil {nw : Str} {t : Str → Int} {f : Str × Str → Option V} {p : Str × Str} : addV nw [] t f p = f p := by
  unfold addV
  rw [if_neg (fun h => nomatch h.2), if_neg (fun h => nomatch h.2)]
theorem addV_step {nw z : Str} {l : List Str} {t : Str → Int} {f : Str × Str → Option V} {p : Str × Str} (hz : z ≠ nw) :
    addV nw (l ++ [z]) t f p = if p = (z, nw) then some (.int (- t z)) else if p = (nw, z) then some (.int (t z)) else addV nw l t f p := by
  obtain ⟨a, b⟩ := p
  unfold addV
  by_cases h1 : (a, b) = (z, nw)
  · obtain ⟨rfl, rfl⟩ := Prod.mk.inj h1
    rw [if_pos rfl, if_neg (fun q => hz q.1), if_pos ⟨rfl, List.mem_append_right _ List.mem_cons_self⟩]
  · rw [if_neg h1]
    by_cases h2 : (a, b) = (nw, z)
    · obtain ⟨rfl, rfl⟩ := Prod.mk.inj h2
      rw [if_pos rfl, if_pos ⟨rfl, List.mem_append_right _ List.mem_cons_self⟩]
    · rw [if_neg h2]
      have e1 : (a = nw ∧ b ∈ l ++ [z]) ↔ (a = nw ∧ b ∈ l) := ⟨fun q => ⟨q.1, (List.mem_append.mp q.2).elim id fun m => absurd (Prod.ext q.1 (List.mem_singleton.mp m)) h2⟩, fun q => ⟨q.1, List.mem_append_left _ q.2⟩⟩
      have e2 : (b = nw ∧ a ∈ l ++ [z]) ↔ (b = nw ∧ a ∈ l) := ⟨fun q => ⟨q.1, (List.mem_append.mp q.2).elim id fun m => absurd (Prod.ext (List.mem_singleton.mp m) q.1) h1⟩, fun q => ⟨q.1, List.mem_append_left _ q.2⟩⟩
      show (if a = nw ∧ b ∈ l ++ [z] then _ else if b = nw ∧ a ∈ l ++ [z] then _ else _) = (if a = nw ∧ b ∈ l then _ else if b = nw ∧ a ∈ l then _ else _)
      by_cases h3 : a = nw ∧ b ∈ l
      · rw [if_pos (e1.mpr h3), if_pos h3]
      · rw [if_neg (fun q => h3 (e1.mp q)), if_neg h3]
        by_cases h4 : b = nw ∧ a ∈ l
        · rw [if_pos (e2.mpr h4), if_pos h4]
        · rw [if_neg (fun q => h4 (e2.mp q)), if_neg h4]
theorem put_at {kvt : List (List Key × V)} {p q : Str × Str} {v : V} : valV (putK kvt (kP p) v) (kP q) = if q = p then some v else valV kvt (kP q) := by
  rw [valV_put]
  by_cases h : q = p
  · rw [if_pos h, if_pos (by rw [h])]
  · rw [if_neg h, if_neg fun e => h (kP_inj e)]
section
variable {P : Program} {w : World} {K : PySem.W.Frag} {mg : Str → Option Value} {base : Heap}
theorem ok_addV {f : Addr} {fd : FuncData} (F : Fun K "add_nets" "add_nets" sAddNets f fd) :
    FnOk P w K mg base CX0 1 f fd ["nets", "one", "over"] spAddV := by
  refine F.ok scAddNets (fun vs H Q E h => ?_) (fun cdv A outer s H vs Q E hr h => ?_)
  · obtain ⟨e, o, nw, zs, t, kvt, rfl, _⟩ := h
    rfl
  · obtain ⟨e, o, nw, zs, t, kvt, rfl, heo, he, ho, hnd, hw, hl, q⟩ := h
    have hu := hu_of hr
    refine ⟨_, pss_one (ps_lock (ps_for PassesOwn.never rfl (pi_keys (pv 2)) (pg_name (i := 3) scAddNets.nd rfl (Or.inl rfl))
      (pss_cons (ps_dput hu (pv 0) (pe_tup (pa_cons (pv 1) (pa_cons (pv 3) pa_nil))) (pe_dget hu (pv 2) (pv 3) (fun _ _ => rfl)) rfl)
      (pss_one (ps_dput hu (pv 0) (pe_tup (pa_cons (pv 3) (pa_cons (pv 1) pa_nil))) (pe_un un_neg (pe_dget hu (pv 2) (pv 3) (fun _ _ => rfl))) rfl))))), ?_⟩
    refine ⟨o, .dK (kvOf zs t), ho, trivial, fun od => ?_⟩
    have hf : (upd H o (.frz od (.dK (kvOf zs t)))) o = some (.frz od (.dK (kvOf zs t))) := upd_same
    have bf : ∀ b u, b ≠ o → H b = some u → (upd H o (.frz od (.dK (kvOf zs t)))) b = some u := fun b u hb e => by rw [upd_ne hb]; exact e
    generalize upd H o (.frz od (.dK (kvOf zs t))) = H1 at hf bf
    have klen : (kvOf zs t).length = zs.length := List.length_map _
    refine ⟨_, rfl, o, od, rfl, .inl ⟨_, hf, for_it (walk_keys (d := o) (o := od) (kvs := kvOf zs t)) (fun i σ G => ∃ w3, σ = [some (.ref e), some (.str nw), some (.ref o), w3] ∧ But e H1 G ∧ ∃ kvi, G e = some (.dT kvi) ∧ kvi.length ≤ kvt.length + 2 * i ∧ ∀ p : Str × Str, valV kvi (kP p) = addV nw (zs.take i) t (fun q => valV kvt (kP q)) p) ⟨none, rfl, Same.but (Same.refl H1), kvt, bf _ _ heo he, by omega, fun p => by rw [List.take_zero, addV_nil]⟩ (fun i σ G _ ⟨_, _, b, _⟩ => b _ _ (Ne.symm heo) hf) ?_ ?_⟩⟩
    · rintro i x σ G0 G hi ⟨w3, rfl, bG, kvi, eG, hli, hvi⟩ ⟨rfl, k, v, hkv, rfl⟩
      rw [klen] at hi
      have hkv2 := hkv
      unfold kvOf at hkv2
      rw [List.getElem?_map] at hkv2
      obtain ⟨z, hz, e2⟩ := Option.map_eq_some_iff.mp hkv2
      obtain ⟨rfl, rfl⟩ := Prod.mk.inj e2
      have hzm : z ∈ zs := List.mem_of_getElem? hz
      have hzn : z ≠ nw := fun e => hw (e ▸ hzm)
      have hfG := bG _ _ (Ne.symm heo) hf
      have big : (1000000 : Nat) < sizeLine := by decide
      refine ⟨_, rfl, _, rfl, o, _, rfl, .inl ⟨_, (Sum.inr z : Key), .inr ⟨od, hfG⟩, rfl, (val_kv hzm).symm⟩, ?_⟩
      refine ⟨_, rfl, _, rfl, _, rfl, by show 2 ≤ sizeLine; decide, fun U hU => ?_⟩
      generalize hE : upd G U _ = G1
      have sU : Same G G1 := hE ▸ same_upd hU
      have eU := congrFun hE.symm U
      rw [upd_same] at eU
      clear hE
      refine ⟨e, _, rfl, DPut.t (k := kP (nw, z)) (sU _ _ eG) eU (by omega), ?_⟩
      have hoG1 : (upd G1 e (.dT (putK kvi (kP (nw, z)) (.int (t z))))) o = some (.frz od (.dK (kvOf zs t))) := by rw [upd_ne (Ne.symm heo)]; exact sU _ _ hfG
      refine ⟨_, rfl, _, rfl, o, _, rfl, .inl ⟨_, (Sum.inr z : Key), .inr ⟨od, hoG1⟩, rfl, (val_kv hzm).symm⟩, ?_⟩
      have b1 : But e H1 (upd G1 e (.dT (putK kvi (kP (nw, z)) (.int (t z))))) := (bG.trans (Same.but sU)).trans But.upd
      have e1 : (upd G1 e (.dT (putK kvi (kP (nw, z)) (.int (t z))))) e = some (.dT (putK kvi (kP (nw, z)) (.int (t z)))) := upd_same
      generalize upd G1 e (.dT (putK kvi (kP (nw, z)) (.int (t z)))) = G2 at b1 e1
      refine ⟨_, rfl, _, rfl, _, rfl, _, rfl, by show 2 ≤ sizeLine; decide, fun U2 hU2 => ?_⟩
      generalize hE : upd G2 U2 _ = G3
      have sU2 : Same G2 G3 := hE ▸ same_upd hU2
      have eU2 := congrFun hE.symm U2
      rw [upd_same] at eU2
      clear hE
      have l1 := length_putK kvi (kP (nw, z)) (.int (t z))
      have l2 := length_putK (putK kvi (kP (nw, z)) (.int (t z))) (kP (z, nw)) (.int (- t z))
      refine ⟨e, _, rfl, DPut.t (k := kP (z, nw)) (sU2 _ _ e1) eU2 (by omega), _, rfl, (b1.trans (Same.but sU2)).trans But.upd, putK (putK kvi (kP (nw, z)) (.int (t z))) (kP (z, nw)) (.int (- t z)), upd_same, by omega, fun p => ?_⟩
      rw [put_at, put_at, take_more hz, addV_step hzn, hvi p]
    · rintro σ G ⟨w3, rfl, bG, kvi, eG, hli, hvi⟩
      rw [klen] at hli hvi
      rw [List.take_length] at hvi
      refine ⟨bG _ _ (Ne.symm heo) hf, ?_⟩
      refine q _ kvi (by rw [upd_ne heo]; exact eG) hvi hli fun b u hb hu => ?_
      by_cases hbo : b = o
      · subst hbo
        rw [upd_same]
        rw [ho] at hu
        exact hu
      · rw [upd_ne hbo]
        exact bG _ _ hb (bf _ _ hbo hu)
end
end RK

namespace RK
open PySem L2
/-! ### two stands joined, or the first two who bar it -/
def spNeedSums (K : PySem.W.Frag) (CN : Addr) : Sp := fun vs H Q E => ∃ (n : Addr) (zs : List Str) (v : V) (k : Kd), vs = [.ref n, v] ∧ H n = some (.lst (zs.map V.str)) ∧ zs.length ≤ 1000 ∧ Th K H v k ∧
  (k.isDict = false → ∀ d H', Same H H' → H' d = some (.xd [("sums", v)]) → E (.ref CN) (some d) H') ∧
  (k.isDict = true → ∃ dd kvs, v = .ref dd ∧ H dd = some (.dK kvs) ∧ (∀ kv ∈ kvs, ∃ kx, Th K H kv.2 kx) ∧
    (dictB zs kvs = false → ∀ d H', Same H H' → H' d = some (.xd [("sums", v)]) → E (.ref CN) (some d) H') ∧ (dictB zs kvs = true → ∀ H', Same H H' → Q .non H'))
section
variable {P : Program} {w : World} {K : PySem.W.Frag} {mg : Str → Option Value} {base : Heap} {C CB fB CP CS CN fNe : Addr}
theorem scNeedSums : FnScope ["names", "sums"] ["names", "sums"] (defScope sNeedSums) := ⟨rfl, rfl, rfl, by decide +kernel, rfl, by decide +kernel, by decide +kernel⟩
theorem ok_needSums {f fD fI : Addr} {fd fdD fdI : FuncData} (F : Fun K "need_sums" "need_sums" sNeedSums f fd) (EN : ErrAt P K mg "BadSums" "sums" CN fNe) (FI : Fun K "is_integer" "is_integer" sIsInt fI fdI) (gI : mg "is_integer" = some (.ref fI))
    (GD : FnOk P w K mg base CX0 2 fD fdD ["keys", "thing", "is_right"] (spDictOf K fI)) (bD : Binds K fdD ["keys", "thing", "is_right"] []) (gD : mg "is_dict_of" = some (.ref fD)) (kD : PySem.W.keepIn K (.ref fD) = true) :
    FnOk P w K mg base (L2.CX P w) 3 f fd ["names", "sums"] (spNeedSums K CN) := by
  refine F.okX scNeedSums (fun vs H Q E h => ?_) (fun cdv A outer s H vs Q E hr h => ?_)
  · obtain ⟨n, zs, v, k, rfl, _⟩ := h
    rfl
  · obtain ⟨n, zs, v, k, rfl, hn, hl, ht, kno, kyes⟩ := h
    refine ⟨_, pss_one (ps_if (pt_not (pt_val (pe_call GD hr (by rfl) gD kD bD .nil pass0 (pa_cons (pv 0) (pa_cons (pv 1) (pa_cons (pe_glob (v := .ref fI) (by rfl) gI rfl) pa_nil)))))) (pss_one (ps_raiseX rfl EN.x EN.g hr (takes_of rfl rfl rfl rfl) (by exact (pa_cons (pv 1) pa_nil)))) pss_nil), ?_⟩
    refine ⟨_, rfl, _, rfl, n, zs, v, k, rfl, hn, hl, ht, fun hk H1 s1 => ⟨false, rfl, iteT ⟨_, rfl, _, rfl, fun d hd => kno hk d _ (s1.trans (same_upd hd)) upd_same⟩⟩, fun hk => ?_⟩
    obtain ⟨dd, kvs, rfl, hd, hth, kbad, kgood⟩ := kyes hk
    refine ⟨dd, kvs, rfl, hd, hth, fun H1 s1 => ⟨dictB zs kvs, rfl, ?_⟩⟩
    cases hB : dictB zs kvs with
    | false => exact iteT ⟨_, rfl, _, rfl, fun d hd => kbad hB d _ (s1.trans (same_upd hd)) upd_same⟩
    | true => exact iteF (kgood hB H1 s1)
end
def SumT (K : PySem.W.Frag) (CU : Addr) (zs : List Str) (u : V) (H : Hp) (E : XK) (next : Addr → List (Key × V) → Prop) : Prop :=
  ∃ ku, Th K H u ku ∧ (ku.isDict = false → Bad "sums" CU u H E) ∧ (ku.isDict = true → ∃ dd kvs, u = .ref dd ∧ H dd = some (.dK kvs) ∧ (∀ kv ∈ kvs, ∃ kx, Th K H kv.2 kx) ∧ (dictB zs kvs = false → Bad "sums" CU u H E) ∧ (dictB zs kvs = true → next dd kvs))
theorem PathT.imp {K : PySem.W.Frag} {C CP : Addr} {v : V} {H : Hp} {E : XK} {next next' : List Str → Prop} (h : PathT K C CP v H E next) (f : ∀ zs, zs.Nodup → 2 ≤ zs.length → zs.length ≤ 400 → next zs → next' zs) : PathT K C CP v H E next' := by
  rcases h with h | ⟨p, t, zs, h1, h2, h3, h4, h5, h6, h7, h8⟩
  · exact .inl h
  · exact .inr ⟨p, t, zs, h1, h2, h3, h4, h5, h6, h7, f zs h3 h6 h7 h8⟩
theorem both_imp {K : PySem.W.Frag} {C CP CC : Addr} {v u : V} {H : Hp} {E : XK} {next next' : List Str → List Str → Prop} (h : BothT K C CP CC v u H E next)
    (f : ∀ M O, (M ++ O).Nodup → 2 ≤ M.length → M.length ≤ 400 → 2 ≤ O.length → O.length ≤ 400 → next M O → next' M O) : BothT K C CP CC v u H E next' :=
  h.imp fun M nM hM lM h2 => h2.imp fun O nO hO lO h3 => ⟨h3.1, fun e => f M O (both_nodup nM nO e) hM lM hO lO (h3.2 e)⟩
def sp5G (K : PySem.W.Frag) (C CP CC CS CU : Addr) (Good : List Str → List Str → Addr → List (Key × V) → Addr → List (Key × V) → List (Key × V) → Hp → VK → Prop) : Sp := fun vs H Q E => ∃ v su u so x, vs = [v, su, u, so, x] ∧
  BothT K C CP CC v u H E fun M O => StandT K CS M su H E fun d kvM => StandT K CS O so H E fun e kvO => SumT K CU M x H E fun _ kvT => Good M O d kvM e kvO kvT H Q
def GoodC (M O : List Str) (_ : Addr) (kvM : List (Key × V)) (_ : Addr) (_ : List (Key × V)) (kvT : List (Key × V)) (H : Hp) (Q : VK) : Prop := ∀ w H', BarAt H' w (joinBar M kvM O.length kvT) → Same H H' → Q w H'
def GoodK (M O : List Str) (_ : Addr) (kvM : List (Key × V)) (_ : Addr) (kvO : List (Key × V)) (kvT : List (Key × V)) (H : Hp) (Q : VK) : Prop := (joinBar M kvM O.length kvT ≠ none → ∀ H', Same H H' → Q .non H') ∧
  (joinBar M kvM O.length kvT = none → ∀ e H', H e = none → H' e = some (.dK (joinKv M O kvM kvO (placeOf kvT))) → Same H H' → Q (.ref e) H')
section
variable {P : Program} {w : World} {K : PySem.W.Frag} {mg : Str → Option Value} {base : Heap} {C CB fB0 CP CC CS CU fC : Addr}
theorem scJointClash : FnScope ["first", "stand", "second", "other_stand", "sums", "names", "others"] ["first", "stand", "second", "other_stand", "sums"] (defScope sJointClash) := ⟨rfl, rfl, rfl, by decide +kernel, rfl, by decide +kernel, by decide +kernel⟩
theorem ok_jointClash {f fJ fU fO : Addr} {fd fdJ fdU fdO : FuncData} (F : Fun K "joint_clash" "joint_clash" sJointClash f fd) 
    (GJ : FnOk P w K mg base CX0 2 fJ fdJ ["names", "places", "others", "sums"] spFirstJ) (bJ : Binds K fdJ ["names", "places", "others", "sums"] []) (gJ : mg "first_joint_clash" = some (.ref fJ)) (kJ9 : PySem.W.keepIn K (.ref fJ) = true)
    (GU : FnOk P w K mg base (L2.CX P w) 3 fU fdU ["names", "sums"] (spNeedSums K CU)) (bU : Binds K fdU ["names", "sums"] []) (gU : mg "need_sums" = some (.ref fU)) (kU9 : PySem.W.keepIn K (.ref fU) = true)
    (GO : FnOk P w K mg base (L2.CX P w) 5 fO fdO ["first", "stand", "second", "other_stand"] (sp4G K C CP CC CS GoodN)) (bO : Binds K fdO ["first", "stand", "second", "other_stand"] []) (gO : mg "names_to_join" = some (.ref fO)) (kO9 : PySem.W.keepIn K (.ref fO) = true) :
    FnOk P w K mg base (L2.CX P w) 6 f fd ["first", "stand", "second", "other_stand", "sums"] (sp5G K C CP CC CS CU GoodC) := by
  refine F.okX scJointClash (fun vs H Q E h => ?_) (fun cdv A outer s H vs Q E hr h => ?_)
  · obtain ⟨v, su, u, so, x, rfl, _⟩ := h
    rfl
  · obtain ⟨v, su, u, so, x, rfl, h⟩ := h
    have hu := hu_of hr
    have hr2 : Room 2 _ := hr.mono (by decide)
    have hr3 : Room 3 _ := hr.mono (by decide)
    have hr5 : Room 5 _ := hr.mono (by decide)
    refine ⟨_, pss_cons (ps_asg (pe_call GO hr5 (by rfl) gO kO9 bO .nil (passes_call (takes_of rfl rfl rfl rfl) fun _ _ _ _ h => h) (pa_cons (pv 0) (pa_cons (pv 1) (pa_cons (pv 2) (pa_cons (pv 3) pa_nil))))) (pg_tup rfl (pgs_cons (pg_name (i := 5) scJointClash.nd rfl (Or.inl rfl)) (pgs_cons (pg_name (i := 6) scJointClash.nd rfl (Or.inl rfl)) pgs_nil))))
      (pss_cons (ps_expr (pe_call GU hr3 (by rfl) gU kU9 bU .nil (passes_call (takes_of rfl rfl rfl rfl) fun _ _ _ _ h => h) (pa_cons (pv 5) (pa_cons (pv 4) pa_nil))))
      (pss_one (ps_ret (pe_call GJ hr2 (by rfl) gJ kJ9 bJ .nil pass0 (pa_cons (pv 5) (pa_cons (pv 1) (pa_cons (pv 6) (pa_cons (pv 4) pa_nil)))))))), ?_⟩
    refine ⟨_, rfl, _, rfl, _, rfl, _, rfl, v, su, u, so, rfl, both_imp h fun M O nd h2M lM h2O lO g1 => ?_⟩
    have ndM := (List.nodup_append.mp nd).1
    have ndO := (List.nodup_append.mp nd).2.1
    refine StandT.same (H1 := H) g1 (Same.refl H) fun d kvM hsu hd hBM g2 => ?_
    refine StandT.same (H1 := H) g2 (Same.refl H) fun de kvO hso hde hBO g3 => ?_
    intro T n o H1 hn0 eT en eo nno s1
    refine ⟨T, _, rfl, SqT.of eT, rfl, _, _, rfl, _, _, rfl, rfl, ?_⟩
    subst hsu hso
    obtain ⟨kx, htx, xno, xyes⟩ := g3
    refine ⟨_, rfl, _, rfl, n, M, x, kx, rfl, en, by omega, htx.same s1, fun e => (xno e).same s1, fun e => ?_⟩
    obtain ⟨dx, kvT, rfl, hdx, hthx, xb, good⟩ := xyes e
    refine ⟨dx, kvT, rfl, s1 _ _ hdx, fun kv hkv => let ⟨kx, e⟩ := hthx kv hkv; ⟨kx, e.same s1⟩, fun e => (xb e).same s1, fun hB H2 s2 => ?_⟩
    have s12 := s1.trans s2
    have plM := dict_place (Bool.and_eq_true_iff.mp hBM).1
    have plO := dict_place (Bool.and_eq_true_iff.mp hBO).1
    have plT := dict_place hB
    replace good := good hB
    have en2 := s2 _ _ en
    have eo2 := s2 _ _ eo
    have hd2 := s12 _ _ hd
    have hdx2 := s12 _ _ hdx
    have hde2 := s12 _ _ hde
    exact ⟨_, rfl, _, rfl, _, rfl, _, rfl, n, d, o, dx, M, O, kvM, kvT, rfl, en2, hd2, plM, eo2, hdx2, plT, ndM, by omega, by omega, by omega, fun w H3 hw s3 => good w H3 hw (s12.trans s3)⟩

theorem scJoined : FnScope ["first", "stand", "second", "other_stand", "sums", "names", "others", "nets", "among_others", "one", "other", "name"] ["first", "stand", "second", "other_stand", "sums"] (defScope sJoined) := ⟨rfl, rfl, rfl, by decide +kernel, rfl, by decide +kernel, by decide +kernel⟩
theorem ok_joined {f fP fA fT fN fJ fU fO : Addr} {fd fdP fdA fdT fdN fdJ fdU fdO : FuncData} (F : Fun K "joined" "joined" sJoined f fd) 
    (GP : FnOk P w K mg base CX0 2 fP fdP ["names", "nets"] spPlacedBy) (bP : Binds K fdP ["names", "nets"] []) (gP : mg "placed_by" = some (.ref fP)) (kP9 : PySem.W.keepIn K (.ref fP) = true)
    (GA : FnOk P w K mg base CX0 1 fA fdA ["nets", "one", "over"] spAddV) (bA : Binds K fdA ["nets", "one", "over"] []) (gA : mg "add_nets" = some (.ref fA)) (kA9 : PySem.W.keepIn K (.ref fA) = true)
    (GT : FnOk P w K mg base CX0 1 fT fdT ["names", "places", "total"] spNetsTotal) (bT : Binds K fdT ["names", "places", "total"] []) (gT : mg "nets_by_total" = some (.ref fT)) (kT9 : PySem.W.keepIn K (.ref fT) = true)
    (GN : FnOk P w K mg base CX0 3 fN fdN ["names", "places"] spNetsAmong) (bN : Binds K fdN ["names", "places"] []) (gN : mg "nets_among" = some (.ref fN)) (kN9 : PySem.W.keepIn K (.ref fN) = true)
    (GJ : FnOk P w K mg base CX0 2 fJ fdJ ["names", "places", "others", "sums"] spFirstJ) (bJ : Binds K fdJ ["names", "places", "others", "sums"] []) (gJ : mg "first_joint_clash" = some (.ref fJ)) (kJ9 : PySem.W.keepIn K (.ref fJ) = true)
    (GU : FnOk P w K mg base (L2.CX P w) 3 fU fdU ["names", "sums"] (spNeedSums K CU)) (bU : Binds K fdU ["names", "sums"] []) (gU : mg "need_sums" = some (.ref fU)) (kU9 : PySem.W.keepIn K (.ref fU) = true)
    (GO : FnOk P w K mg base (L2.CX P w) 5 fO fdO ["first", "stand", "second", "other_stand"] (sp4G K C CP CC CS GoodN)) (bO : Binds K fdO ["first", "stand", "second", "other_stand"] []) (gO : mg "names_to_join" = some (.ref fO)) (kO9 : PySem.W.keepIn K (.ref fO) = true) :
    FnOk P w K mg base (L2.CX P w) 6 f fd ["first", "stand", "second", "other_stand", "sums"] (sp5G K C CP CC CS CU GoodK) := by
  refine F.okX scJoined (fun vs H Q E h => ?_) (fun cdv A outer s H vs Q E hr h => ?_)
  · obtain ⟨v, su, u, so, x, rfl, _⟩ := h
    rfl
  · obtain ⟨v, su, u, so, x, rfl, h⟩ := h
    have hu := hu_of hr
    have hr1 : Room 1 _ := hr.mono (by decide)
    have hr2 : Room 2 _ := hr.mono (by decide)
    have hr3 : Room 3 _ := hr.mono (by decide)
    have hr5 : Room 5 _ := hr.mono (by decide)
    refine ⟨_, pss_cons (ps_asg (pe_call GO hr5 (by rfl) gO kO9 bO .nil (passes_call (takes_of rfl rfl rfl rfl) fun _ _ _ _ h => h) (pa_cons (pv 0) (pa_cons (pv 1) (pa_cons (pv 2) (pa_cons (pv 3) pa_nil))))) (pg_tup rfl (pgs_cons (pg_name (i := 5) scJoined.nd rfl (Or.inl rfl)) (pgs_cons (pg_name (i := 6) scJoined.nd rfl (Or.inl rfl)) pgs_nil))))
      (pss_cons (ps_expr (pe_call GU hr3 (by rfl) gU kU9 bU .nil (passes_call (takes_of rfl rfl rfl rfl) fun _ _ _ _ h => h) (pa_cons (pv 5) (pa_cons (pv 4) pa_nil))))
      (pss_cons (ps_if (pt_cmpR op_notN (pe_call GJ hr2 (by rfl) gJ kJ9 bJ .nil pass0 (pa_cons (pv 5) (pa_cons (pv 1) (pa_cons (pv 6) (pa_cons (pv 4) pa_nil))))) pe_non (nomark _)) (pss_one (ps_ret pe_non)) (pss_nil))
      (pss_cons (ps_set (i := 7) scJoined.nd rfl (Or.inl rfl) (pe_call GN hr3 (by rfl) gN kN9 bN .nil pass0 (pa_cons (pv 5) (pa_cons (pv 1) pa_nil))))
      (pss_cons (ps_set (i := 8) scJoined.nd rfl (Or.inl rfl) (pe_call GN hr3 (by rfl) gN kN9 bN .nil pass0 (pa_cons (pv 6) (pa_cons (pv 3) pa_nil))))
      (pss_cons (ps_lock (ps_for PassesOwn.leaving rfl (pi_keys (pv 8)) (pg_tup rfl (pgs_cons (pg_name (i := 9) scJoined.nd rfl (Or.inl rfl)) (pgs_cons (pg_name (i := 10) scJoined.nd rfl (Or.inl rfl)) pgs_nil)))
        (pss_one (ps_dput hu (pv 7) (pe_tup (pa_cons (pv 9) (pa_cons (pv 10) pa_nil))) (pe_dget hu (pv 8) (pe_tup (pa_cons (pv 9) (pa_cons (pv 10) pa_nil))) (fun _ _ => rfl)) rfl))))
      (pss_cons (ps_for PassesOwn.leaving rfl (pi_list (pv 5)) (pg_name (i := 11) scJoined.nd rfl (Or.inl rfl))
        (pss_one (ps_expr (pe_call GA hr1 (by rfl) gA kA9 bA .nil pass0 (pa_cons (pv 7) (pa_cons (pv 11) (pa_cons (pe_call GT hr1 (by rfl) gT kT9 bT .nil pass0 (pa_cons (pv 6) (pa_cons (pv 3) (pa_cons (pe_dget hu (pv 4) (pv 11) (fun _ _ => rfl)) pa_nil)))) pa_nil)))))))
      (pss_one (ps_ret (pe_call GP hr2 (by rfl) gP kP9 bP .nil pass0 (pa_cons (pe_op op_cat (pv 5) (pv 6)) (pa_cons (pv 7) pa_nil))))))))))), ?_⟩
    refine ⟨_, rfl, _, rfl, _, rfl, _, rfl, v, su, u, so, rfl, both_imp h fun M O nd h2M lM h2O lO g1 => ?_⟩
    have ndM := (List.nodup_append.mp nd).1
    have ndO := (List.nodup_append.mp nd).2.1
    refine StandT.same (H1 := H) g1 (Same.refl H) fun d kvM hsu hd hBM g2 => ?_
    refine StandT.same (H1 := H) g2 (Same.refl H) fun de kvO hso hde hBO g3 => ?_
    intro T n o H1 hn0 eT en eo nno s1
    refine ⟨T, _, rfl, SqT.of eT, rfl, _, _, rfl, _, _, rfl, rfl, ?_⟩
    subst hsu hso
    obtain ⟨kx, htx, xno, xyes⟩ := g3
    refine ⟨_, rfl, _, rfl, n, M, x, kx, rfl, en, by omega, htx.same s1, fun e => (xno e).same s1, fun e => ?_⟩
    obtain ⟨dx, kvT, rfl, hdx, hthx, xb, good⟩ := xyes e
    refine ⟨dx, kvT, rfl, s1 _ _ hdx, fun kv hkv => let ⟨kx, e⟩ := hthx kv hkv; ⟨kx, e.same s1⟩, fun e => (xb e).same s1, fun hB H2 s2 => ?_⟩
    have s12 := s1.trans s2
    have plM := dict_place (Bool.and_eq_true_iff.mp hBM).1
    have plO := dict_place (Bool.and_eq_true_iff.mp hBO).1
    have plT := dict_place hB
    replace good := good hB
    have en2 := s2 _ _ en
    have eo2 := s2 _ _ eo
    have hd2 := s12 _ _ hd
    have hdx2 := s12 _ _ hdx
    have hde2 := s12 _ _ hde
    refine ⟨_, rfl, _, rfl, _, rfl, _, rfl, n, d, o, dx, M, O, kvM, kvT, rfl, en2, hd2, plM, eo2, hdx2, plT, ndM, by omega, by omega, by omega, fun w H3 hw s3 => ?_⟩
    have s13 := s12.trans s3
    cases hb : joinBar M kvM O.length kvT with
    | some pr =>
      rw [hb] at hw
      obtain ⟨U, rfl, hU⟩ := hw
      exact ⟨rfl, _, rfl, iteT (good.1 (by rw [hb]; exact fun z => nomatch z) H3 s13)⟩
    | none =>
      rw [hb] at hw
      cases (show w = .non from hw)
      refine ⟨rfl, _, rfl, iteF ?_⟩
      refine ⟨_, rfl, _, rfl, n, d, M, kvM, rfl, s3 _ _ en2, s3 _ _ hd2, plM, ndM, by omega, by omega, fun N H4 hN0 hN s4 => ?_⟩
      refine ⟨_, rfl, _, rfl, o, de, O, kvO, rfl, s4 _ _ (s3 _ _ eo2), s4 _ _ (s3 _ _ hde2), plO, ndO, by omega, by omega, fun N2 H5 hN20 hN2 s5 => ?_⟩
      have s35 := (s3.trans s4).trans s5
      have dis : ∀ x ∈ O, x ∉ M := fun x hx q => (List.nodup_append.mp nd).2.2 x q x hx rfl
      have N2N : N ≠ N2 := ne_of_none hN hN20
      have lpM : (pairsOf M).length ≤ 160000 := Nat.le_trans (from_len (zs := M) (r := M)) (Nat.mul_le_mul lM lM)
      have lpO : (pairsOf O).length ≤ 160000 := Nat.le_trans (from_len (zs := O) (r := O)) (Nat.mul_le_mul lO lO)
      have big : (1000000 : Nat) < sizeLine := by decide
      have s15 : Same H H5 := s13.trans (s4.trans s5)
      have hHN : H N = none := s13.free hN0
      have hHN2 : H N2 = none := (s13.trans s4).free hN20
      refine ⟨N2, _, hN2, trivial, fun od => ?_⟩
      generalize hH6 : upd H5 N2 _ = H6
      have hf : H6 N2 = some (.frz od (.dT (kvP (pairsOf O) (netF O kvO)))) := by rw [← hH6]; exact upd_same
      have bf : ∀ b u, b ≠ N2 → H5 b = some u → H6 b = some u := fun b u hb e => by rw [← hH6, upd_ne hb]; exact e
      have fb : ∀ b, b ≠ N2 → H6 b = H5 b := fun b hb => by rw [← hH6, upd_ne hb]
      clear hH6
      have hN6 := bf _ _ N2N (s5 _ _ hN)
      refine ⟨_, rfl, N2, od, rfl, .inr ⟨_, hf, for_it (walk_keysT (d := N2) (o := od) (kvs := kvP (pairsOf O) (netF O kvO))) (fun i σ G => ∃ w9 w10, σ = [some v, some (.ref d), some u, some (.ref de), some (.ref dx), some (.ref n), some (.ref o), some (.ref N), some (.ref N2), w9, w10, none] ∧ But N H6 G ∧ ∃ kvi, G N = some (.dT kvi) ∧ kvi.length ≤ (pairsOf M).length + i ∧ (∀ p : Str × Str, p ∈ (pairsOf O).take i → valV kvi (kP p) = some (.int (netF O kvO p))) ∧ ∀ p : Str × Str, p.1 ∈ M → valV kvi (kP p) = valV (kvP (pairsOf M) (netF M kvM)) (kP p))
        ⟨none, none, rfl, Same.but (Same.refl H6), _, hN6, by rw [kvP_len]; omega, fun p hp => (by rw [List.take_zero] at hp; exact (nomatch hp)), fun p _ => rfl⟩ (fun i σ G _ ⟨_, _, _, b, _⟩ => b _ _ (Ne.symm N2N) hf) ?_ ?_⟩⟩
      · rintro i y σ G0 G hi ⟨w9, w10, rfl, bG, kvi, eG, hli, hv1, hv2⟩ ⟨rfl, k, vv, qa, hkv, rfl, hq⟩
        obtain ⟨pr, hpr, hkk⟩ : ∃ pr, (pairsOf O)[i]? = some pr ∧ (kP pr, V.int (netF O kvO pr)) = (k, vv) := by
          unfold kvP at hkv
          rw [List.getElem?_map] at hkv
          exact Option.map_eq_some_iff.mp hkv
        obtain ⟨rfl, rfl⟩ := Prod.mk.inj hkk
        have hprm : pr ∈ pairsOf O := List.mem_of_getElem? hpr
        have hil : i < (pairsOf O).length := (List.getElem?_eq_some_iff.mp hpr).1
        have hfG := bG _ _ (Ne.symm N2N) hf
        refine ⟨qa, _, rfl, SqT.of hq, rfl, _, _, rfl, _, _, rfl, rfl, ?_⟩
        refine ⟨_, rfl, _, rfl, _, rfl, by show 2 ≤ sizeLine; decide, fun U hU => ?_⟩
        generalize hE : upd G U _ = G1
        have sG1 : Same G G1 := hE ▸ same_upd hU
        have eU := congrFun hE.symm U
        rw [upd_same] at eU
        clear hE
        refine ⟨N2, _, rfl, .inr ⟨_, kP pr, U, .inr ⟨od, sG1 _ _ hfG⟩, rfl, eU, (val_P hprm).symm⟩, ?_⟩
        refine ⟨_, rfl, _, rfl, _, rfl, by show 2 ≤ sizeLine; decide, fun U2 hU2 => ?_⟩
        generalize hE : upd G1 U2 _ = G2
        have sG2 : Same G1 G2 := hE ▸ same_upd hU2
        have eU2 := congrFun hE.symm U2
        rw [upd_same] at eU2
        clear hE
        have l1 := length_putK kvi (kP pr) (.int (netF O kvO pr))
        obtain ⟨po1, po2, po3⟩ := mem_pairs.mp (show (pr.1, pr.2) ∈ pairsOf O from hprm)
        refine ⟨N, _, rfl, DPut.t (k := kP pr) (sG2 _ _ (sG1 _ _ eG)) eU2 (by omega), _, _, rfl, ((bG.trans (Same.but sG1)).trans (Same.but sG2)).trans But.upd, putK kvi (kP pr) (.int (netF O kvO pr)), upd_same, by omega, fun p hp => ?_, fun p hp => ?_⟩
        · rw [put_at]
          rw [take_more hpr] at hp
          by_cases e : p = pr
          · rw [if_pos e, e]
          · rw [if_neg e]
            rcases List.mem_append.mp hp with q | q
            · exact hv1 p q
            · exact absurd (List.mem_singleton.mp q) e
        · rw [put_at, if_neg (fun (e : p = pr) => dis _ po1 (by rw [← e]; exact hp))]
          exact hv2 p hp
      · rintro σ G ⟨w9, w10, rfl, bG, kvi, eG, hli, hv1, hv2⟩
        rw [kvP_len] at hli hv1
        rw [List.take_length] at hv1
        refine ⟨bG _ _ (Ne.symm N2N) hf, ?_⟩
        have b57 : But N H5 (upd G N2 (.dT (kvP (pairsOf O) (netF O kvO)))) := fun b x hb hx => by
          by_cases hb2 : b = N2
          · subst hb2
            rw [upd_same]
            rw [hN2] at hx
            exact hx
          · rw [upd_ne hb2]
            exact bG _ _ hb (bf _ _ hb2 hx)
        have eN7 : (upd G N2 (.dT (kvP (pairsOf O) (netF O kvO)))) N = some (.dT kvi) := by rw [upd_ne N2N]; exact eG
        have eta : (fun p => netP O kvO p.1 p.2) = netF O kvO := rfl
        rw [eta]
        generalize upd G N2 (.dT (kvP (pairsOf O) (netF O kvO))) = G7 at b57 eN7
        have nN : n ≠ N := ne_of_none (s3 _ _ en2) hN0
        have oN : o ≠ N := ne_of_none (s3 _ _ eo2) hN0
        have dxN : dx ≠ N := ne_of_none (s3 _ _ hdx2) hN0
        have deN : de ≠ N := ne_of_none (s3 _ _ hde2) hN0
        have s35' := s4.trans s5
        have en7 := b57 _ _ nN (s35' _ _ (s3 _ _ en2))
        have eo7 := b57 _ _ oN (s35' _ _ (s3 _ _ eo2))
        have hdx7 := b57 _ _ dxN (s35' _ _ (s3 _ _ hdx2))
        have hde7 := b57 _ _ deN (s35' _ _ (s3 _ _ hde2))
        have hml : (M.map V.str).length = M.length := List.length_map _
        refine ⟨_, rfl, n, rfl, ⟨_, SqL.of en7⟩, for_list (xs := M.map V.str) (fun j σ G' => ∃ w11, σ = [some v, some (.ref d), some u, some (.ref de), some (.ref dx), some (.ref n), some (.ref o), some (.ref N), some (.ref N2), w9, w10, w11] ∧ But N G7 G' ∧ ∃ kvj, G' N = some (.dT kvj) ∧ kvj.length ≤ 320000 + 2 * O.length * j ∧
            (∀ p : Str × Str, p.1 ∈ M.take j → p.2 ∈ O → valV kvj (kP p) = some (.int (totG O kvO (placeOf kvT p.1) p.2))) ∧ (∀ p : Str × Str, p.2 ∈ M.take j → p.1 ∈ O → valV kvj (kP p) = some (.int (- totG O kvO (placeOf kvT p.2) p.1))) ∧ ∀ p : Str × Str, (p.1 ∈ M ∧ p.2 ∈ M) ∨ (p.1 ∈ O ∧ p.2 ∈ O) → valV kvj (kP p) = valV kvi (kP p))
          ⟨none, rfl, Same.but (Same.refl G7), kvi, eN7, by omega, fun p hp => (by rw [List.take_zero] at hp; exact (nomatch hp)), fun p hp => (by rw [List.take_zero] at hp; exact (nomatch hp)), fun p _ => rfl⟩ (fun j σ G' _ ⟨_, _, b, _⟩ => SqL.of (b _ _ nN en7)) ?_ ?_⟩
        · rintro j y σ G8 hy ⟨w11, rfl, b8, kvj, eN8, hlj, i1, i2, i3⟩
          obtain ⟨z, hz, hzm, rfl⟩ := name_at hy
          have hjl : j < M.length := (List.getElem?_eq_some_iff.mp hz).1
          have bz : z ∉ O := fun q => dis _ q hzm
          refine ⟨_, rfl, _, rfl, _, rfl, _, rfl, _, rfl, _, rfl, dx, _, rfl, plT _ hzm ▸ DGet.k (k := (Sum.inr z : Key)) (b8 _ _ dxN hdx7), o, de, O, kvO, placeOf kvT z, rfl, b8 _ _ oN eo7, b8 _ _ deN hde7, plO, ndO, by omega, by omega, fun e G9 he0 he s9 => ?_⟩
          have eNe : N ≠ e := ne_of_none eN8 he0
          have hmm : O.length * j ≤ 400 * 400 := Nat.mul_le_mul lO (by omega)
          have hm2 : 2 * O.length * j = 2 * (O.length * j) := Nat.mul_assoc 2 O.length j
          have hm3 : 2 * O.length * (j + 1) = 2 * O.length * j + 2 * O.length := Nat.mul_succ _ _
          refine ⟨N, e, z, O, _, kvj, rfl, eNe, s9 _ _ eN8, he, ndO, bz, by omega, fun G10 kvn eNn hvn lnn b10 => ?_⟩
          refine ⟨_, rfl, (b8.trans (Same.but s9)).trans b10, kvn, eNn, by omega, fun p hp1 hp2 => ?_, fun p hp1 hp2 => ?_, fun p hp => ?_⟩
          · rw [hvn p]
            unfold addV
            rw [take_more hz] at hp1
            by_cases e : p.1 = z
            · rw [if_pos ⟨e, hp2⟩, e]
            · rw [if_neg (fun q => e q.1), if_neg (fun q => dis _ hp2 (by rw [q.1]; exact hzm))]
              rcases List.mem_append.mp hp1 with q | q
              · exact i1 p q hp2
              · exact absurd (List.mem_singleton.mp q) e
          · rw [hvn p]
            unfold addV
            rw [take_more hz] at hp1
            rw [if_neg (fun q => dis _ hp2 (by rw [q.1]; exact hzm))]
            by_cases e : p.2 = z
            · rw [if_pos ⟨e, hp2⟩, e]
            · rw [if_neg (fun q => e q.1)]
              rcases List.mem_append.mp hp1 with q | q
              · exact i2 p q hp2
              · exact absurd (List.mem_singleton.mp q) e
          · rw [hvn p]
            unfold addV
            have f1 : ¬ (p.1 = z ∧ p.2 ∈ O) := fun q => hp.elim (fun h => dis _ q.2 h.2) fun h => dis _ h.1 (by rw [q.1]; exact hzm)
            have f2 : ¬ (p.2 = z ∧ p.1 ∈ O) := fun q => hp.elim (fun h => dis _ q.2 h.1) fun h => dis _ h.2 (by rw [q.1]; exact hzm)
            rw [if_neg f1, if_neg f2]
            exact i3 p hp
        · rintro σ G8 ⟨w11, rfl, b8, kvj, eN8, hlj, i1, i2, i3⟩
          rw [hml, List.take_length] at i1 i2
          refine ⟨_, rfl, _, rfl, n, o, _, _, rfl, rfl, b8 _ _ nN en7, b8 _ _ oN eo7, ?_, fun R hR => ?_⟩
          · rw [List.length_map, List.length_map]
            exact Nat.le_of_lt (Nat.lt_of_le_of_lt (show M.length + O.length ≤ 800 by omega) (by decide))
          have eR : (upd G8 R (.lst (M.map V.str ++ O.map V.str))) R = some (.lst ((M ++ O).map V.str)) := by rw [upd_same, List.map_append]
          have sR := same_upd (o := .lst (M.map V.str ++ O.map V.str)) hR
          generalize upd G8 R (.lst (M.map V.str ++ O.map V.str)) = G9 at eR sR
          have s58 : Same H G9 := fun b x hx => by
            have hb : b ≠ N := ne_of_none hx hHN
            exact sR _ _ (b8 _ _ hb (b57 _ _ hb (s15 _ _ hx)))
          refine ⟨_, rfl, R, N, M ++ O, kvj, jG M O kvM kvO (placeOf kvT), rfl, eR, sR _ _ eN8, fun p hp => ?_, nd, by rw [List.length_append]; omega, fun e G10 he0 he s10 => ?_⟩
          · obtain ⟨m1, m2, m3⟩ := mem_pairs.mp (show (p.1, p.2) ∈ pairsOf (M ++ O) from hp)
            unfold jG
            rcases List.mem_append.mp m1 with a | a <;> rcases List.mem_append.mp m2 with b | b
            · rw [if_pos a, if_pos b, i3 p (.inl ⟨a, b⟩), hv2 p a]
              exact val_P (mem_pairs.mpr ⟨a, b, m3⟩ : (p.1, p.2) ∈ pairsOf M)
            · rw [if_pos a, if_neg (dis _ b)]
              exact i1 p a b
            · rw [if_neg (dis _ a), if_pos b]
              exact i2 p b a
            · rw [if_neg (dis _ a), if_neg (dis _ b), i3 p (.inr ⟨a, b⟩)]
              exact hv1 p (mem_pairs.mpr ⟨a, b, m3⟩ : (p.1, p.2) ∈ pairsOf O)
          · exact good.2 hb e G10 (s58.free he0) he (s58.trans s10)

end
end RK

namespace RK
open PySem L2
/-! ### dict([(name, f(name)) for name in names]), once for all -/
def kvV (ks : List Str) (f : Str → V) : List (Key × V) := ks.map fun u => ((Sum.inr u : Key), f u)
theorem kvV_int {ks : List Str} {g : Str → Int} : kvV ks (fun z => .int (g z)) = kvOf ks g := rfl
theorem kvV_len {ks : List Str} {f : Str → V} : (kvV ks f).length = ks.length := List.length_map _
theorem kvV_keys {ks : List Str} {f : Str → V} : (kvV ks f).map (·.1) = ks.map fun z => (Sum.inr z : Key) := by
  unfold kvV
  rw [List.map_map]
  rfl
theorem kvV_app {l m : List Str} {f : Str → V} : kvV (l ++ m) f = kvV l f ++ kvV m f := List.map_append
theorem kvV_val {f : Str → V} {z : Str} : ∀ {ks : List Str}, z ∈ ks → valV (kvV ks f) (Sum.inr z : Key) = some (f z)
  | [], h => nomatch h
  | y :: r, h => by
    unfold kvV
    rw [List.map_cons]
    by_cases e : y = z
    · subst e; rw [valV_pos rfl]
    · rw [valV_neg (fun t => e (Sum.inr.inj t))]
      exact kvV_val ((List.mem_cons.mp h).resolve_left fun t => e t.symm)
theorem merge_kvV {ks : List Str} {f : Str → V} (h : ks.Nodup) : mergeK [] (kvV ks f) = kvV ks f := merge_self (by rw [kvV_keys]; exact nodup_keys h)
theorem pairs_snoc {G G2 : Hp} {D U : Addr} {ts : List Addr} {l : List Str} {z : Str} {f : Str → V} (h : Paired (fun (t : Addr) (kv : Key × V) => t ≠ D ∧ G t = some (.tup [kV kv.1, kv.2])) ts (kvV l f)) (s : ∀ b o, b ≠ D → G b = some o → G2 b = some o) (hU : U ≠ D) (e : G2 U = some (.tup [.str z, f z])) :
    Paired (fun (t : Addr) (kv : Key × V) => t ≠ D ∧ G2 t = some (.tup [kV kv.1, kv.2])) (ts ++ [U]) (kvV (l ++ [z]) f) := by
  rw [kvV_app]
  exact Paired.snoc (Paired.mono (fun t kv h => ⟨h.1, s _ _ h.1 h.2⟩) h) ⟨hU, e⟩
theorem st_tup {t : TA} {σ : St} {H : Hp} {Q : VK} (h : t σ H fun xs H1 => xs.length ≤ sizeLine ∧ ∀ p, H1 p = none → Q (.ref p) (upd H1 p (.tup xs))) : tTup t σ H Q := h
section
variable {K : PySem.W.Frag} {n D : Addr} {zs : List Str} {i : Nat} {vs : List Nat} {tv : TE} {σ : St} {H1 : Hp} {Qd : Hp → Prop} {f : Str → V}
theorem dictA_it (hn : H1 n = some (.lst (zs.map V.str))) (hD : H1 D = none) (hl : zs.length ≤ 1000)
    (hw : ∀ x, wipe ((wipe σ vs).set i (some x)) vs = wipe σ vs) (hr : ∀ x H (Q : VK), Q x H → tVar i ((wipe σ vs).set i (some x)) H Q)
    (hv : ∀ z ∈ zs, ∀ G (Q : VK), Same H1 G → (∀ G', Same G G' → Q (f z) G') → tv ((wipe σ vs).set i (some (.str z))) G Q)
    (hd : ∀ G ts, Same H1 G → G D = some (.lst (ts.map V.ref)) → Paired (fun (t : Addr) (kv : Key × V) => G t = some (.tup [kV kv.1, kv.2])) ts (kvV zs f) → Qd G) :
    ∃ W : Nat → Nat → Hp → Prop, (∃ m, W 0 m (upd H1 D (.lst []))) ∧ ∀ j m H, W j m H →
      ((Itl K n).stop j H ∧ Qd H) ∨ ((Itl K n).go j H ∧ ∃ Nx : Hp → Prop, (∀ H', Nx H' → ∃ m', m' < m ∧ W (j + 1) m' H') ∧ ∀ x H', (Itl K n).yld j H x H' → gName i x (wipe σ vs) H' fun σ2 H2 => wipe σ2 vs = wipe σ vs ∧ tYes σ2 H2 fun b H3 =>
        if b = true then tTup (tCons (tVar i) (tCons tv tNil)) σ2 H3 fun y H4 => ∃ acc, H4 D = some (.lst acc) ∧ acc.length < sizeLine ∧ Nx (upd H4 D (.lst (acc ++ [y]))) else Nx H3) := by
  refine lc_it (walk_list (K := K) (a := n) (xs := zs.map V.str)) (fun j G => Same H1 G ∧ ∃ ts : List Addr, G D = some (.lst (ts.map V.ref)) ∧ Paired (fun (t : Addr) (kv : Key × V) => t ≠ D ∧ G t = some (.tup [kV kv.1, kv.2])) ts (kvV (zs.take j) f)) ⟨same_upd hD, [], upd_same, .nil⟩ (fun j G _ p => SqL.of (p.1 _ _ hn)) ?_ ?_
  · rintro j x G1 G2 hj ⟨sm, ts, hacc, hpr⟩ ⟨rfl, hx⟩
    obtain ⟨z, hz, hzm, rfl⟩ := name_at hx
    refine ⟨hw _, tyes ?_⟩
    refine st_tup (st_cons (hr _ _ _ (st_cons ?_)))
    refine hv z hzm _ _ sm fun G3 s3 => st_nil ?_
    refine ⟨by show 2 ≤ sizeLine; decide, fun U hU => ?_⟩
    generalize hE : upd G3 U _ = G4
    have s4 : Same G3 G4 := hE ▸ same_upd hU
    have eU := congrFun hE.symm U
    rw [upd_same] at eU
    clear hE
    have s24 := s3.trans s4
    have hUD : U ≠ D := Ne.symm (ne_of_none (s3 _ _ hacc) hU)
    have htl : ts.length = (zs.take j).length := by rw [Paired.length hpr, kvV_len]
    refine ⟨_, s24 _ _ hacc, ?_, fun b o hb => ?_, ts ++ [U], ?_, ?_⟩
    · rw [List.length_map, htl, List.length_take]
      exact Nat.lt_of_le_of_lt (Nat.le_trans (Nat.min_le_right _ _) hl) (by decide)
    · rw [upd_ne (ne_of_none hb hD)]
      exact s24 _ _ (sm _ _ hb)
    · rw [upd_same, List.map_append]
      rfl
    · rw [take_more hz]
      exact pairs_snoc hpr (fun b o hb e => by rw [upd_ne hb]; exact s24 _ _ e) hUD (by rw [upd_ne hUD]; exact eU)
  · rintro G ⟨sm, ts, hacc, hpr⟩
    rw [List.length_map, List.take_length] at hpr
    exact hd G ts sm hacc (Paired.mono (fun _ _ h => h.2) hpr)
end
/-! ### the sums over the others, by the law's own nets -/
def sumsZ (O Z : List Str) (kvW : List (Key × V)) (x : Str) : Int := (O.map fun z => netP Z kvW x z).sum
def spWSums : Sp := fun vs H Q _ => ∃ (d n o : Addr) (M O Z : List Str) (kvW : List (Key × V)), vs = [.ref d, .ref n, .ref o] ∧ H d = some (.dK kvW) ∧ Sta Z Z kvW ∧ H n = some (.lst (M.map V.str)) ∧ H o = some (.lst (O.map V.str)) ∧ (∀ z ∈ M, z ∈ Z) ∧ (∀ z ∈ O, z ∈ Z) ∧ M.Nodup ∧ M.length ≤ 1000 ∧ O.length ≤ 1000 ∧ Z.length ≤ 1000 ∧
  ∀ e H', H e = none → H' e = some (.dK (kvOf M (sumsZ O Z kvW))) → Same H H' → Q (.ref e) H'
section
variable {P : Program} {w : World} {K : PySem.W.Frag} {mg : Str → Option Value} {base : Heap}
theorem scWSums : FnScope ["whole", "mine", "theirs", "other", "one"] ["whole", "mine", "theirs"] (defScope sWSums) := ⟨rfl, rfl, rfl, by decide +kernel, rfl, by decide +kernel, by decide +kernel⟩
theorem ok_wsums {f fN : Addr} {fd fdN : FuncData} (F : Fun K "_law_sums" "_law_sums" sWSums f fd) (B : B0 K mg) (zsum : mg "sum" = none)
    (GN : FnOk P w K mg base CX0 1 fN fdN ["stand", "one", "other"] spWNet) (bN : Binds K fdN ["stand", "one", "other"] []) (gN : mg "_law_w_net" = some (.ref fN)) (kN9 : PySem.W.keepIn K (.ref fN) = true) :
    FnOk P w K mg base CX0 2 f fd ["whole", "mine", "theirs"] spWSums := by
  refine F.ok scWSums (fun vs H Q E h => ?_) (fun cdv A outer s H vs Q E hr h => ?_)
  · obtain ⟨d, n, o, M, O, Z, kvW, rfl, _⟩ := h
    rfl
  · obtain ⟨d, n, o, M, O, Z, kvW, rfl, hd, hst, hn, ho, hM, hO, hnd, hl, hlo, hlz, q⟩ := h
    have hu := hu_of hr
    have hr1 : Room 1 _ := hr.mono (by decide)
    refine ⟨_, pss_one (ps_ret (pe_callTy (call_dictP rfl) (by rfl) B.dict (by decide +kernel) (pa_cons (pe_lc (te := (tTup (tCons (tVar 4) (tCons (tCB (rSum K) (tCons (tLc (iList K (tVar 2)) (gName 3) tYes (tCall spWNet [] E0 (tCons (tVar 0) (tCons (tVar 4) (tCons (tVar 3) tNil)))) [3]) tNil)) tNil)))) (own := [("one", 4)]) (g := (gName 4)) (tt := tYes) rfl scWSums.nd (pi_list (pv 1)) (blkOk_by (N := ["whole", "mine", "theirs", "other", "one"]) (sc := defScope sWSums) (by decide +kernel))
          (fun _ _ _ _ _ => (pg_name (i := 4) scWSums.nd rfl (Or.inr rfl))) (fun _ _ _ _ _ => pts_nil) (fun _ _ _ _ _ => by exact (pe_tup (pa_cons (pv 4) (pa_cons (pe_callB (cr_sum rfl) (by rfl) zsum (by decide +kernel) (pa_cons (pe_lc (te := (tCall spWNet [] E0 (tCons (tVar 0) (tCons (tVar 4) (tCons (tVar 3) tNil))))) (own := [("other", 3)]) (g := (gName 3)) (tt := tYes) rfl scWSums.nd (pi_list (pv 2)) (blkOk_by (N := ["whole", "mine", "theirs", "other", "one"]) (sc := (relS { kind := .function, names := [(".0", .local), ("one", .cell), ("sum", .globalImplicit), ("theirs", .free), ("whole", .free)], isGenerator := false, isCoroutine := false, more := [] } (defScope sWSums))) (by decide +kernel))
          (fun _ _ _ _ _ => (pg_name (i := 3) scWSums.nd rfl (Or.inl rfl))) (fun _ _ _ _ _ => pts_nil) (fun _ _ _ _ _ => by exact (pe_call GN hr1 (by rfl) gN kN9 bN .nil pass0 (pa_cons (pv 0) (pa_cons (pv 4) (pa_cons (pv 3) pa_nil)))))) pa_nil)) pa_nil))))) pa_nil))), ?_⟩
    refine ⟨_, rfl, n, rfl, ⟨_, SqL.of hn⟩, fun D hD => dictA_it (f := fun z => .int (sumsZ O Z kvW z)) hn hD hl (fun _ => rfl) (fun _ _ _ h => ⟨_, rfl, h⟩) (fun z hz G Q' s q' => ?_) fun G ts sG eD pD => ⟨D, ts, _, rfl, SqL.of eD, Paired.mono (fun _ _ h => SqT.of h) pD, fun e he => ?_⟩⟩
    · have hoG := s _ _ ho
      have hol : (O.map V.str).length = O.length := List.length_map _
      refine ⟨_, rfl, o, rfl, ⟨_, SqL.of hoG⟩, fun D2 hD2 => ?_⟩
      refine lc_it (walk_list (K := K) (a := o) (xs := O.map V.str)) (fun j G2 => Same G G2 ∧ G2 D2 = some (.lst ((O.take j).map fun y => V.int (netP Z kvW z y)))) ⟨same_upd hD2, upd_same⟩ (fun i G2 _ p => SqL.of (p.1 _ _ hoG)) ?_ ?_
      · rintro j x G3 G4 hj ⟨sm3, hacc3⟩ ⟨rfl, hy3⟩
        obtain ⟨y, hy, hym, rfl⟩ := name_at hy3
        refine ⟨rfl, tyes ?_⟩
        refine ⟨_, rfl, _, rfl, _, rfl, d, Z, kvW, z, y, rfl, sm3 _ _ (s _ _ hd), hst, hM _ hz, hO _ hym, hlz, fun G5 s5 => ?_⟩
        refine ⟨_, s5 _ _ hacc3, ?_, fun b u hb => ?_, ?_⟩
        · rw [List.length_map, List.length_take]
          exact Nat.lt_of_le_of_lt (Nat.le_trans (Nat.min_le_right _ _) hlo) (by decide)
        · rw [upd_ne (ne_of_none hb hD2)]
          exact s5 _ _ (sm3 _ _ hb)
        · rw [upd_same, take_more hy, List.map_append]
          rfl
      · rintro G3 ⟨sm3, hacc3⟩
        rw [hol, List.take_length] at hacc3
        exact ⟨D2, O.map fun y => netP Z kvW z y, rfl, SqL.of (by rw [hacc3, List.map_map]; rfl), q' G3 sm3⟩
    · rw [merge_kvV hnd]
      exact q e _ (sG.free he) upd_same (sG.trans (same_upd he))

end
end RK

namespace RK
open PySem L2
/-! ### whom the sums bar, by the law's own look -/
theorem cut_to {l : List V} {k : Nat} : cutV l none (some (k : Nat)) = l.take k := by
  unfold cutV
  rw [HT.sIx_none, HT.sIx_nat, List.drop_zero, Nat.sub_zero]
  rcases Nat.le_total k l.length with h | h
  · rw [Nat.min_eq_left h]
  · rw [Nat.min_eq_right h, List.take_of_length_le (Nat.le_refl _), List.take_of_length_le h]
theorem cut_from {l : List V} {k : Nat} : cutV l (some (k : Nat)) none = l.drop k := by
  unfold cutV
  rw [HT.sIx_none, HT.sIx_nat]
  rcases Nat.le_total k l.length with h | h
  · rw [Nat.min_eq_left h, List.take_of_length_le (by rw [List.length_drop]; exact Nat.le_refl _)]
  · rw [Nat.min_eq_right h, List.drop_of_length_le h, List.drop_of_length_le (Nat.le_refl _), List.take_nil]
def spWTwo : Sp := fun vs H Q _ => ∃ (d : Addr) (m : Nat) (s : Addr) (M : List Str) (g : Str → Int) (kvT : List (Key × V)), vs = [.ref d, .int (m : Int), .ref s] ∧ H d = some (.dK (kvOf M g)) ∧ H s = some (.dK kvT) ∧ (∀ z ∈ M, valV kvT (Sum.inr z : Key) = some (.int (placeOf kvT z))) ∧ M.Nodup ∧ 0 < M.length ∧ M.length ≤ 1000 ∧ m ≤ 1000 ∧
  ∀ w H', BarAt H' w (joinBar M (kvOf M g) m kvT) → Same H H' → Q w H'
section
variable {P : Program} {w : World} {K : PySem.W.Frag} {mg : Str → Option Value} {base : Heap}
theorem scWTwo : FnScope ["stand", "wide", "sums", "names", "at", "one", "other", "low"] ["stand", "wide", "sums"] (defScope sWTwo) := ⟨rfl, rfl, rfl, by decide +kernel, rfl, by decide +kernel, by decide +kernel⟩
theorem ok_wtwo {f  : Addr} {fd  : FuncData} (F : Fun K "_law_first_two" "_law_first_two" sWTwo f fd) (B : B0 K mg) :
    FnOk P w K mg base CX0 1 f fd ["stand", "wide", "sums"] spWTwo := by
  refine F.ok scWTwo (fun vs H Q E h => ?_) (fun cdv A outer s H vs Q E hr h => ?_)
  · obtain ⟨d, m, s, M, g, kvT, rfl, _⟩ := h
    rfl
  · obtain ⟨d, m, s, M, g, kvT, rfl, hd, hs, hps, hnd, h0, hl, hm, q⟩ := h
    have hu := hu_of hr
    refine ⟨_, pss_cons (ps_set (i := 3) scWTwo.nd rfl (Or.inl rfl) (pe_callTy (call_list_dK rfl) (by rfl) B.list (by decide +kernel) (pa_cons (pv 0) pa_nil)))
      (pss_cons (ps_for PassesOwn.never rfl (pi_enum (by rfl) B.enum (pa_cons (pv 3) pa_nil)) (pg_tup rfl (pgs_cons (pg_name (i := 4) scWTwo.nd rfl (Or.inl rfl)) (pgs_cons (pg_name (i := 5) scWTwo.nd rfl (Or.inl rfl)) pgs_nil)))
        (pss_one (ps_for PassesOwn.never rfl (pi_list (pe_slice sl_list (pv 3) (po_some (pe_op op_add (pv 4) pe_int)) po_none)) (pg_name (i := 6) scWTwo.nd rfl (Or.inl rfl))
        (pss_cons (ps_set (i := 7) scWTwo.nd rfl (Or.inl rfl) (pe_op op_mul (pv 1) (pe_op op_fdivW (pe_callTy call_int1 (by rfl) B.int (by decide +kernel) (pa_cons (pe_op op_sub (pe_dget hu (pv 0) (pv 5) (fun _ _ => rfl)) (pe_dget hu (pv 0) (pv 6) (fun _ _ => rfl))) pa_nil)) (pe_callB call_len_seq (by rfl) B.len PySem.boot_len (pa_cons (pv 3) pa_nil)))))
      (pss_one (ps_if (pt_not (pt_chain op_le op_le (pv 7) (pe_op op_sub (pe_dget hu (pv 2) (pv 5) (fun _ _ => rfl)) (pe_dget hu (pv 2) (pv 6) (fun _ _ => rfl))) (pe_op op_add (pv 7) (pv 1)))) (pss_one (ps_ret (pe_tup (pa_cons (pv 5) (pa_cons (pv 6) pa_nil))))) (pss_nil)))))))
      (pss_one (ps_ret pe_non))), ?_⟩
    have hpl : ∀ z ∈ M, valV (kvOf M g) (Sum.inr z : Key) = some (.int (placeOf (kvOf M g) z)) := fun z hz => by rw [place_kv hz]; exact val_kv hz
    have hkl : (M.map V.str).length = M.length := List.length_map _
    have ml60 : (M.length : Int).natAbs < 2 ^ 60 := Nat.lt_of_le_of_lt (show (M.length : Int).natAbs ≤ 1000 by omega) (by decide)
    have om64 : (-(2 ^ 64) : Int) < (m : Int) ∧ (m : Int) < 2 ^ 64 := ⟨by omega, by omega⟩
    refine ⟨_, rfl, d, _, rfl, hd, fun n hn0 => ?_⟩
    have en0 : (upd H n (.lst ((kvOf M g).map fun kv => kV kv.1))) n = some (.lst (M.map V.str)) := by rw [upd_same, keys_list]
    have sn := same_upd (o := .lst ((kvOf M g).map fun kv => kV kv.1)) hn0
    generalize upd H n (.lst ((kvOf M g).map fun kv => kV kv.1)) = H1 at en0 sn
    refine ⟨_, rfl, n, _, rfl, SqL.of en0, for_it (walk_enum (K := K) (a := n) (xs := M.map V.str)) (fun i σ G => ∃ w4 w5 w6 w7, σ = [some (.ref d), some (.int (m : Int)), some (.ref s), some (.ref n), w4, w5, w6, w7] ∧ Same H1 G ∧ joinBar M (kvOf M g) m kvT = (pairsAhead (M.drop i)).find? fun p => !joinOk M (kvOf M g) m kvT p) ⟨none, none, none, none, rfl, Same.refl H1, rfl⟩ (fun i σ G _ ⟨_, _, _, _, _, b, _⟩ => SqL.of (b _ _ en0)) ?_ ?_⟩
    · rintro i x σ G1 G2 hi ⟨w4, w5, w6, w7, rfl, sG, hfd⟩ ⟨T, x1, y, rfl, hT, rfl, hx1, hy⟩
      cases hx1
      replace hy : (M.map V.str)[i]? = some y := hy
      obtain ⟨z, hz, hzm, rfl⟩ := name_at hy
      have sT := same_upd (o := .tup [.int (i : Nat), V.str z]) hT
      have eT : (upd G1 T (.tup [.int (i : Nat), V.str z])) T = some (.tup [.int (i : Nat), V.str z]) := upd_same
      generalize upd G1 T (.tup [.int (i : Nat), V.str z]) = G2 at sT eT
      have s2 : Same H1 G2 := sG.trans sT
      refine ⟨T, _, rfl, SqT.of eT, rfl, _, _, rfl, _, _, rfl, rfl, ?_⟩
      refine ⟨_, rfl, _, rfl, _, _, rfl, rfl, _, rfl, n, _, rfl, SqL.of (s2 _ _ en0), fun S hS => ?_⟩
      have ecut : cutV (M.map V.str) (some ((i : Int) + 1)) none = (M.drop (i + 1)).map V.str := by
        rw [show ((i : Int) + 1) = ((i + 1 : Nat) : Int) by omega, cut_from, List.map_drop]
      rw [ecut]
      generalize hE : upd G2 S _ = G3
      have sG3 : Same G2 G3 := hE ▸ same_upd hS
      have eS := congrFun hE.symm S
      rw [upd_same] at eS
      clear hE
      have s3 : Same H1 G3 := s2.trans sG3
      rw [drop_at hz] at hfd
      have ep : pairsAhead (z :: M.drop (i + 1)) = (M.drop (i + 1)).map (fun b => (z, b)) ++ pairsAhead (M.drop (i + 1)) := rfl
      rw [ep] at hfd
      refine ⟨S, rfl, ⟨_, SqL.of eS⟩, for_list (xs := (M.drop (i + 1)).map V.str) (fun j σ G => ∃ w6 w7, σ = [some (.ref d), some (.int (m : Int)), some (.ref s), some (.ref n), some (.int (i : Nat)), some (.str z), w6, w7] ∧ Same G3 G ∧ joinBar M (kvOf M g) m kvT = ((((M.drop (i + 1)).drop j).map fun b => (z, b)) ++ pairsAhead (M.drop (i + 1))).find? fun p => !joinOk M (kvOf M g) m kvT p) ⟨w6, w7, rfl, Same.refl G3, hfd⟩ (fun j σ G _ ⟨_, _, _, b, _⟩ => SqL.of (b _ _ eS)) ?_ ?_⟩
      · rintro j x σ G hx ⟨w6', w7', rfl, sG', hfj⟩
        obtain ⟨y, hyj, hym, rfl⟩ := name_at hx
        have hyz : y ∈ M := List.mem_of_mem_drop hym
        rw [drop_at hyj, List.map_cons, List.cons_append, List.find?_cons] at hfj
        have s4 := (sn.trans s3).trans sG'
        have hd4 := s4 _ _ hd
        have hs4 := s4 _ _ hs
        refine ⟨_, rfl, _, rfl, _, rfl, d, _, rfl, hpl z hzm ▸ DGet.k (k := (Sum.inr z : Key)) hd4, _, rfl, _, rfl, d, _, rfl, hpl y hyz ▸ DGet.k (k := (Sum.inr y : Key)) hd4, _, _, rfl, rfl, .inl ⟨_, rfl, ?_⟩⟩
        refine ⟨_, rfl, n, _, rfl, .inl (SqL.of (((s3.trans sG') _ _ en0))), ?_⟩
        rw [hkl]
        refine ⟨_, _, rfl, rfl, wide_div (b := 60) (by omega) ml60 (by decide) (by decide), _, _, rfl, rfl, .inl om64, ?_⟩
        refine ⟨_, rfl, _, rfl, _, rfl, s, _, rfl, hps z hzm ▸ DGet.k (k := (Sum.inr z : Key)) hs4, _, rfl, _, rfl, s, _, rfl, hps y hyz ▸ DGet.k (k := (Sum.inr y : Key)) hs4, _, _, rfl, rfl, _, _, rfl, rfl, _, rfl, ?_⟩
        generalize hS : placeOf kvT z - placeOf kvT y = X
        have em : joinOk M (kvOf M g) m kvT (z, y) = (decide ((m : Int) * ((placeOf (kvOf M g) z - placeOf (kvOf M g) y) / (M.length : Int)) ≤ X) && decide (X ≤ (m : Int) * ((placeOf (kvOf M g) z - placeOf (kvOf M g) y) / (M.length : Int)) + (m : Int))) := by
          unfold joinOk qN
          show (decide (_ ≤ placeOf kvT z - placeOf kvT y) && decide (placeOf kvT z - placeOf kvT y ≤ (m : Int) * (_ + 1))) = _
          rw [hS, Int.mul_add, Int.mul_one]
        have stop : (!joinOk M (kvOf M g) m kvT (z, y)) = true → ∀ U2, G U2 = none → Q (.ref U2) (upd G U2 (.tup [.str z, .str y])) := fun hm U2 hU2 => by
          refine q (.ref U2) _ ?_ (s4.trans (same_upd hU2))
          rw [hm] at hfj
          rw [show joinBar M (kvOf M g) m kvT = some (z, y) from hfj]
          exact ⟨U2, rfl, upd_same⟩
        have go : (!joinOk M (kvOf M g) m kvT (z, y)) = false → joinBar M (kvOf M g) m kvT = ((((M.drop (i + 1)).drop (j + 1)).map fun b => (z, b)) ++ pairsAhead (M.drop (i + 1))).find? fun p => !joinOk M (kvOf M g) m kvT p := fun hm => by
          rw [hm] at hfj
          exact hfj
        refine ite2 (fun h1 => ?_) (fun h1 => ?_)
        · refine ⟨_, rfl, _, rfl, _, _, rfl, rfl, ?_⟩
          by_cases h2 : X ≤ (m : Int) * ((placeOf (kvOf M g) z - placeOf (kvOf M g) y) / (M.length : Int)) + (m : Int)
          · refine ⟨_, _, rfl, rfl, true, congrArg V.bl (decide_eq_true (by rw [hS]; exact h2)), iteF ?_⟩
            exact ⟨_, _, rfl, sG', go (by rw [em, show decide _ = true from h1, decide_eq_true h2]; rfl)⟩
          · refine ⟨_, _, rfl, rfl, false, congrArg V.bl (decide_eq_false (by rw [hS]; exact h2)), iteT ?_⟩
            exact ⟨_, rfl, _, rfl, by show 2 ≤ sizeLine; decide, stop (by rw [em, decide_eq_false h2, Bool.and_false]; rfl)⟩
        · have h1' : decide ((m : Int) * ((placeOf (kvOf M g) z - placeOf (kvOf M g) y) / (M.length : Int)) ≤ X) = false := Bool.eq_false_iff.mpr h1
          refine ⟨_, rfl, ?_⟩
          exact iteT ⟨_, rfl, _, rfl, by show 2 ≤ sizeLine; decide, stop (by rw [em, h1', Bool.false_and]; rfl)⟩
      · rintro σ G ⟨w6', w7', rfl, sG', hfj⟩
        rw [List.length_map, List.drop_length, List.map_nil, List.nil_append] at hfj
        exact ⟨_, _, _, _, rfl, s3.trans sG', hfj⟩
    · rintro σ G ⟨w4, w5, w6, w7, rfl, sG, hfd⟩
      rw [hkl, List.drop_length] at hfd
      refine q .non G ?_ (sn.trans sG)
      rw [hfd]
      exact rfl
end
end RK

/-! != of two dicts of flat values, alike or not -/
namespace L2
open PySem PySem.Spec PyProof.Rows
def hitF (ls : List (Key × V)) (p : Key × V) : Bool := match valV ls p.1 with
  | some q => eqV p.2 q
  | none => false
theorem hits_flat {A : Around} {s : Shared} {ls : List (Key × V)} {vb : List (Key × Value)} (rb : KV ls vb) (fl : ∀ k q, valV ls k = some q → flatV q = true) : ∀ {ks : List (Key × V)} {va : List (Key × Value)}, KV ks va → (∀ p ∈ ks, flatV p.2 = true) → PySem.W.KeqHits A s vb va (ks.all (hitF ls))
  | [], _, .nil, _ => .nil
  | p :: ks, (k, v) :: va, .cons ⟨h1, h2⟩ t, fk => by
    have ek : p.1 = k := h1
    have rest := hits_flat (A := A) (s := s) rb fl (ks := ks) (va := va) t fun q hq => fk q (List.mem_cons_of_mem _ hq)
    rw [List.all_cons]
    unfold hitF
    cases hv : valV ls p.1 with
    | none =>
      have rv := rb.val p.1
      rw [hv] at rv
      have hn : valueAt vb k = none := by
        rw [← ek]
        cases q : valueAt vb p.1 with
        | none => rfl
        | some y => rw [q] at rv; exact False.elim rv
      exact .miss hn
    | some q =>
      obtain ⟨y, hy, ry⟩ := RelO.some_of (v := q) (o := valueAt vb p.1) (by rw [← hv]; exact rb.val p.1)
      rw [ek] at hy
      exact .hit hy (eqAt_V h2 ry (fk p List.mem_cons_self) (fl _ _ hv)) rest
section
variable {X : Cx}
def rNeDF : R2 := fun x y H Q => ∃ a b ks ls, x = .ref a ∧ y = .ref b ∧ H a = some (.dK ks) ∧ H b = some (.dK ls) ∧ (∀ p ∈ ks, flatV p.2 = true) ∧ (∀ k q, valV ls k = some q → flatV q = true) ∧ Q (.bl (!(ks.length == ls.length && ks.all (hitF ls)))) H
theorem op_neDF (hu : X.A.units < cLine) : OpR X (compareOp .NotEq) rNeDF := by
  intro pins s σ H x y v u Q I rx ry h
  obtain ⟨a, b, ks, ls, ex, ey, ea, eb, fk, fl, q⟩ := h
  subst ex
  subst ey
  cases rx
  cases ry
  obtain ⟨_, na, va, ra, da⟩ := dk_of I.hok ea
  obtain ⟨_, nb, vb, rb, db⟩ := dk_of I.hok eb
  refine PySem.W.keq_ne (knd := mixKind X.prog X.w) na nb da db hu (fun _ => hits_flat rb fl ra fk) (fin_bl I q ?_)
  rw [← ra.length, ← rb.length]
end
end L2

/-! != of two lists of dicts that are alike -/
namespace PySem.SeqAt
open AutoSeq1 (wpAny_loadPart')
open MeetsSeq MeetsSeq2 MeetsSeq3 SeqRoads2
section
variable {prog : Program} {w : World}
theorem neLoopIn (l b : Addr) (items items2 : Array Value) (n n2 : Nat) (dd dd2 : Option Addr) (sl sl2 : Array (Option Value)) (hsz : items.size = items2.size) (e : Nat → Bool) (k : Nat) :
    ∀ i : Nat, items.size - i = k → MeetsIn prog w (Builtin.«list.__eq__.loop» ⟨[.ref l, .ref b, rawInt i, rawInt 3], []⟩)
      (fun A R s => s.heap.get? l = some { cls := .type "list", dict := dd, data := .seq items n, slots := sl } ∧ s.heap.get? b = some { cls := .type "list", dict := dd2, data := .seq items2 n2, slots := sl2 } ∧
        (∀ j (h1 : j < items.size) (h2 : j < items2.size), EqP prog w A.in1 s items[j] items2[j] (e j)) ∧
        R (.ok (.ret (.bool (!((List.range items.size).drop i).all e)))) s) := by
  induction k with
  | zero =>
    intro i hk A R s h
    obtain ⟨hp, g, d, tk, os⟩ := s; obtain ⟨hl, hb, he, h⟩ := h
    wp_walk using wpAny_loadPart' hl, wpAny_loadPart' hb
    have hi1 : items[((i : Nat) : Int).toNat]? = none := by simp; omega
    have hi2 : items2[((i : Nat) : Int).toNat]? = none := by simp; omega
    have hd : (List.range items.size).drop i = [] := by simp; omega
    rw [hd] at h
    rw [hi1, hi2]
    wp_walk using wpAny_loadPart' hl, wpAny_loadPart' hb
    show R (.ok (.ret (.bool (items.size != items2.size)))) _
    rw [hsz]
    simpa using h
  | succ k ih =>
    intro i hk A R s h
    obtain ⟨hp, g, d, tk, os⟩ := s; obtain ⟨hl, hb, he, h⟩ := h
    wp_walk using wpAny_loadPart' hl, wpAny_loadPart' hb
    have hlt : i < items.size := by omega
    have hlt2 : i < items2.size := by omega
    have hi1 : items[((i : Nat) : Int).toNat]? = some items[i] := by simp [hlt]
    have hi2 : items2[((i : Nat) : Int).toNat]? = some items2[i] := by simp [hlt2]
    have hd : (List.range items.size).drop i = i :: (List.range items.size).drop (i + 1) := by simp [List.drop_eq_getElem_cons, hlt]
    have hc : ((i : Int) + 1) = ((i + 1 : Nat) : Int) := by push_cast; rfl
    rw [hd, List.all_cons] at h
    rw [hi1, hi2]
    refine wpAny_bind (he i hlt hlt2 _ _ ?_)
    cases hb' : e i with
    | true =>
      rw [hb'] at h
      wp_walk
      rw [hc]
      exact ⟨plainId_quiet plain_eq_loop _, codeAny_builtin entry_eq_loop (by
        rw [Around.under_plainId plain_eq_loop _]
        exact ih (i + 1) (by omega) A R _ ⟨hl, hb, he, by simpa using h⟩)⟩
    | false =>
      rw [hb'] at h
      wp_walk using wpAny_loadPart' hl, wpAny_loadPart' hb
      rw [hi1, hi2]
      wp_walk
      simpa using h

theorem listNeIn (l b : Addr) (items items2 : Array Value) (n n2 : Nat) (dd dd2 : Option Addr) (sl sl2 : Array (Option Value)) (hsz : items.size = items2.size) (e : Nat → Bool) :
    MeetsIn prog w (Builtin.«list.__ne__» ⟨[.ref l, .ref b], []⟩)
      (fun A R s => s.heap.get? l = some { cls := .type "list", dict := dd, data := .seq items n, slots := sl } ∧ s.heap.get? b = some { cls := .type "list", dict := dd2, data := .seq items2 n2, slots := sl2 } ∧
        (∀ j (h1 : j < items.size) (h2 : j < items2.size), EqP prog w A.in1 s items[j] items2[j] (e j)) ∧
        R (.ok (.ret (.bool (!(List.range items.size).all e)))) s) := by
  intro A R s h
  obtain ⟨hp, g, d, tk, os⟩ := s; obtain ⟨hl, hb, he, h⟩ := h
  have f3 := AutoSeq1.sub_list_list
  have hne : ¬ (items.size != items2.size) = true := by simp [hsz]
  wp_walk using wpAny_loadPart' hl, wpAny_loadPart' hb
  exact ⟨plainId_quiet plain_eq_loop _, codeAny_builtin entry_eq_loop (by
    rw [Around.under_plainId plain_eq_loop _]
    exact neLoopIn l b items items2 n n2 dd dd2 sl sl2 hsz e _ 0 rfl A R _ ⟨hl, hb, he, by simpa using h⟩)⟩


theorem rcNeLists {A : Around} {s : Shared} {l b : Addr} {items items2 : Array Value} {e : Nat → Bool} (hl : s.heap.IsList l items) (hb : s.heap.IsList b items2) (hsz : items.size = items2.size) (hu : A.units < cLine)
    (he : ∀ j (h1 : j < items.size) (h2 : j < items2.size), EqP prog w A.in1 s items[j] items2[j] (e j)) (E Q : Value → Shared → Prop) (h : Q (.bool (!(List.range items.size).all e)) s) : wpAny (model prog w) A (richCompare .NotEq (.ref l) (.ref b)) Q E s := by
  obtain ⟨⟨cls, dd, data, sl⟩, ho, hc, n, hd⟩ := id hl
  obtain ⟨⟨cls2, dd2, data2, sl2⟩, ho2, hc2, n2, hd2⟩ := id hb
  simp only at hc hd hc2 hd2
  subst hc hd hc2 hd2
  have ta : s.TypeIs (.ref l) "list" := ⟨_, ho, rfl⟩
  have tb : s.TypeIs (.ref b) "list" := ⟨_, ho2, rfl⟩
  exact wpAny_richCompare_same_room (op := .NotEq) ta tb F.slot_list_ne (call_meetsIn F.slot_list_ne ta F.entry_list_ne (F.args_list_ne_2 _ _) (listNeIn l b items items2 n n2 dd dd2 sl sl2 hsz e)
    ⟨ho, ho2, he, show Value.bool (!(List.range items.size).all e) ≠ Value.notImplemented ∧ Q (.bool (!(List.range items.size).all e)) s from ⟨(fun x => nomatch x), h⟩⟩) hu
end
end PySem.SeqAt
namespace L2
open PySem PySem.Spec PyProof.Rows
theorem hits_p {prog : Program} {w : World} {A : Around} {s : Shared} {kb : List (Key × Value)} : ∀ {ka : List (Key × Value)} {b : Bool}, PySem.W.KeqHits A s kb ka b → PySem.W.KeqHitsP prog w A s kb ka b
  | _, _, .nil => .nil
  | _, _, .miss h => .miss h
  | _, _, .hit h e r => .hit h e.eqP (hits_p r)
/-- two dicts of flat values, alike, at two addresses -/
def AlikeD (H : Hp) (a b : Addr) : Prop := a ≠ b ∧ ∃ ks ls, H a = some (.dK ks) ∧ H b = some (.dK ls) ∧ (∀ p ∈ ks, flatV p.2 = true) ∧ (∀ k q, valV ls k = some q → flatV q = true) ∧ (ks.length == ls.length && ks.all (hitF ls)) = true
def rNeLD : R2 := fun x y H Q => ∃ (l b : Addr) (ds es : List Addr), x = .ref l ∧ y = .ref b ∧ H l = some (.lst (ds.map V.ref)) ∧ H b = some (.lst (es.map V.ref)) ∧ Paired (AlikeD H) ds es ∧ Q (.bl false) H
section
variable {X : Cx}
theorem vals_get {xs : List V} {us : List Value} (h : Vals xs us) : ∀ {j : Nat} {x : V} {u : Value}, xs[j]? = some x → us[j]? = some u → RelV x u := by
  induction h with
  | nil => intro j x u e; simp at e
  | cons r _ ih =>
    intro j x u e1 e2
    cases j with
    | zero =>
      simp only [List.getElem?_cons_zero, Option.some.injEq] at e1 e2
      subst e1 e2
      exact r
    | succ j =>
      simp only [List.getElem?_cons_succ] at e1 e2
      exact ih e1 e2
theorem paired_ix {α β : Type} {R : α → β → Prop} : ∀ {l : List α} {m : List β}, Paired R l m → ∀ {j : Nat} {a : α} {b : β}, l[j]? = some a → m[j]? = some b → R a b
  | _, _, .nil, j, a, b, h, _ => by simp at h
  | _, _, .cons r t, 0, a, b, h1, h2 => by
    simp only [List.getElem?_cons_zero, Option.some.injEq] at h1 h2
    subst h1 h2
    exact r
  | _, _, .cons r t, j + 1, a, b, h1, h2 => by
    simp only [List.getElem?_cons_succ] at h1 h2
    exact paired_ix t h1 h2
theorem op_neLD (hu : X.A.units + 1 < cLine) : OpR X (compareOp .NotEq) rNeLD := by
  intro pins s σ H x y v u Q I rx ry h
  obtain ⟨l, b, ds, es, ex, ey, hl, hb, pr, q⟩ := h
  subst ex ey
  cases rx
  cases ry
  obtain ⟨its, rv, pl, _⟩ := I.list (SqL.of hl)
  obtain ⟨its2, rv2, pl2, _⟩ := I.list (SqL.of hb)
  have len : ds.length = es.length := Paired.length pr
  have l1 : its.length = ds.length := by rw [← rv.length, List.length_map]
  have l2 : its2.length = es.length := by rw [← rv2.length, List.length_map]
  have isl : s.heap.IsList l its.toArray := by
    obtain ⟨o, m, e, c, dd, qq⟩ := pl
    exact ⟨o, e, c, m, qq⟩
  have isl2 : s.heap.IsList b its2.toArray := by
    obtain ⟨o, m, e, c, dd, qq⟩ := pl2
    exact ⟨o, e, c, m, qq⟩
  have hsz : its.toArray.size = its2.toArray.size := by simp only [List.size_toArray]; omega
  refine SeqAt.rcNeLists isl isl2 hsz (by omega) (e := fun _ => true) (fun j h1 h2 => ?_) _ _ (fin_bl I q ?_)
  · simp only [List.size_toArray] at h1 h2
    simp only [List.getElem_toArray]
    have g1 : its[j]? = some its[j] := List.getElem?_eq_getElem h1
    have g2 : its2[j]? = some its2[j] := List.getElem?_eq_getElem h2
    have hjd : j < ds.length := by omega
    have hje : j < es.length := by omega
    have r1 := vals_get rv (j := j) (x := .ref ds[j]) (by rw [List.getElem?_map, List.getElem?_eq_getElem hjd]; rfl) g1
    have r2 := vals_get rv2 (j := j) (x := .ref es[j]) (by rw [List.getElem?_map, List.getElem?_eq_getElem hje]; rfl) g2
    have e1 : its[j] = Value.ref ds[j] := r1
    have e2 : its2[j] = Value.ref es[j] := r2
    rw [e1, e2]
    obtain ⟨ne, ks, ls, ea, eb, fk, fl, all⟩ := paired_ix pr (List.getElem?_eq_getElem hjd) (List.getElem?_eq_getElem hje)
    obtain ⟨_, na, va, ra, da⟩ := dk_of I.hok ea
    obtain ⟨_, nb, vb, rb, db⟩ := dk_of I.hok eb
    refine SeqAt.eqP_refs ne fun E' Q' hq => PySem.W.rcP_dicts (knd := mixKind X.prog X.w) na nb da db (show X.A.units + 1 < cLine from hu) (fun _ => hits_p (hits_flat rb fl ra fk)) E' Q' ?_
    rw [← ra.length, ← rb.length, all]
    exact hq
  · simp
end
end L2

/-! repr of a list of data at any depth and a dict of integers -/
namespace L2
open PySem PySem.Spec PyProof.Rows
mutual
theorem reads_lists {h : Heap} : ∀ (d : PyData) (u : Value) (as : List Addr), Reads h u d as → d.hasDict = false → ∀ b ∈ as, ∃ o vs n, h.get? b = some o ∧ o.data = .seq vs n
  | .none, _, _, r, _ => by cases r; exact fun _ z => nomatch z
  | .bool _, _, _, r, _ => by cases r; exact fun _ z => nomatch z
  | .int _, _, _, r, _ => by cases r; exact fun _ z => nomatch z
  | .str _, _, _, r, _ => by cases r; exact fun _ z => nomatch z
  | .list ds, _, _, r, e => by
    cases r with
    | list h1 _ h3 h4 =>
      intro b hb
      rcases List.mem_cons.mp hb with q | q
      · subst q
        exact ⟨_, _, _, h1, h3⟩
      · exact reads_listsA ds _ _ h4 (by simpa only [PyData.hasDict] using e) b q
  | .tuple ds, _, _, r, e => by
    cases r with
    | tuple h1 _ h3 h4 => exact reads_listsA ds _ _ h4 (by simpa only [PyData.hasDict] using e)
  | .dict _, _, _, _, e => by simp only [PyData.hasDict] at e; cases e
theorem reads_listsA {h : Heap} : ∀ (ds : List PyData) (us : List Value) (as : List Addr), ReadsAll h us ds as → PyData.hasDictAll ds = false → ∀ b ∈ as, ∃ o vs n, h.get? b = some o ∧ o.data = .seq vs n
  | [], _, _, r, _ => by cases r; exact fun _ z => nomatch z
  | d :: ds, _, _, r, e => by
    cases r with
    | cons h1 h2 =>
      simp only [PyData.hasDictAll, Bool.or_eq_false_iff] at e
      intro b hb
      rcases List.mem_append.mp hb with q | q
      · exact reads_lists d _ _ h1 e.1 b q
      · exact reads_listsA ds _ _ h2 e.2 b q
end
mutual
theorem Dp.noDict {K : PySem.W.Frag} {H : Hp} : ∀ (d : PyData) (v : V), Dp K H v d → d.hasDict = false
  | .none, _, _ => by simp only [PyData.hasDict]
  | .bool _, _, _ => by simp only [PyData.hasDict]
  | .int _, _, _ => by simp only [PyData.hasDict]
  | .str _, _, _ => by simp only [PyData.hasDict]
  | .list ds, _, h => by
    cases h with
    | lst _ ha => simp only [PyData.hasDict]; exact DpAll.noDict ds _ ha
  | .tuple ds, _, h => by
    cases h with
    | tup _ ha => simp only [PyData.hasDict]; exact DpAll.noDict ds _ ha
  | .dict _, _, h => by cases h
theorem DpAll.noDict {K : PySem.W.Frag} {H : Hp} : ∀ (ds : List PyData) (vs : List V), DpAll K H vs ds → PyData.hasDictAll ds = false
  | [], _, _ => by simp only [PyData.hasDictAll]
  | d :: ds, _, h => by
    cases h with
    | cons h1 h2 => simp only [PyData.hasDictAll, Dp.noDict d _ h1, DpAll.noDict ds _ h2, Bool.or_false]
end
def rReprN (K : PySem.W.Frag) : List V → Hp → VK → Prop := fun xs H Q => ∃ (l d : Addr) (x : V) (D : PyData) (kvs : List (Key × V)), xs = [.ref l] ∧ H l = some (.lst [x, .ref d]) ∧ Dp K H x D ∧ H d = some (.dK kvs) ∧ (∀ kv ∈ kvs, ∃ i : Int, kv.2 = .int i) ∧
  (PyData.list [D, dictD kvs]).showable = true ∧ (PyData.list [D, dictD kvs]).shown.length ≤ sizeLine ∧ D.depth ≤ 20 ∧ Q (.str (PyData.list [D, dictD kvs]).shown) H
theorem call_reprN {X : Cx} (quiet : X.A.guards = some []) (hu : X.A.units + 60 < cLine) (mods : ∃ mm, X.base.Ns sysModules mm) : CallR X (.builtin "repr") (rReprN X.K) := by
  intro pins s σ H xs us Q I r h
  obtain ⟨l, d, x, D, kvs, rfl, hl, hD, hd, hint, hshow, hsize, hdep, q⟩ := h
  cases r with
  | cons r1 r2 =>
    cases r2
    cases r1
    obtain ⟨its, rv, ⟨o, n, ho, hc, _, hdat⟩, _⟩ := I.list (SqL.of hl)
    obtain ⟨hlen, hsys, vs, kv, od, es, ep, hod, hex, hdd, hkeys, hpairs, hnd⟩ := I.hok d _ hd
    obtain ⟨k1, k2⟩ := pairs_read (h := s.heap) hpairs kv hint
    have rd : Reads s.heap (.ref d) (dictD kvs) (d :: [] ++ []) := Reads.dict hod hex.1 hdd k1 k2
    cases rv with
    | cons r1 r2 =>
      cases r2 with
      | cons r3 r4 =>
        cases r4
        cases r3
        obtain ⟨as, ra⟩ := Dp.reads I D x _ hD r1
        have all : ReadsAll s.heap [_, .ref d] [D, dictD kvs] (as ++ ((d :: [] ++ []) ++ [])) := .cons ra (.cons rd .nil)
        have whole : Reads s.heap (.ref l) (.list [D, dictD kvs]) (l :: (as ++ ((d :: [] ++ []) ++ []))) := Reads.list ho hc hdat all
        obtain ⟨mm, om, esm, epm, hom, hdm, _⟩ := mods
        have hms : s.heap.get? sysModules = some om := I.bk _ _ hom
        have dep : (PyData.list [D, dictD kvs]).depth ≤ 22 := by
          simp only [PyData.depth, PyData.depthAll, depth_dict]
          omega
        refine repr_of_reads' whole hshow (fun _ hm => ?_) quiet (by omega) (fun _ _ e => e) (fun h' u tk hk => ⟨.str (PyData.list [D, dictD kvs]).shown, H, I.kept fun b o e => hk b o e, ⟨u, rfl⟩, q⟩) hsize
        rcases List.mem_cons.mp hm with e | e
        · rw [← e, hms] at ho
          cases ho
          rw [hdm] at hdat
          cases hdat
        · rcases List.mem_append.mp e with e | e
          · obtain ⟨o2, vs2, n2, h2, h3⟩ := reads_lists D _ _ ra (Dp.noDict D x hD) _ e
            rw [hms] at h2
            cases h2
            rw [hdm] at h3
            cases h3
          · have e2 : sysModules = d := by simpa using e
            rw [e2] at hsys
            simp at hsys
end L2

/-! repr of a list of a dict of integers and data at any depth (KXv with the dict first) -/
namespace L2
open PySem PySem.Spec PyProof.Rows
def rReprM (K : PySem.W.Frag) : List V → Hp → VK → Prop := fun xs H Q => ∃ (l d : Addr) (x : V) (D : PyData) (kvs : List (Key × V)), xs = [.ref l] ∧ H l = some (.lst [.ref d, x]) ∧ Dp K H x D ∧ H d = some (.dK kvs) ∧ (∀ kv ∈ kvs, ∃ i : Int, kv.2 = .int i) ∧
  (PyData.list [dictD kvs, D]).showable = true ∧ (PyData.list [dictD kvs, D]).shown.length ≤ sizeLine ∧ D.depth ≤ 20 ∧ Q (.str (PyData.list [dictD kvs, D]).shown) H
theorem call_reprM {X : Cx} (quiet : X.A.guards = some []) (hu : X.A.units + 60 < cLine) (mods : ∃ mm, X.base.Ns sysModules mm) : CallR X (.builtin "repr") (rReprM X.K) := by
  intro pins s σ H xs us Q I r h
  obtain ⟨l, d, x, D, kvs, rfl, hl, hD, hd, hint, hshow, hsize, hdep, q⟩ := h
  cases r with
  | cons r1 r2 =>
    cases r2
    cases r1
    obtain ⟨its, rv, ⟨o, n, ho, hc, _, hdat⟩, _⟩ := I.list (SqL.of hl)
    obtain ⟨hlen, hsys, vs, kv, od, es, ep, hod, hex, hdd, hkeys, hpairs, hnd⟩ := I.hok d _ hd
    obtain ⟨k1, k2⟩ := pairs_read (h := s.heap) hpairs kv hint
    have rd : Reads s.heap (.ref d) (dictD kvs) (d :: [] ++ []) := Reads.dict hod hex.1 hdd k1 k2
    cases rv with
    | cons r1 r2 =>
      cases r2 with
      | cons r3 r4 =>
        cases r4
        cases r1
        obtain ⟨as, ra⟩ := Dp.reads I D x _ hD r3
        have all : ReadsAll s.heap [.ref d, _] [dictD kvs, D] ((d :: [] ++ []) ++ (as ++ [])) := .cons rd (.cons ra .nil)
        have whole : Reads s.heap (.ref l) (.list [dictD kvs, D]) (l :: ((d :: [] ++ []) ++ (as ++ []))) := Reads.list ho hc hdat all
        obtain ⟨mm, om, esm, epm, hom, hdm, _⟩ := mods
        have hms : s.heap.get? sysModules = some om := I.bk _ _ hom
        have dep : (PyData.list [dictD kvs, D]).depth ≤ 22 := by
          simp only [PyData.depth, PyData.depthAll, depth_dict]
          omega
        refine repr_of_reads' whole hshow (fun _ hm => ?_) quiet (by omega) (fun _ _ e => e) (fun h' u tk hk => ⟨.str (PyData.list [dictD kvs, D]).shown, H, I.kept fun b o e => hk b o e, ⟨u, rfl⟩, q⟩) hsize
        rcases List.mem_cons.mp hm with e | e
        · rw [← e, hms] at ho
          cases ho
          rw [hdm] at hdat
          cases hdat
        · rcases List.mem_append.mp e with e | e
          · have e2 : sysModules = d := by simpa using e
            rw [e2] at hsys
            simp at hsys
          · rw [List.append_nil] at e
            obtain ⟨o2, vs2, n2, h2, h3⟩ := reads_lists D _ _ ra (Dp.noDict D x hD) _ e
            rw [hms] at h2
            cases h2
            rw [hdm] at h3
            cases h3
end L2

/-! repr of a list of dicts of integers, however many -/
namespace L2
open PySem PySem.Spec PyProof.Rows
def rReprL (K : PySem.W.Frag) : List V → Hp → VK → Prop := fun xs H Q => ∃ (l : Addr) (ds : List Addr) (ks : List (List (Key × V))), xs = [.ref l] ∧ H l = some (.lst (ds.map V.ref)) ∧ Paired (fun (d : Addr) (kvs : List (Key × V)) => H d = some (.dK kvs) ∧ ∀ kv ∈ kvs, ∃ i : Int, kv.2 = .int i) ds ks ∧
  (PyData.list (ks.map dictD)).showable = true ∧ (PyData.list (ks.map dictD)).shown.length ≤ sizeLine ∧ Q (.str (PyData.list (ks.map dictD)).shown) H
theorem reads_dicts {X : Cx} {pins : List (Addr × Obj)} {σ : St} {H : Hp} {s : Shared} (I : Inv X pins σ H s) : ∀ {ds : List Addr} {ks : List (List (Key × V))} {us : List Value}, Paired (fun (d : Addr) (kvs : List (Key × V)) => H d = some (.dK kvs) ∧ ∀ kv ∈ kvs, ∃ i : Int, kv.2 = .int i) ds ks → Vals (ds.map V.ref) us →
    ∃ as : List Addr, ReadsAll s.heap us (ks.map dictD) as ∧ ∀ a ∈ as, (a == sysModules) = false
  | _, _, _, .nil, .nil => ⟨[], .nil, fun _ h => nomatch h⟩
  | _, _, _, .cons (a := d) (b := kvs) h t, .cons r r2 => by
    obtain ⟨as, ih, hs⟩ := reads_dicts I t r2
    cases r
    obtain ⟨hd, hint⟩ := h
    obtain ⟨hlen, hsys, vs, kv, od, es, ep, hod, hex, hdd, hkeys, hpairs, hnd⟩ := I.hok d _ hd
    obtain ⟨k1, k2⟩ := pairs_read (h := s.heap) hpairs kv hint
    have rd : Reads s.heap (.ref d) (dictD kvs) (d :: [] ++ []) := Reads.dict hod hex.1 hdd k1 k2
    refine ⟨(d :: [] ++ []) ++ as, .cons rd ih, fun a ha => ?_⟩
    rcases List.mem_append.mp ha with e | e
    · have e2 : a = d := by simpa using e
      rw [e2]; exact hsys
    · exact hs a e
theorem depth_dicts : ∀ ks : List (List (Key × V)), PyData.depthAll (ks.map dictD) ≤ 2
  | [] => by simp [PyData.depthAll]
  | k :: r => by
    have ih := depth_dicts r
    simp only [List.map_cons, PyData.depthAll, depth_dict]
    omega
theorem call_reprL {X : Cx} (quiet : X.A.guards = some []) (hu : X.A.units + 60 < cLine) (mods : ∃ mm, X.base.Ns sysModules mm) : CallR X (.builtin "repr") (rReprL X.K) := by
  intro pins s σ H xs us Q I r h
  obtain ⟨l, ds, ks, rfl, hl, pr, hshow, hsize, q⟩ := h
  cases r with
  | cons r1 r2 =>
    cases r2
    cases r1
    obtain ⟨its, rv, ⟨o, n, ho, hc, _, hdat⟩, _⟩ := I.list (SqL.of hl)
    obtain ⟨as, all, hsys⟩ := reads_dicts I pr rv
    have whole : Reads s.heap (.ref l) (.list (ks.map dictD)) (l :: as) := Reads.list ho hc hdat all
    obtain ⟨mm, om, esm, epm, hom, hdm, _⟩ := mods
    have hms : s.heap.get? sysModules = some om := I.bk _ _ hom
    have dep : (PyData.list (ks.map dictD)).depth ≤ 22 := by
      have := depth_dicts ks
      simp only [PyData.depth]
      omega
    refine repr_of_reads' whole hshow (fun _ hm => ?_) quiet (by omega) (fun _ _ e => e) (fun h' u tk hk => ⟨.str (PyData.list (ks.map dictD)).shown, H, I.kept fun b o e => hk b o e, ⟨u, rfl⟩, q⟩) hsize
    rcases List.mem_cons.mp hm with e | e
    · rw [← e, hms] at ho
      cases ho
      rw [hdm] at hdat
      cases hdat
    · have := hsys _ e
      simp at this
end L2

namespace RK
open PySem L2
/-! ### short texts; how great; alike -/
theorem pool_short : ∀ z ∈ pool, z.length ≤ 40 ∧ ∀ c ∈ z.cps.toList, c < 16 ^ 8 := by decide +kernel
theorem view_text {os : List Str} {g : Str → Int} (hz : ∀ z ∈ os, z ∈ pool) (hl : os.length ≤ 20) (hb : ∀ z ∈ os, (g z).natAbs < 2 ^ 400) :
    (∀ kv ∈ kvOf os g, ∃ i : Int, kv.2 = .int i) ∧ (dictD (kvOf os g)).showable = true ∧ (dictD (kvOf os g)).shown.length ≤ 30000 := by
  have hk : ∀ kv ∈ kvOf os g, ∃ z, z ∈ os ∧ kv = ((Sum.inr z : Key), V.int (g z)) := fun kv hm => by
    obtain ⟨y, hy, e⟩ := List.mem_map.mp hm
    exact ⟨y, hy, e.symm⟩
  refine ⟨fun kv hm => ?_, ?_, ?_⟩
  · obtain ⟨z, _, rfl⟩ := hk kv hm
    exact ⟨_, rfl⟩
  · unfold dictD
    rw [PyData.showable]
    refine show_kv fun kv hm => ?_
    obtain ⟨z, h, rfl⟩ := hk kv hm
    exact ⟨show_str, show_int (hb z h)⟩
  · unfold dictD
    rw [PyData.shown, shownKv_eq2]
    refine Nat.le_trans (dictText_le (B := 1002) fun t ht => ?_) ?_
    · obtain ⟨kv, hkv, rfl⟩ := List.mem_map.mp ht
      obtain ⟨z, h, rfl⟩ := hk kv hkv
      obtain ⟨h1, h2⟩ := pool_short z (hz z h)
      have q1 := str_short h1 h2
      have q2 := int_short (hb z h)
      rw [strLen_append, strLen_append]
      have : (": " : Str).length = 2 := rfl
      show (PyData.str z).shown.length + 2 + (PyData.int _).shown.length ≤ 1002
      omega
    · rw [List.length_map]
      have : (kvOf os g).length = os.length := List.length_map _
      omega
theorem three_text {A B C : PyData} (h1 : A.showable = true) (h2 : B.showable = true) (h3 : C.showable = true) (l1 : A.shown.length ≤ 30000) (l2 : B.shown.length ≤ 30000) (l3 : C.shown.length ≤ 30000) : (PyData.list [A, B, C]).showable = true ∧ (PyData.list [A, B, C]).shown.length ≤ sizeLine := by
  refine ⟨by simp only [PyData.showable, PyData.showableAll, h1, h2, h3, Bool.and_self], ?_⟩
  have h := listText_len_le [A.shown, B.shown, C.shown]
  simp only [PyData.shown, PyData.shownAll]
  simp only [List.map_cons, List.map_nil, List.sum_cons, List.sum_nil, List.length_cons, List.length_nil] at h
  have : sizeLine = 16777216 := rfl
  omega
theorem net_parts {zs : List Str} {kvs : List (Key × V)} {a b : Str} (ha : a ∈ zs) (hb : b ∈ zs) : netP zs kvs a b = qN zs kvs a b - if zs.idxOf a < zs.idxOf b then -1 else 0 := by
  unfold netP
  rw [div_small (List.idxOf_lt_length_of_mem ha) (List.idxOf_lt_length_of_mem hb)]
theorem sum_abs {f : Str → Int} {B : Nat} : ∀ {l : List Str}, (∀ z ∈ l, (f z).natAbs ≤ B) → (l.map f).sum.natAbs ≤ l.length * B
  | [], _ => by simp
  | z :: r, h => by
    have ih := sum_abs (l := r) fun y hy => h y (List.mem_cons_of_mem _ hy)
    have h1 := h z List.mem_cons_self
    rw [List.map_cons, List.sum_cons, List.length_cons, Nat.add_mul, Nat.one_mul]
    omega
theorem div_abs {a n : Int} : (a / n).natAbs ≤ a.natAbs := Int.natAbs_ediv_le_natAbs a n
theorem net_abs {zs : List Str} {kvs : List (Key × V)} {x y : Str} (hb : ∀ z ∈ zs, (placeOf kvs z).natAbs < 2 ^ 100) (hx : x ∈ zs) (hy : y ∈ zs) : (netP zs kvs x y).natAbs ≤ 2 ^ 102 := by
  have h1 := hb x hx
  have h2 := hb y hy
  rw [net_parts hx hy]
  unfold qN
  have h3 := div_abs (a := placeOf kvs x - placeOf kvs y) (n := (zs.length : Int))
  have e : (2 : Nat) ^ 102 = 4 * 2 ^ 100 := by decide
  have e0 : 2 ≤ (2 : Nat) ^ 100 := by decide
  generalize (2 : Nat) ^ 100 = N at *
  rw [e]
  split <;> omega
theorem placed_abs {zs : List Str} {g : Str × Str → Int} {B : Nat} (hl : zs.length ≤ 20) {x : Str} (hx : x ∈ zs) (h : ∀ y ∈ zs, (g (x, y)).natAbs ≤ B) : (placedG zs g x).natAbs ≤ 20 + 20 * B := by
  unfold placedG
  have i1 := List.idxOf_lt_length_of_mem hx
  have h1 := sum_abs (f := fun y => g (x, y)) (B := B) (l := zs.filter fun y => decide (y ≠ x)) fun y hy => h y (List.mem_filter.mp hy).1
  have h2 : (zs.filter fun y => decide (y ≠ x)).length ≤ 20 := Nat.le_trans (List.length_filter_le _ _) hl
  have h3 : (zs.filter fun y => decide (y ≠ x)).length * B ≤ 20 * B := Nat.mul_le_mul_right B h2
  omega
theorem find_same {α : Type} {p q : α → Bool} : ∀ {l : List α}, (∀ x ∈ l, p x = q x) → l.find? p = l.find? q
  | [], _ => rfl
  | x :: r, h => by rw [List.find?_cons, List.find?_cons, h x List.mem_cons_self, find_same fun y hy => h y (List.mem_cons_of_mem _ hy)]
section
variable {M O : List Str} {kvM kvM' kvO kvO' kvT kvT' : List (Key × V)}
theorem bar_same {m : Nat} (nd : M.Nodup) (h1 : ∀ z ∈ M, placeOf kvM z = placeOf kvM' z) (h2 : ∀ z ∈ M, placeOf kvT z = placeOf kvT' z) : joinBar M kvM m kvT = joinBar M kvM' m kvT' := by
  unfold joinBar
  refine find_same fun p hp => ?_
  obtain ⟨a, b, _⟩ := (mem_ahead nd).mp (show (p.1, p.2) ∈ pairsAhead M from hp)
  unfold joinOk qN
  rw [h1 _ a, h1 _ b, h2 _ a, h2 _ b]
theorem bar_none (nd : M.Nodup) : joinBar M kvM O.length kvT = none ↔ NoCl M O kvM (placeOf kvT) := by
  unfold joinBar NoCl
  rw [List.find?_eq_none]
  have e : ∀ x y, (O.length : Int) * (qN M kvM x y + 1) = (O.length : Int) * qN M kvM x y + (O.length : Int) := fun x y => by rw [Int.mul_add, Int.mul_one]
  constructor
  · intro h x hx y hy hi
    have q := h (x, y) ((mem_ahead nd).mpr ⟨hx, hy, hi⟩)
    unfold joinOk at q
    simp only [Bool.not_eq_true, Bool.not_eq_false', Bool.and_eq_true, decide_eq_true_eq] at q
    rw [e] at q
    exact q
  · intro h p hp
    obtain ⟨a, b, c⟩ := (mem_ahead nd).mp (show (p.1, p.2) ∈ pairsAhead M from hp)
    have q := h p.1 a p.2 b c
    unfold joinOk
    simp only [Bool.not_eq_true, Bool.not_eq_false', Bool.and_eq_true, decide_eq_true_eq]
    rw [e]
    exact q
theorem join_same {T T' : Str → Int} (dis : ∀ x ∈ O, x ∉ M) (h1 : ∀ z ∈ M, placeOf kvM z = placeOf kvM' z) (h2 : ∀ z ∈ O, placeOf kvO z = placeOf kvO' z) (h3 : ∀ z ∈ M, T z = T' z) : joinKv M O kvM kvO T = joinKv M O kvM' kvO' T' := by
  unfold joinKv
  refine kvOf_congr' fun z hz => placed_congr (fun p a b => ?_) hz
  unfold jG
  rcases List.mem_append.mp a with a | a <;> rcases List.mem_append.mp b with b | b
  · rw [if_pos a, if_pos b, if_pos a, if_pos b]
    unfold netF netP qN
    rw [h1 _ a, h1 _ b]
  · rw [if_pos a, if_neg (dis _ b), if_pos a, if_neg (dis _ b)]
    unfold totG
    rw [h3 _ a, h2 _ b]
  · rw [if_neg (dis _ a), if_pos b, if_neg (dis _ a), if_pos b]
    unfold totG
    rw [h3 _ b, h2 _ a]
  · rw [if_neg (dis _ a), if_neg (dis _ b), if_neg (dis _ a), if_neg (dis _ b)]
    unfold netF netP qN
    rw [h2 _ a, h2 _ b]
end
/-- two dicts of numbers, alike -/
theorem alike_kv {H : Hp} {a b : Addr} {ks : List Str} {g : Str → Int} (ne : a ≠ b) (ha : H a = some (.dK (kvOf ks g))) (hb : H b = some (.dK (kvOf ks g))) : AlikeD H a b := by
  have key : ∀ p ∈ kvOf ks g, ∃ z ∈ ks, p = ((Sum.inr z : Key), V.int (g z)) := fun p hp => by
    obtain ⟨z, hz, e⟩ := List.mem_map.mp hp
    exact ⟨z, hz, e.symm⟩
  refine ⟨ne, _, _, ha, hb, fun p hp => ?_, fun k q hq => ?_, ?_⟩
  · obtain ⟨z, _, rfl⟩ := key p hp
    rfl
  · obtain ⟨p, hp, e⟩ := val_mem hq
    obtain ⟨z, _, rfl⟩ := key p hp
    rw [← e]
    rfl
  · rw [Bool.and_eq_true_iff]
    refine ⟨beq_iff_eq.mpr rfl, List.all_eq_true.mpr fun p hp => ?_⟩
    obtain ⟨z, hz, rfl⟩ := key p hp
    unfold hitF
    show (match valV (kvOf ks g) (Sum.inr z : Key) with | some q => eqV (V.int (g z)) q | none => false) = true
    rw [val_kv hz]
    exact decide_eq_true rfl
end RK

namespace RK
open PySem L2
/-! ### the good case, handed in any order -/
theorem kv_dict {zs ks : List Str} {g : Str → Int} (pm : ks.Perm zs) : dictB zs (kvOf ks g) = true := by
  unfold dictB
  rw [Bool.and_eq_true_iff]
  refine ⟨decide_eq_true (by rw [show (kvOf ks g).length = ks.length from List.length_map _, pm.length_eq]), List.all_eq_true.mpr fun z hz => ?_⟩
  rw [val_kv (pm.mem_iff.mpr hz)]
  rfl
theorem kv_th {K : PySem.W.Frag} {H : Hp} {ks : List Str} {g : Str → Int} : ∀ kv ∈ kvOf ks g, ∃ kx, Th K H kv.2 kx := fun kv hm => by
  obtain ⟨z, _, rfl⟩ := List.mem_map.mp hm
  exact ⟨_, .int _⟩
theorem hand_stand {zs ks : List Str} {g : Str → Int} (h : Sta zs zs (kvOf zs g)) (nd : zs.Nodup) (pm : ks.Perm zs) : standB zs (kvOf ks g) = true := by
  refine (Sta.mk' pm ?_ (nodup_inj nd fun x hx y hy e => ?_)).ok
  · rw [← h.sum]
    exact sum_congr fun z hz => (place_kv hz).symm
  · refine rest_inj h.ok hx hy ?_
    rw [place_kv hx, place_kv hy]
    exact e
theorem five_good {K : PySem.W.Frag} {C CP CC CS CU p1 t1 p2 t2 d e s : Addr} {M O ks1 ks2 ks3 : List Str} {gM gO gT : Str → Int} {Good : List Str → List Str → Addr → List (Key × V) → Addr → List (Key × V) → List (Key × V) → Hp → VK → Prop} {H : Hp} {Q : VK} {E : XK}
    (hp1 : PathAt C H p1 t1 M) (hp2 : PathAt C H p2 t2 O) (nd : (M ++ O).Nodup) (hpool : ∀ z ∈ M ++ O, z ∈ pool) (h2M : 2 ≤ M.length) (h2O : 2 ≤ O.length) (hl : (M ++ O).length ≤ 20)
    (hd : H d = some (.dK (kvOf ks1 gM))) (he : H e = some (.dK (kvOf ks2 gO))) (hs : H s = some (.dK (kvOf ks3 gT))) (pm1 : ks1.Perm M) (pm2 : ks2.Perm O) (pm3 : ks3.Perm M) (sM : Sta M M (kvOf M gM)) (sO : Sta O O (kvOf O gO))
    (good : Good M O d (kvOf ks1 gM) e (kvOf ks2 gO) (kvOf ks3 gT) H Q) : sp5G K C CP CC CS CU Good [.ref p1, .ref d, .ref p2, .ref e, .ref s] H Q E := by
  have Mnd := (List.nodup_append.mp nd).1
  have Ond := (List.nodup_append.mp nd).2.1
  have dis : ∀ x ∈ O, x ∉ M := fun x hx q => (List.nodup_append.mp nd).2.2 x q x hx rfl
  have hZl : (M ++ O).length = M.length + O.length := List.length_append
  have pM : ∀ z ∈ M, z ∈ pool := fun z hz => hpool z (List.mem_append_left _ hz)
  have pO : ∀ z ∈ O, z ∈ pool := fun z hz => hpool z (List.mem_append_right _ hz)
  have no : firstIn M O = none := List.find?_eq_none.mpr fun x hx q => dis x (of_decide_eq_true q) hx
  refine ⟨_, _, _, _, _, rfl, .inr ⟨p1, t1, M, rfl, hp1, Mnd, fun z hz => pool_names z (pM z hz), fun z hz => pool_len z (pM z hz), h2M, by omega, .inr ⟨p2, t2, O, rfl, hp2, Ond, fun z hz => pool_names z (pO z hz), fun z hz => pool_len z (pO z hz), h2O, by omega, fun z hz => absurd (no.symm.trans hz) (fun q => nomatch q), fun _ => ?_⟩⟩⟩
  refine ⟨.dict, .dict hd, (fun q => nomatch q), fun _ => ⟨d, _, rfl, hd, kv_th, fun q => absurd ((hand_stand sM Mnd pm1).symm.trans q) (fun q => nomatch q), fun _ => ?_⟩⟩
  refine ⟨.dict, .dict he, (fun q => nomatch q), fun _ => ⟨e, _, rfl, he, kv_th, fun q => absurd ((hand_stand sO Ond pm2).symm.trans q) (fun q => nomatch q), fun _ => ?_⟩⟩
  exact ⟨.dict, .dict hs, (fun q => nomatch q), fun _ => ⟨s, _, rfl, hs, kv_th, fun q => absurd ((kv_dict pm3).symm.trans q) (fun q => nomatch q), fun _ => good⟩⟩
theorem halves_small {M O ks : List Str} {kvW : List (Key × V)} (hW : Sta (M ++ O) ks kvW) (hl : (M ++ O).length ≤ 20) (hb : ∀ z ∈ M ++ O, (placeOf kvW z).natAbs < 2 ^ 100) :
    (∀ z ∈ M, (placedG M (netF (M ++ O) kvW) z).natAbs < 2 ^ 110) ∧ (∀ z ∈ O, (placedG O (netF (M ++ O) kvW) z).natAbs < 2 ^ 110) ∧ ∀ z ∈ M, (sumsZ O (M ++ O) kvW z).natAbs < 2 ^ 110 := by
  have hZl : (M ++ O).length = M.length + O.length := List.length_append
  have e1 : 20 + 20 * 2 ^ 102 < (2 : Nat) ^ 110 := by decide
  refine ⟨fun z hz => Nat.lt_of_le_of_lt (placed_abs (B := 2 ^ 102) (by omega) hz fun y hy => net_abs hb (List.mem_append_left _ hz) (List.mem_append_left _ hy)) e1, fun z hz => Nat.lt_of_le_of_lt (placed_abs (B := 2 ^ 102) (by omega) hz fun y hy => net_abs hb (List.mem_append_right _ hz) (List.mem_append_right _ hy)) e1, fun z hz => ?_⟩
  have h := sum_abs (f := fun y => netP (M ++ O) kvW z y) (B := 2 ^ 102) (l := O) fun y hy => net_abs hb (List.mem_append_left _ hz) (List.mem_append_right _ hy)
  have h2 : O.length * 2 ^ 102 ≤ 20 * 2 ^ 102 := Nat.mul_le_mul_right _ (by omega)
  unfold sumsZ
  omega
end RK

/-! == of two dicts of flat values, alike or not; == of two lists of texts -/
namespace L2
open PySem PySem.Spec PyProof.Rows
section
variable {X : Cx}
def rEqDF : R2 := fun x y H Q => ∃ a b ks ls, x = .ref a ∧ y = .ref b ∧ H a = some (.dK ks) ∧ H b = some (.dK ls) ∧ (∀ p ∈ ks, flatV p.2 = true) ∧ (∀ k q, valV ls k = some q → flatV q = true) ∧ Q (.bl (ks.length == ls.length && ks.all (hitF ls))) H
theorem op_eqDF (hu : X.A.units < cLine) : OpR X (compareOp .Eq) rEqDF := by
  intro pins s σ H x y v u Q I rx ry h
  obtain ⟨a, b, ks, ls, ex, ey, ea, eb, fk, fl, q⟩ := h
  subst ex
  subst ey
  cases rx
  cases ry
  obtain ⟨_, na, va, ra, da⟩ := dk_of I.hok ea
  obtain ⟨_, nb, vb, rb, db⟩ := dk_of I.hok eb
  refine PySem.W.keq_eq (knd := mixKind X.prog X.w) na nb da db hu (fun _ => hits_flat rb fl ra fk) (fin_bl I q ?_)
  rw [← ra.length, ← rb.length]
end
theorem eqv_strs : ∀ (l m : List Str), PyData.eqvAll (l.map PyData.str) (m.map PyData.str) = decide (l = m)
  | [], [] => by simp [PyData.eqvAll]
  | [], _ :: _ => by simp [PyData.eqvAll]
  | _ :: _, [] => by simp [PyData.eqvAll]
  | x :: l, y :: m => by
    simp only [List.map_cons, PyData.eqvAll, eqv_strs l m, PyData.eqv]
    by_cases h1 : x = y <;> by_cases h2 : l = m <;> simp [h1, h2]
theorem lay_strs : ∀ {l : List Str}, (∀ z ∈ l, PyData.strOk z = true) → PyData.canLayAll0 (l.map PyData.str) = true
  | [], _ => by simp [PyData.canLayAll0]
  | x :: l, h => by
    simp only [List.map_cons, PyData.canLayAll0, PyData.canLay0, h x List.mem_cons_self, lay_strs fun z hz => h z (List.mem_cons_of_mem _ hz), Bool.and_self]
theorem depth_strs : ∀ (l : List Str), PyData.depthAll (l.map PyData.str) = 0
  | [] => rfl
  | x :: l => by simp only [List.map_cons, PyData.depthAll, PyData.depth, depth_strs l]; rfl
theorem shaped_strs {l : List Str} (h : ∀ z ∈ l, PyData.strOk z = true) : SeqAt.shaped (.list (l.map PyData.str)) = true := by
  unfold SeqAt.shaped
  simp only [PyData.canLay0, lay_strs h, PyData.depth, depth_strs]
  decide
end L2

namespace RK
open PySem L2
/-! ### handed in any order; joined, and back -/
def spHandK : Sp := fun vs H Q _ => ∃ (a d : Addr) (ks : List Str) (g : Str → Int) (m : Nat), vs = [.ref a, .ref d] ∧ a ≠ d ∧ SpAt H a m ∧ m < 1000000000 ∧ H d = some (.dK (kvOf ks g)) ∧ ks.Nodup ∧ ks.length ≤ 1000 ∧
  ∀ e ks' H', H e = none → H' e = some (.dK (kvOf ks' g)) → ks'.Perm ks → e ≠ a → SpAt H' a (m + 1000) → But a H H' → Q (.ref e) H'
section
variable {P : Program} {w : World} {K : PySem.W.Frag} {mg : Str → Option Value} {base : Heap}
theorem ok_handK {f fM : Addr} {fd fdM : FuncData} (F : Fun K "_law_w_handed" "_law_w_handed" sWHanded f fd) (B : B0 K mg)
    (GM : FnOk P w K mg base CX0 2 fM fdM ["spring", "some"] spMixed) (bM : Binds K fdM ["spring", "some"] []) (gM : mg "_law_mixed" = some (.ref fM)) (kM : PySem.W.keepIn K (.ref fM) = true) :
    FnOk P w K mg base CX0 3 f fd ["spring", "some"] spHandK := by
  refine F.ok scWHanded (fun vs H Q E h => ?_) (fun cdv A outer s H vs Q E hr h => ?_)
  · obtain ⟨a, d, ks, g, m, rfl, _⟩ := h
    rfl
  · obtain ⟨a, d, ks, g, m, rfl, had, hsp, hm, hd, hnd, hl, q⟩ := h
    refine ⟨_, pss_one (ps_ret (pe_callTy (call_dictP rfl) (by rfl) B.dict (by decide +kernel) (pa_cons (pe_call GM hr (by rfl) gM kM bM .nil pass0 (pa_cons (pv 0) (pa_cons (LiI.pe_listItems rfl (pv 1) (by rfl) B.list (by decide +kernel)) pa_nil))) pa_nil))), ?_⟩
    obtain ⟨osp, hosp, _⟩ := id hsp
    refine ⟨_, rfl, _, rfl, d, kvOf ks g, rfl, hd, fun H1 p ts s1 hp hts hpt e1 t1 => ?_⟩
    have kl : (kvOf ks g).length = ks.length := List.length_map _
    have tl : ts.length = (kvOf ks g).length := Paired.length t1
    have xl : (ts.map V.ref).length ≤ 1000 := by rw [List.length_map, tl, kl]; exact hl
    refine ⟨a, p, ts.map V.ref, m, rfl, ne_of_none hosp hp, SpAt.same hsp s1, by omega, e1, xl, fun p2 ys H2 hperm hp2 hp2' hsp2 b2 => ?_⟩
    obtain ⟨ts', hts', rfl⟩ := perm_refs hperm
    have t12 : Paired (fun (t : Addr) (kv : Key × V) => H2 t = some (.tup [kV kv.1, kv.2])) ts (kvOf ks g) := by
      refine Paired.mono (fun t kv h => ?_) t1
      refine b2 _ _ (fun q => ?_) h
      subst q
      have : H1 t = some osp := s1 _ _ hosp
      obtain ⟨o, ho, x, y, c, rfl, _⟩ := hsp
      rw [hosp] at ho
      cases ho
      rw [this] at h
      cases h
    obtain ⟨kvs', hkp, t2⟩ := paired_perm hts' t12
    obtain ⟨ks', hks, rfl⟩ := perm_kv hkp
    refine ⟨p2, ts', _, rfl, SqL.of hp2', Paired.mono (fun t kv h => SqT.of h) t2, fun e he => ?_⟩
    rw [merge_self (by rw [keys_kv]; exact nodup_keys (hks.nodup_iff.mpr hnd))]
    have b02 : But a H H2 := (Same.but s1).trans b2
    have he0 : H e = none := b02.free he hsp2.ne
    have s3 := same_upd (o := .dK (kvOf ks' g)) he
    have hea : e ≠ a := fun q => hsp2.ne (by rw [← q]; exact he)
    obtain ⟨o2, ho2, hok2⟩ := hsp2
    exact q e ks' _ he0 upd_same hks hea ⟨o2, s3 _ _ ho2, hok2.mono (by omega)⟩ (b02.trans (Same.but s3))
end
def rev5 {α : Type} : List α → List α
  | [a, b, c, d, e] => [e, d, c, b, a]
  | l => l
theorem rel5 {zs : List V} {us : List Value} (h : Vals zs us) : Vals (rev5 zs) (rev5 us) := by
  match h with
  | .nil => exact .nil
  | .cons a .nil => exact .cons a .nil
  | .cons a (.cons b .nil) => exact .cons a (.cons b .nil)
  | .cons a (.cons b (.cons c .nil)) => exact .cons a (.cons b (.cons c .nil))
  | .cons a (.cons b (.cons c (.cons d .nil))) => exact .cons a (.cons b (.cons c (.cons d .nil)))
  | .cons a (.cons b (.cons c (.cons d (.cons e .nil)))) => exact .cons e (.cons d (.cons c (.cons b (.cons a .nil))))
  | .cons a (.cons b (.cons c (.cons d (.cons e (.cons f r))))) => exact .cons a (.cons b (.cons c (.cons d (.cons e (.cons f r)))))
theorem SameD.up {H : Hp} : ∀ {n : Nat} {x y : V}, SameD H n x y → ∀ k, SameD H (n + k) x y
  | _, _, _, .non, _ => .non
  | _, _, _, .int i, _ => .int i
  | _, _, _, .bl b, _ => .bl b
  | _, _, _, .str h, _ => .str h
  | _, _, _, @SameD.lst _ n a b xs ys ha hb hl h1 h, k => by
    rw [Nat.add_right_comm]
    exact .lst ha hb hl h1 fun i x y e1 e2 => SameD.up (h i x y e1 e2) k
  | _, _, _, @SameD.tup _ n a b xs ys ha hb hl h1 h, k => by
    rw [Nat.add_right_comm]
    exact .tup ha hb hl h1 fun i x y e1 e2 => SameD.up (h i x y e1 e2) k
  | _, _, _, @SameD.dict _ n a b ks ls ha hb hl h1 hk h, k => by
    rw [Nat.add_right_comm]
    exact .dict ha hb hl h1 hk fun i p q e1 e2 => SameD.up (h i p q e1 e2) k
theorem flat_kv {ks : List Str} {g : Str → Int} : (∀ p ∈ kvOf ks g, flatV p.2 = true) ∧ (∀ k q, valV (kvOf ks g) k = some q → flatV q = true) ∧ ((kvOf ks g).length == (kvOf ks g).length && (kvOf ks g).all (hitF (kvOf ks g))) = true := by
  have key : ∀ p ∈ kvOf ks g, ∃ z ∈ ks, p = ((Sum.inr z : Key), V.int (g z)) := fun p hp => by
    obtain ⟨z, hz, e⟩ := List.mem_map.mp hp
    exact ⟨z, hz, e.symm⟩
  refine ⟨fun p hp => ?_, fun k q hq => ?_, ?_⟩
  · obtain ⟨z, _, rfl⟩ := key p hp
    rfl
  · obtain ⟨p, hp, e⟩ := val_mem hq
    obtain ⟨z, _, rfl⟩ := key p hp
    rw [← e]
    rfl
  · rw [Bool.and_eq_true_iff]
    refine ⟨beq_iff_eq.mpr rfl, List.all_eq_true.mpr fun p hp => ?_⟩
    obtain ⟨z, hz, rfl⟩ := key p hp
    unfold hitF
    show (match valV (kvOf ks g) (Sum.inr z : Key) with | some q => eqV (V.int (g z)) q | none => false) = true
    rw [val_kv hz]
    exact decide_eq_true rfl
theorem pool_ok : ∀ z ∈ pool, PyData.strOk z = true := by decide +kernel
theorem dp_all {K : PySem.W.Frag} {H : Hp} : ∀ {row : List Str}, DpAll K H (row.map V.str) (row.map PyData.str)
  | [] => .nil
  | z :: r => .cons (.str z) dp_all
def spBack (C : Addr) : Sp := fun vs H Q _ => ∃ (a p1 t1 p2 t2 d n o : Addr) (M O : List Str) (kvW : List (Key × V)) (m : Nat), vs = [.ref a, .ref p1, .ref p2, .ref d, .ref n, .ref o] ∧ a ≠ d ∧ a ≠ n ∧ a ≠ o ∧ SpAt H a m ∧ m < 800000000 ∧ PathAt C H p1 t1 M ∧ PathAt C H p2 t2 O ∧ H d = some (.dK kvW) ∧ Sta (M ++ O) (M ++ O) kvW ∧
  H n = some (.lst (M.map V.str)) ∧ H o = some (.lst (O.map V.str)) ∧ (M ++ O).Nodup ∧ (∀ z ∈ M ++ O, z ∈ pool) ∧ 2 ≤ M.length ∧ 2 ≤ O.length ∧ (M ++ O).length ≤ 20 ∧ (∀ z ∈ M ++ O, (placeOf kvW z).natAbs < 2 ^ 100) ∧
  ∀ H', SpAt H' a (m + 10000) → But a H H' → Q (.bl true) H'
section
variable {P : Program} {w : World} {K : PySem.W.Frag} {mg : Str → Option Value} {base : Heap} {C CP CC CS CU : Addr}
theorem scBack : FnScope ["spring", "first", "second", "whole", "mine", "theirs", "stands", "sums", "handed", "was", "told", "again", "k", "bent", "one", "due", "clash", "some"] ["spring", "first", "second", "whole", "mine", "theirs"] (defScope sBack) := ⟨rfl, rfl, rfl, by decide +kernel, rfl, by decide +kernel, by decide +kernel⟩
theorem ok_back {f fW fS fU fQ fJ fZ fV fY fH : Addr} {fd fdW fdS fdU fdQ fdJ fdZ fdV fdY fdH : FuncData} (F : Fun K "_law_back_right" "_law_back_right" sBack f fd) (B : B0 K mg) (zrepr : mg "repr" = none) (mods : ∃ mm, base.Ns sysModules mm)
    (GW : FnOk P w K mg base CX0 3 fW fdW ["stand", "some"] spWOfSome) (bW : Binds K fdW ["stand", "some"] []) (gW : mg "_law_w_of_some" = some (.ref fW)) (kW9 : PySem.W.keepIn K (.ref fW) = true)
    (GS : FnOk P w K mg base CX0 2 fS fdS ["whole", "mine", "theirs"] spWSums) (bS : Binds K fdS ["whole", "mine", "theirs"] []) (gS : mg "_law_sums" = some (.ref fS)) (kS9 : PySem.W.keepIn K (.ref fS) = true)
    (GU : FnOk P w K mg base CX0 1 fU fdU ["names", "thing"] (spWIsSt K)) (bU : Binds K fdU ["names", "thing"] []) (gU : mg "_law_w_is_stand" = some (.ref fU)) (kU9 : PySem.W.keepIn K (.ref fU) = true)
    (GQ : FnOk P w K mg base CX0 7 fQ fdQ ["found", "due"] (spSame 6)) (bQ : Binds K fdQ ["found", "due"] []) (gQ : mg "_law_same" = some (.ref fQ)) (kQ9 : PySem.W.keepIn K (.ref fQ) = true)
    (GJ : FnOk P w K mg base (L2.CX P w) 6 fJ fdJ ["first", "stand", "second", "other_stand", "sums"] (sp5G K C CP CC CS CU GoodK)) (bJ : Binds K fdJ ["first", "stand", "second", "other_stand", "sums"] []) (gJ : mg "joined" = some (.ref fJ)) (kJ9 : PySem.W.keepIn K (.ref fJ) = true)
    (cJ : KBn K fdJ ["first", "stand", "second", "other_stand", "sums"] 0 ["sums", "other_stand", "second", "stand", "first"] (fun us ws => rev5 ws) (fun vs zs => rev5 zs))
    (GZ : FnOk P w K mg base (L2.CX P w) 6 fZ fdZ ["first", "stand", "second", "other_stand", "sums"] (sp5G K C CP CC CS CU GoodC)) (bZ : Binds K fdZ ["first", "stand", "second", "other_stand", "sums"] []) (gZ : mg "joint_clash" = some (.ref fZ)) (kZ9 : PySem.W.keepIn K (.ref fZ) = true)
    (cZ : KBn K fdZ ["first", "stand", "second", "other_stand", "sums"] 0 ["sums", "other_stand", "second", "stand", "first"] (fun us ws => rev5 ws) (fun vs zs => rev5 zs))
    (GV : FnOk P w K mg base CX0 1 fV fdV ["stand", "wide", "sums"] spWTwo) (bV : Binds K fdV ["stand", "wide", "sums"] []) (gV : mg "_law_first_two" = some (.ref fV)) (kV9 : PySem.W.keepIn K (.ref fV) = true)
    (GY : FnOk P w K mg base CX0 2 fY fdY ["spring", "some"] spPick) (bY : Binds K fdY ["spring", "some"] []) (gY : mg "_law_pick" = some (.ref fY)) (kY9 : PySem.W.keepIn K (.ref fY) = true)
    (GH : FnOk P w K mg base CX0 3 fH fdH ["spring", "some"] spHandK) (bH : Binds K fdH ["spring", "some"] []) (gH : mg "_law_w_handed" = some (.ref fH)) (kH9 : PySem.W.keepIn K (.ref fH) = true) :
    FnG P w K mg base CX0 8 f fd ["spring", "first", "second", "whole", "mine", "theirs"] (spBack C) := by
  refine F.okG scBack (fun vs H Q E h => ?_) (fun cdv A outer s H vs Q E hr quiet h => ?_)
  · obtain ⟨a, p1, t1, p2, t2, d, n, o, M, O, kvW, m, rfl, _⟩ := h
    rfl
  · obtain ⟨a, p1, t1, p2, t2, d, n, o, M, O, kvW, m, rfl, had, han, hao, hsp, hm, hp1, hp2, hd, hst, hn, ho, hnd, hpool, h2M, h2O, h20, hbg, q⟩ := h
    have hu := hu_of hr
    have hr1 : Room 1 _ := hr.mono (by decide)
    have hr2 : Room 2 _ := hr.mono (by decide)
    have hr3 : Room 3 _ := hr.mono (by decide)
    have hr6 : Room 6 _ := hr.mono (by decide)
    have hr7 : Room 7 _ := hr.mono (by decide)
    have hu60 : _ + 60 < cLine := Nat.lt_of_le_of_lt (Nat.add_le_add_left (by decide : 60 ≤ 64) _) hr.units
    refine ⟨_, pss_cons (ps_par (i := 6) (j := 7) rfl scBack.nd rfl rfl (by decide) rfl rfl (pa_cons (pe_lst (pa_cons (pe_call GW hr3 (by rfl) gW kW9 bW .nil pass0 (pa_cons (pv 3) (pa_cons (pv 4) pa_nil))) (pa_cons (pe_call GW hr3 (by rfl) gW kW9 bW .nil pass0 (pa_cons (pv 3) (pa_cons (pv 5) pa_nil))) pa_nil))) (pa_cons (pe_call GS hr2 (by rfl) gS kS9 bS .nil pass0 (pa_cons (pv 3) (pa_cons (pv 4) (pa_cons (pv 5) pa_nil)))) pa_nil)) (by rfl))
      (pss_cons (ps_setLc (i := 8) (te := (tCall spHandK [] E0 (tCons (tVar 0) (tCons (tVar 17) tNil)))) (own := [("some", 17)]) (g := (gName 17)) (tt := tYes) rfl scBack.nd rfl rfl (by rfl) (pi_list (pe_op op_cat (pv 6) (pe_lst (pa_cons (pv 7) pa_nil)))) (blkOk_by (N := ["spring", "first", "second", "whole", "mine", "theirs", "stands", "sums", "handed", "was", "told", "again", "k", "bent", "one", "due", "clash", "some"]) (sc := defScope sBack) (by decide +kernel))
        (fun _ _ _ _ _ => (pg_name (i := 17) scBack.nd rfl (Or.inl rfl))) (fun _ _ _ _ _ => pts_nil) (fun _ _ _ _ _ => by exact (pe_call GH hr3 (by rfl) gH kH9 bH .nil pass0 (pa_cons (pv 0) (pa_cons (pv 17) pa_nil)))))
      (pss_cons (ps_par (i := 9) (j := 10) rfl scBack.nd rfl rfl (by decide) rfl rfl (pa_cons (pe_callB (call_reprL quiet hu60 mods) (by rfl) zrepr (by decide +kernel) (pa_cons (pv 8) pa_nil)) (pa_cons (pe_call GJ hr6 (by rfl) gJ kJ9 bJ .nil passL (pa_cons (pv 1) (pa_cons (pe_ix ix_list (pv 8) pe_int (fun _ _ => rfl)) (pa_cons (pv 2) (pa_cons (pe_ix ix_list (pv 8) pe_int (fun _ _ => rfl)) (pa_cons (pe_ix ix_list (pv 8) pe_int (fun _ _ => rfl)) pa_nil)))))) pa_nil)) (by rfl))
      (pss_cons (ps_if (PW.pt (pw_or (pt_not (pt_val (pe_call GQ hr7 (by rfl) gQ kQ9 bQ .nil pass0 (pa_cons (pv 10) (pa_cons (pv 3) pa_nil))))) (pw_or1 (pt_cmpR op_notN (pe_call GZ hr6 (by rfl) gZ kZ9 bZ .nil passL (pa_cons (pv 1) (pa_cons (pe_ix ix_list (pv 8) pe_int (fun _ _ => rfl)) (pa_cons (pv 2) (pa_cons (pe_ix ix_list (pv 8) pe_int (fun _ _ => rfl)) (pa_cons (pe_ix ix_list (pv 8) pe_int (fun _ _ => rfl)) pa_nil)))))) pe_non (nomark _))))) (pss_one (ps_ret pe_bl)) (pss_nil))
      (pss_cons (ps_expr (pe_dclear (pv 10)))
      (pss_cons (ps_set (i := 11) scBack.nd rfl (Or.inl rfl) (pe_callK0 GJ hr6 (by rfl) gJ kJ9 cJ passL (pk_cons (pv 7) (pk_cons (pe_ix ix_list (pv 6) pe_int (fun _ _ => rfl)) (pk_cons (pv 2) (pk_cons (pe_ix ix_list (pv 6) pe_int (fun _ _ => rfl)) (pk_cons (pv 1) pk_nil)))))))
      (pss_cons (ps_if (PW.pt (pw_or (pt_not (pt_val (pe_call GQ hr7 (by rfl) gQ kQ9 bQ .nil pass0 (pa_cons (pv 11) (pa_cons (pv 3) pa_nil))))) (pw_or1 (pt_cmpR op_ne (pe_callB (call_reprL quiet hu60 mods) (by rfl) zrepr (by decide +kernel) (pa_cons (pv 8) pa_nil)) (pv 9) (nomark _))))) (pss_one (ps_ret pe_bl)) (pss_nil))
      (pss_cons (ps_for PassesOwn.never rfl (pi_range1 (by rfl) B.range (pa_cons pe_int pa_nil)) (pg_name (i := 12) scBack.nd rfl (Or.inl rfl))
        (pss_cons (ps_par (i := 13) (j := 14) rfl scBack.nd rfl rfl (by decide) rfl rfl (pa_cons (pe_callTy (call_dictP rfl) (by rfl) B.dict (by decide +kernel) (pa_cons (LiI.pe_listItems rfl (pv 7) (by rfl) B.list (by decide +kernel)) pa_nil)) (pa_cons (pe_call GY hr2 (by rfl) gY kY9 bY .nil pass0 (pa_cons (pv 0) (pa_cons (pv 4) pa_nil))) pa_nil)) (by rfl))
      (pss_cons (ps_dput hu (pv 13) (pv 14) (pe_op op_add (pe_dget hu (pv 13) (pv 14) (fun _ _ => rfl)) (pe_call GY hr2 (by rfl) gY kY9 bY .nil pass0 (pa_cons (pv 0) (pa_cons (pe_lst (pa_cons (pe_un un_neg pe_int) (pa_cons pe_int (pa_cons pe_int (pa_cons (pe_un un_neg pe_int) (pa_cons (pe_callB call_len_seq (by rfl) B.len PySem.boot_len (pa_cons (pv 5) pa_nil)) (pa_cons (pe_op op_pow pe_int pe_int) pa_nil))))))) pa_nil)))) rfl)
      (pss_cons (ps_set (i := 15) scBack.nd rfl (Or.inl rfl) (pe_call GV hr1 (by rfl) gV kV9 bV .nil pass0 (pa_cons (pe_ix ix_list (pv 6) pe_int (fun _ _ => rfl)) (pa_cons (pe_callB call_len_seq (by rfl) B.len PySem.boot_len (pa_cons (pv 5) pa_nil)) (pa_cons (pv 13) pa_nil)))))
      (pss_cons (ps_set (i := 16) scBack.nd rfl (Or.inl rfl) (pe_callK0 GZ hr6 (by rfl) gZ kZ9 cZ passL (pk_cons (pv 13) (pk_cons (pe_ix ix_list (pv 6) pe_int (fun _ _ => rfl)) (pk_cons (pv 2) (pk_cons (pe_ix ix_list (pv 6) pe_int (fun _ _ => rfl)) (pk_cons (pv 1) pk_nil)))))))
      (pss_cons (ps_set (i := 10) scBack.nd rfl (Or.inl rfl) (pe_call GJ hr6 (by rfl) gJ kJ9 bJ .nil passL (pa_cons (pv 1) (pa_cons (pe_ix ix_list (pv 6) pe_int (fun _ _ => rfl)) (pa_cons (pv 2) (pa_cons (pe_ix ix_list (pv 6) pe_int (fun _ _ => rfl)) (pa_cons (pv 13) pa_nil)))))))
      (pss_cons (ps_if (PW.pt (pw_or (pt_not (pt_val (pe_call GQ hr7 (by rfl) gQ kQ9 bQ .nil pass0 (pa_cons (pe_lst (pa_cons (pv 16) pa_nil)) (pa_cons (pe_lst (pa_cons (pv 15) pa_nil)) pa_nil))))) (pw_or1 (pt_cmpR op_ne (pe_cmpR op_isN (pv 10) pe_non (nomark _)) (pe_cmpR op_notN (pv 15) pe_non (nomark _)) (nomark _))))) (pss_one (ps_ret pe_bl)) (pss_nil))
      (pss_one (ps_if (pt_cmpR op_notN (pv 10) pe_non (nomark _)) (pss_cons (ps_if (PW.pt (pw_or (pt_cmpR (op_neD hr.units) (pe_callTy (call_list_dK rfl) (by rfl) B.list (by decide +kernel) (pa_cons (pv 10) pa_nil)) (pe_op op_cat (pv 4) (pv 5)) (nomark _)) (pw_or1 (pt_not (pt_val (pe_call GU hr1 (by rfl) gU kU9 bU .nil pass0 (pa_cons (pe_op op_cat (pv 4) (pv 5)) (pa_cons (pv 10) pa_nil)))))))) (pss_one (ps_ret pe_bl)) (pss_nil))
      (pss_cons (ps_if (pt_cmpR (op_neDF (Nat.lt_of_succ_lt hu)) (pe_call GS hr2 (by rfl) gS kS9 bS .nil pass0 (pa_cons (pv 10) (pa_cons (pv 4) (pa_cons (pv 5) pa_nil)))) (pv 13) (nomark _)) (pss_one (ps_ret pe_bl)) (pss_nil))
      (pss_one (ps_if (pt_cmpR (op_neLD hu) (pe_lst (pa_cons (pe_call GW hr3 (by rfl) gW kW9 bW .nil pass0 (pa_cons (pv 10) (pa_cons (pv 4) pa_nil))) (pa_cons (pe_call GW hr3 (by rfl) gW kW9 bW .nil pass0 (pa_cons (pv 10) (pa_cons (pv 5) pa_nil))) pa_nil))) (pv 6) (nomark _)) (pss_one (ps_ret pe_bl)) (pss_nil))))) (pss_nil))))))))))
      (pss_one (ps_ret pe_bl))))))))), ?_⟩
    have Mnd := (List.nodup_append.mp hnd).1
    have Ond := (List.nodup_append.mp hnd).2.1
    have dis : ∀ x ∈ O, x ∉ M := fun x hx q => (List.nodup_append.mp hnd).2.2 x q x hx rfl
    have hZl : (M ++ O).length = M.length + O.length := List.length_append
    obtain ⟨osp, hosp, xsp, ysp, csp, eosp, _⟩ := id hsp
    subst eosp
    have pne1 : ∀ {p t zs}, PathAt C H p t zs → p ≠ a := fun hp z => by
      obtain ⟨dx, e⟩ := hp.ob
      rw [z, hosp] at e; cases e
    have pne2 : ∀ {p t zs}, PathAt C H p t zs → t ≠ a := fun hp z => by
      have e := hp.tu
      rw [z, hosp] at e; cases e
    have keepP : ∀ {p t zs} {G : Hp}, But a H G → PathAt C H p t zs → PathAt C G p t zs := fun b hp => ⟨let ⟨dx, e⟩ := hp.ob; ⟨dx, b _ _ (pne1 hp) e⟩, b _ _ (pne2 hp) hp.tu⟩
    -- stands, sums
    refine ⟨_, rfl, _, rfl, d, n, M, M ++ O, kvW, rfl, hd, hst, hnd, by omega, hn, Mnd, by omega, fun z hz => List.mem_append_left _ hz, fun e1 H1 he10 he1 s1 => ?_⟩
    refine ⟨_, rfl, _, rfl, d, o, O, M ++ O, kvW, rfl, s1 _ _ hd, hst, hnd, by omega, s1 _ _ ho, Ond, by omega, fun z hz => List.mem_append_right _ hz, fun e2 H2 he20 he2 s2 => ?_⟩
    refine ⟨by show 2 ≤ sizeLine; decide, fun SL hSL => ?_⟩
    generalize hE : upd H2 SL _ = H3
    have sH3 : Same H2 H3 := hE ▸ same_upd hSL
    have eSL := congrFun hE.symm SL
    rw [upd_same] at eSL
    clear hE
    have s13 := (s1.trans s2).trans sH3
    refine ⟨_, rfl, _, rfl, _, rfl, d, n, o, M, O, M ++ O, kvW, rfl, s13 _ _ hd, hst, s13 _ _ hn, s13 _ _ ho, fun z hz => List.mem_append_left _ hz, fun z hz => List.mem_append_right _ hz, Mnd, by omega, by omega, by omega, fun su H4 hsu0 hsu s4 => ⟨_, _, rfl, ?_⟩⟩
    have s14 := s13.trans s4
    have eS4 := s4 _ _ eSL
    have e14 := s4 _ _ (sH3 _ _ (s2 _ _ he1))
    have e24 := s4 _ _ (sH3 _ _ he2)
    generalize hgM : placedG M (netF (M ++ O) kvW) = gM at *
    generalize hgO : placedG O (netF (M ++ O) kvW) = gO at *
    generalize hgT : sumsZ O (M ++ O) kvW = gT at *
    -- handed
    refine ⟨_, rfl, _, rfl, by show 1 ≤ sizeLine; decide, fun A1 hA1 => ?_⟩
    generalize hE : upd H4 A1 _ = H5
    have sH5 : Same H4 H5 := hE ▸ same_upd hA1
    have eA1 := congrFun hE.symm A1
    rw [upd_same] at eA1
    clear hE
    refine ⟨SL, A1, _, _, rfl, rfl, sH5 _ _ eS4, eA1, by show 2 + 1 ≤ sizeLine; decide, fun A2 hA2 => ?_⟩
    generalize hE : upd H5 A2 _ = H6
    have sH6 : Same H5 H6 := hE ▸ same_upd hA2
    have eA2 := congrFun hE.symm A2
    rw [upd_same] at eA2
    clear hE
    replace eA2 : H6 A2 = some (.lst [.ref e1, .ref e2, .ref su]) := eA2
    have s46 := sH5.trans sH6
    have s16 := s14.trans s46
    refine ⟨A2, rfl, ⟨_, SqL.of eA2⟩, fun D hD => ?_⟩
    have sp6 : SpAt H6 a m := hsp.same s16
    have haD : a ≠ D := fun e => by
      obtain ⟨o', ho', _⟩ := sp6
      rw [← e, ho'] at hD; cases hD
    have e16 := s46 _ _ e14
    have e26 := s46 _ _ e24
    have su6 := s46 _ _ hsu
    have e1a : e1 ≠ a := fun e => by rw [e, hosp] at he10; cases he10
    have hA2D : A2 ≠ D := ne_of_none eA2 hD
    have a6 := s16 _ _ hosp
    have noa : ∀ {b : Addr} {kv : List (Key × V)}, H6 b = some (.dK kv) → b ≠ a := fun e q => by rw [q, a6] at e; cases e
    refine lc_it (walk_list (K := K) (a := A2) (xs := [.ref e1, .ref e2, .ref su])) (fun j G => SpAt G a (m + 1000 * j) ∧ (∀ b u, b ≠ a → b ≠ D → H6 b = some u → G b = some u) ∧ ∃ us : List Addr, us.length = j ∧ G D = some (.lst (us.map V.ref)) ∧ Paired (fun (u : Addr) (r : List Str × (Str → Int)) => u ≠ a ∧ u ≠ D ∧ ∃ ks : List Str, ks.Perm r.1 ∧ G u = some (.dK (kvOf ks r.2))) us ([(M, gM), (O, gO), (M, gT)].take j)) ?_ (fun j G _ p => SqL.of (p.2.1 _ _ (fun e => by rw [e, a6] at eA2; cases eA2) hA2D eA2)) ?_ ?_
    · refine ⟨?_, fun b u _ h e => by rw [upd_ne h]; exact e, [], rfl, upd_same, .nil⟩
      obtain ⟨o', ho', hok⟩ := sp6
      exact ⟨o', by rw [upd_ne haD]; exact ho', hok⟩
    · rintro j x G1 G2 hj ⟨spj, bj, us, hul, eDj, hus⟩ ⟨rfl, hx⟩
      obtain ⟨ed, ksd, gd, rfl, hd6, ndd, ldd, htk⟩ : ∃ (ed : Addr) (ksd : List Str) (gd : Str → Int), x = .ref ed ∧ H6 ed = some (.dK (kvOf ksd gd)) ∧ ksd.Nodup ∧ ksd.length ≤ 1000 ∧ [(M, gM), (O, gO), (M, gT)].take (j + 1) = [(M, gM), (O, gO), (M, gT)].take j ++ [(ksd, gd)] := by
        match j, hx with
        | 0, hx => cases hx; exact ⟨_, _, _, rfl, e16, Mnd, by omega, rfl⟩
        | 1, hx => cases hx; exact ⟨_, _, _, rfl, e26, Ond, by omega, rfl⟩
        | 2, hx => cases hx; exact ⟨_, _, _, rfl, su6, Mnd, by omega, rfl⟩
      have eda := noa hd6
      have edD : ed ≠ D := ne_of_none hd6 hD
      refine ⟨rfl, tyes ?_⟩
      refine ⟨_, rfl, _, rfl, a, ed, ksd, gd, _, rfl, Ne.symm eda, spj, by have : j < 3 := hj; omega, bj _ _ eda edD hd6, ndd, ldd, fun e ks' G3 he0 he pm hea sp3 b3 => ?_⟩
      have eD3 := b3 _ _ (Ne.symm haD) eDj
      have heD : e ≠ D := Ne.symm (ne_of_none eDj he0)
      refine ⟨_, eD3, by rw [List.length_map, hul]; exact Nat.lt_of_lt_of_le hj (by show 3 ≤ sizeLine; decide), ?_, fun b u h1 h2 eb => ?_, us ++ [e], by rw [List.length_append, hul]; rfl, by rw [upd_same, List.map_append]; rfl, ?_⟩
      · obtain ⟨o', ho', hok⟩ := sp3
        exact ⟨o', by rw [upd_ne haD]; exact ho', hok.mono (by omega)⟩
      · rw [upd_ne h2]
        exact b3 _ _ h1 (bj _ _ h1 h2 eb)
      · rw [htk]
        exact Paired.snoc (Paired.mono (fun u r h => ⟨h.1, h.2.1, let ⟨ks, q1, q2⟩ := h.2.2; ⟨ks, q1, by rw [upd_ne h.2.1]; exact b3 _ _ h.1 q2⟩⟩) hus) ⟨hea, heD, ks', pm, by rw [upd_ne heD]; exact he⟩
    rintro G ⟨spG, bG, us, hul, eDG, hus⟩
    obtain ⟨u1, u2, u3, rfl⟩ : ∃ u1 u2 u3, us = [u1, u2, u3] := by
      match us, hul with
      | [u1, u2, u3], _ => exact ⟨_, _, _, rfl⟩
    cases hus with
    | cons x1 hus =>
    cases hus with
    | cons x2 hus =>
    cases hus with
    | cons x3 hus =>
    obtain ⟨u1a, u1D, ks1, pm1, hu1⟩ := x1
    obtain ⟨u2a, u2D, ks2, pm2, hu2⟩ := x2
    obtain ⟨u3a, u3D, ks3, pm3, hu3⟩ := x3
    replace pm1 : ks1.Perm M := pm1
    replace pm2 : ks2.Perm O := pm2
    replace pm3 : ks3.Perm M := pm3
    replace hu1 : G u1 = some (.dK (kvOf ks1 gM)) := hu1
    replace hu2 : G u2 = some (.dK (kvOf ks2 gO)) := hu2
    replace hu3 : G u3 = some (.dK (kvOf ks3 gT)) := hu3
    have b6G : ∀ {b u}, b ≠ a → H6 b = some u → G b = some u := fun hb e => bG _ _ hb (ne_of_none e hD) e
    have bHG : But a H G := fun b u hb e => b6G hb (s16 _ _ e)
    have hst2 := hst
    obtain ⟨bM, bO, bT⟩ := halves_small hst h20 hbg
    rw [hgM] at bM
    rw [hgO] at bO
    rw [hgT] at bT
    have pw : ∀ k : Nat, 110 ≤ k → (2 : Nat) ^ 110 ≤ 2 ^ k := fun k h => Nat.pow_le_pow_right (by decide) h
    have pM : ∀ z ∈ M, z ∈ pool := fun z hz => hpool z (List.mem_append_left _ hz)
    have pO : ∀ z ∈ O, z ∈ pool := fun z hz => hpool z (List.mem_append_right _ hz)
    obtain ⟨t1', t2', t3'⟩ := view_text (os := ks1) (g := gM) (fun y hy => pM y (pm1.mem_iff.mp hy)) (by rw [pm1.length_eq]; omega) fun y hy => Nat.lt_of_lt_of_le (bM y (pm1.mem_iff.mp hy)) (pw 400 (by decide))
    obtain ⟨t4, t5, t6⟩ := view_text (os := ks2) (g := gO) (fun y hy => pO y (pm2.mem_iff.mp hy)) (by rw [pm2.length_eq]; omega) fun y hy => Nat.lt_of_lt_of_le (bO y (pm2.mem_iff.mp hy)) (pw 400 (by decide))
    obtain ⟨t7, t8, t9⟩ := view_text (os := ks3) (g := gT) (fun y hy => pM y (pm3.mem_iff.mp hy)) (by rw [pm3.length_eq]; omega) fun y hy => Nat.lt_of_lt_of_le (bT y (pm3.mem_iff.mp hy)) (pw 400 (by decide))
    obtain ⟨t10, t11⟩ := three_text t2' t5 t8 t3' t6 t9
    -- what joined tells
    have sM : Sta M M (kvOf M gM) := by rw [← hgM]; exact half_sta_m hst hnd
    have sO : Sta O O (kvOf O gO) := by rw [← hgO]; exact half_sta_o hst hnd
    have hnc : NoCl M O (kvOf M gM) gT := by rw [← hgM, ← hgT]; exact whole_nocl hst hnd
    have jk : ∀ {k1 k2 k3 : List Str}, k1.Perm M → k2.Perm O → k3.Perm M → joinKv M O (kvOf k1 gM) (kvOf k2 gO) (placeOf (kvOf k3 gT)) = kvOf (M ++ O) (placeOf kvW) := fun {k1 k2 k3} q1 q2 q3 => by
      have e := join_whole hst hnd (by omega) (by omega)
      rw [← e]
      refine join_same dis (fun z hz => ?_) (fun z hz => ?_) (fun z hz => ?_)
      · rw [place_kv (q1.mem_iff.mpr hz)]
        unfold halfM
        rw [place_kv hz, hgM]
      · rw [place_kv (q2.mem_iff.mpr hz)]
        unfold halfM
        rw [place_kv hz, hgO]
      · rw [place_kv (q3.mem_iff.mpr hz), ← hgT]
        rfl
    have jb : ∀ {k1 k3 : List Str}, k1.Perm M → k3.Perm M → joinBar M (kvOf k1 gM) O.length (kvOf k3 gT) = none := fun {k1 k3} q1 q3 => by
      rw [bar_same (kvM' := kvOf M gM) (kvT' := kvOf M gT) Mnd (fun z hz => by rw [place_kv (q1.mem_iff.mpr hz), place_kv hz]) (fun z hz => by rw [place_kv (q3.mem_iff.mpr hz), place_kv hz])]
      refine (bar_none Mnd).mpr fun x hx y hy hi => ?_
      rw [place_kv hx, place_kv hy]
      exact hnc x hx y hy hi
    have hkW := hst.kv
    -- was, told
    refine ⟨_, rfl, D, [u1, u2, u3], [kvOf ks1 gM, kvOf ks2 gO, kvOf ks3 gT], rfl, eDG, .cons ⟨hu1, t1'⟩ (.cons ⟨hu2, t4⟩ (.cons ⟨hu3, t7⟩ .nil)), t10, t11, ?_⟩
    refine ⟨_, rfl, _, rfl, D, _, 0, .ref u1, rfl, rfl, SqL.of eDG, rfl, _, rfl, _, rfl, D, _, 1, .ref u2, rfl, rfl, SqL.of eDG, rfl, _, rfl, D, _, 2, .ref u3, rfl, rfl, SqL.of eDG, rfl, ?_⟩
    have hp1G := keepP bHG hp1
    have hp2G := keepP bHG hp2
    refine st_nil (five_good hp1G hp2G hnd hpool h2M h2O h20 hu1 hu2 hu3 pm1 pm2 pm3 sM sO ⟨fun q => absurd (jb pm1 pm3) q, fun _ tl G1 htl0 htl sG1 => ?_⟩)
    rw [jk pm1 pm2 pm3, ← hkW] at htl
    refine ⟨_, _, rfl, ?_⟩
    have hda : d ≠ a := Ne.symm had
    have tla : tl ≠ a := fun e => by
      obtain ⟨o', ho', _⟩ := spG
      rw [e, ho'] at htl0; cases htl0
    have bH1 : But a H G1 := bHG.trans (Same.but sG1)
    have hd1 := bH1 _ _ hda hd
    have hZ : ∀ z ∈ M ++ O, z.length ≤ 1000 := fun z hz => pool_len z (hpool z hz)
    have sd1 : SameD G1 6 (.ref tl) (.ref d) := by
      rw [hkW] at htl hd1
      exact (same_kv htl hd1 (by omega) hZ).up 3
    have eDG1 := sG1 _ _ eDG
    refine ⟨_, rfl, _, rfl, _, _, rfl, sd1, fun G2 sG2 => ⟨true, rfl, ?_⟩⟩
    have s02 : Same G G2 := sG1.trans sG2
    refine iteF ⟨_, rfl, _, rfl, D, _, 0, .ref u1, rfl, rfl, SqL.of (s02 _ _ eDG), rfl, _, rfl, _, rfl, D, _, 1, .ref u2, rfl, rfl, SqL.of (s02 _ _ eDG), rfl, _, rfl, D, _, 2, .ref u3, rfl, rfl, SqL.of (s02 _ _ eDG), rfl, ?_⟩
    refine st_nil (five_good (hp1G.same s02) (hp2G.same s02) hnd hpool h2M h2O h20 (s02 _ _ hu1) (s02 _ _ hu2) (s02 _ _ hu3) pm1 pm2 pm3 sM sO fun w G3 hw sG3 => ?_)
    rw [jb pm1 pm3] at hw
    cases (show w = .non from hw)
    refine ⟨rfl, _, rfl, iteF ?_⟩
    -- told.clear()
    have s03 := s02.trans sG3
    have htl3 := sG3 _ _ (sG2 _ _ htl)
    refine ⟨_, rfl, .inr (.inr (.inl ⟨rfl, .inl ⟨_, htl3⟩⟩)), tl, _, rfl, rfl, htl3, ?_⟩
    have b34 : But tl G3 (upd G3 tl (.dK [])) := But.upd
    generalize upd G3 tl (.dK []) = G4 at b34
    have b04 : ∀ {b u}, G b = some u → G4 b = some u := fun e => b34 _ _ (ne_of_none e htl0) (s03 _ _ e)
    have s04 : Same G G4 := fun b u e => b04 e
    have eS6 : G SL = some (.lst [.ref e1, .ref e2]) := b6G (fun e => by rw [e] at eS4; rw [s14 _ _ hosp] at eS4; cases eS4) (s46 _ _ eS4)
    have e1G : G e1 = some (.dK (kvOf M gM)) := b6G (noa e16) e16
    have e2G : G e2 = some (.dK (kvOf O gO)) := b6G (noa e26) e26
    have suG : G su = some (.dK (kvOf M gT)) := b6G (noa su6) su6
    have eS4' := b04 eS6
    refine ⟨_, rfl, _, rfl, SL, _, 1, .ref e2, rfl, rfl, SqL.of eS4', rfl, _, rfl, _, rfl, SL, _, 0, .ref e1, rfl, rfl, SqL.of eS4', rfl, _, rfl, ?_⟩
    have hp1_4 := hp1G.same s04
    have hp2_4 := hp2G.same s04
    refine st_nil ⟨rfl, rfl, five_good hp1_4 hp2_4 hnd hpool h2M h2O h20 (b04 e1G) (b04 e2G) (b04 suG) (List.Perm.refl _) (List.Perm.refl _) (List.Perm.refl _) sM sO ⟨fun q => absurd (jb (List.Perm.refl _) (List.Perm.refl _)) q, fun _ ag G5 hag0 hag sG5 => ?_⟩⟩
    rw [jk (List.Perm.refl _) (List.Perm.refl _) (List.Perm.refl _), ← hkW] at hag
    have s05 : Same G G5 := s04.trans sG5
    have bH5 : But a H G5 := bHG.trans (Same.but s05)
    have hd5 := bH5 _ _ hda hd
    have sd5 : SameD G5 6 (.ref ag) (.ref d) := by
      rw [hkW] at hag hd5
      exact (same_kv hag hd5 (by omega) hZ).up 3
    refine ⟨_, rfl, _, rfl, _, _, rfl, sd5, fun G6 sG6 => ⟨true, rfl, iteF ?_⟩⟩
    have s06 : Same G G6 := s05.trans sG6
    refine ⟨_, rfl, D, [u1, u2, u3], [kvOf ks1 gM, kvOf ks2 gO, kvOf ks3 gT], rfl, s06 _ _ eDG, .cons ⟨s06 _ _ hu1, t1'⟩ (.cons ⟨s06 _ _ hu2, t4⟩ (.cons ⟨s06 _ _ hu3, t7⟩ .nil)), t10, t11, ?_⟩
    refine ⟨_, rfl, rfl, false, congrArg V.bl (by rw [decide_eq_true rfl]; rfl), iteF ?_⟩
    -- bent ones
    have bH6 : But a H G6 := bHG.trans (Same.but s06)
    have sp6G : SpAt G6 a (m + 3000) := spG.same s06
    refine ⟨4, rfl, by decide, by decide, for_range (n := 4) (fun j σ G' => ∃ w10 w12 w13 w14 w15 w16, σ = [some (.ref a), some (.ref p1), some (.ref p2), some (.ref d), some (.ref n), some (.ref o), some (.ref SL), some (.ref su), some (.ref D), some (.str (PyData.list (List.map dictD [kvOf ks1 gM, kvOf ks2 gO, kvOf ks3 gT])).shown), w10, some (.ref ag), w12, w13, w14, w15, w16, none] ∧ SpAt G' a (m + 3000 + 10 * j) ∧ But a G6 G')
      ⟨_, _, _, _, _, _, rfl, sp6G, Same.but (Same.refl G6)⟩ ?_ ?_⟩
    rotate_left
    · rintro σ G' ⟨w10, w12, w13, w14, w15, w16, rfl, spE, bE⟩
      obtain ⟨o3, ho3, hok3⟩ := spE
      exact q _ ⟨o3, ho3, hok3.mono (by omega)⟩ (bH6.trans bE)
    rintro j σ G7 hj ⟨w10, w12, w13, w14, w15, w16, rfl, sp7, b7⟩
    have suG7 := b7 _ _ (noa su6) (s06 _ _ suG)
    refine ⟨_, rfl, su, kvOf M gT, rfl, suG7, fun H8 pi ts s78 hpi hts hpt epi tpi => ?_⟩
    replace s78 : Same G7 H8 := s78
    refine ⟨pi, ts, _, rfl, SqL.of epi, Paired.mono (fun t kv h => SqT.of h) tpi, fun be hbe => ?_⟩
    rw [merge_self (by rw [keys_kv]; exact nodup_keys Mnd)]
    generalize hE : upd H8 be _ = H9
    have sH9 : Same H8 H9 := hE ▸ same_upd hbe
    have ebe := congrFun hE.symm be
    rw [upd_same] at ebe
    clear hE
    have s79 := s78.trans sH9
    have b69 : But a G6 H9 := b7.trans (Same.but s79)
    have sp9 : SpAt H9 a (m + 3000 + 10 * j) := sp7.same s79
    have noa6 : ∀ {b : Addr} {u : HO}, H b = some u → u ≠ .lst [V.int xsp, V.int ysp, V.int csp] → b ≠ a := fun e hne q => by rw [q, hosp] at e; cases e; exact hne rfl
    have hna : n ≠ a := Ne.symm han
    have hoa : o ≠ a := Ne.symm hao
    have hn9 := b69 _ _ hna (bH6 _ _ hna hn)
    have ho9 := b69 _ _ hoa (bH6 _ _ hoa ho)
    have bea : be ≠ a := fun e => by
      obtain ⟨o', ho', _⟩ := sp7.same s78
      rw [e, ho'] at hbe; cases hbe
    refine ⟨_, rfl, _, rfl, a, n, M.map V.str, _, rfl, han, sp9, by omega, hn9, by rw [List.length_map]; omega, by rw [List.length_map]; omega, fun v o9 hv hok9 => ⟨_, _, rfl, ?_⟩⟩
    obtain ⟨x, hxM, rfl⟩ := List.mem_map.mp hv
    have b910 : But a H9 (upd H9 a o9) := But.upd
    have sp10 : SpAt (upd H9 a o9) a (m + 3000 + 10 * j + 1) := ⟨o9, upd_same, hok9⟩
    generalize upd H9 a o9 = H10 at b910 sp10
    have b610 : But a G6 H10 := b69.trans b910
    have ebe10 := b910 _ _ bea ebe
    have ho10 := b910 _ _ hoa ho9
    -- bent[one] = bent[one] + ..
    refine ⟨_, rfl, _, rfl, be, _, rfl, (val_kv hxM) ▸ DGet.k (k := (Sum.inr x : Key)) ebe10, _, rfl, ?_⟩
    refine ⟨_, rfl, _, rfl, _, rfl, o, _, rfl, .inl (SqL.of ho10), _, _, rfl, rfl, by unfold CPow; decide, by show 6 ≤ sizeLine; decide, fun PL hPL => ?_⟩
    generalize hE : upd H10 PL _ = H11
    have sH11 : Same H10 H11 := hE ▸ same_upd hPL
    have ePL := congrFun hE.symm PL
    rw [upd_same] at ePL
    clear hE
    have sp11 := sp10.same sH11
    have aPL : a ≠ PL := fun e => by
      obtain ⟨o', ho', _⟩ := sp10
      rw [← e, ho'] at hPL; cases hPL
    refine ⟨a, PL, _, _, rfl, aPL, sp11, by omega, ePL, by simp, by simp, fun v2 o11 hv2 hok11 => ?_⟩
    obtain ⟨tt, rfl⟩ : ∃ tt : Int, v2 = .int tt := by
      simp only [List.mem_cons, List.not_mem_nil, or_false] at hv2
      rcases hv2 with rfl | rfl | rfl | rfl | rfl | rfl <;> exact ⟨_, rfl⟩
    have b1112 : But a H11 (upd H11 a o11) := But.upd
    have sp12 : SpAt (upd H11 a o11) a (m + 3000 + 10 * j + 1 + 1) := ⟨o11, upd_same, hok11⟩
    generalize upd H11 a o11 = H12 at b1112 sp12
    have b612 : But a G6 H12 := (b610.trans (Same.but sH11)).trans b1112
    have ebe12 := b1112 _ _ bea (sH11 _ _ ebe10)
    refine ⟨_, _, rfl, rfl, ?_⟩
    refine ⟨_, rfl, _, rfl, be, _, rfl, DPut.k (k := (Sum.inr x : Key)) ebe12 (by rw [show (kvOf M gT).length = M.length from List.length_map _]; exact Nat.lt_of_le_of_lt (show M.length ≤ 20 by omega) (by decide)), ?_⟩
    rw [put_kv hxM]
    generalize hgB : (fun u => if u = x then gT x + tt else gT u) = gB
    have ebe13 : (upd H12 be (.dK (kvOf M gB))) be = some (.dK (kvOf M gB)) := upd_same
    have b13 : But be H12 (upd H12 be (.dK (kvOf M gB))) := But.upd
    generalize upd H12 be (.dK (kvOf M gB)) = H13 at ebe13 b13
    have hbe6 : G6 be = none := b7.free (s78.free hbe) sp7.ne
    have b613 : But a G6 H13 := fun b u hb e => b13 _ _ (ne_of_none e hbe6) (b612 _ _ hb e)
    have sp13 : SpAt H13 a (m + 3000 + 10 * j + 1 + 1) := by
      obtain ⟨o', ho', hok'⟩ := sp12
      exact ⟨o', b13 _ _ (Ne.symm bea) ho', hok'⟩
    have toG6 : ∀ {b u}, G b = some u → G6 b = some u := fun e => s06 _ _ e
    have e1a' := noa e16
    have e2a' := noa e26
    have SLa : SL ≠ a := fun e => by rw [e] at eS4; rw [s14 _ _ hosp] at eS4; cases eS4
    have eS13 := b613 _ _ SLa (toG6 eS6)
    have e113 := b613 _ _ e1a' (toG6 e1G)
    have e213 := b613 _ _ e2a' (toG6 e2G)
    have ho13 := b613 _ _ hoa (bH6 _ _ hoa ho)
    have b613H : But a H H13 := bH6.trans b613
    have hp1_13 := keepP b613H hp1
    have hp2_13 := keepP b613H hp2
    -- due
    refine ⟨_, rfl, SL, _, 0, .ref e1, rfl, rfl, SqL.of eS13, rfl, _, rfl, o, _, rfl, .inl (SqL.of ho13), _, rfl, e1, O.length, be, M, gM, kvOf M gB, congrArg (fun i : Nat => [V.ref e1, V.int (i : Int), V.ref be]) (List.length_map _), e113, ebe13, fun z hz => by rw [place_kv hz]; exact val_kv hz, Mnd, by omega, by omega, by omega, fun due H14 hdue s14' => ?_⟩
    replace s14' : Same H13 H14 := s14'
    -- clash
    have eS14 := s14' _ _ eS13
    refine ⟨_, rfl, _, rfl, SL, _, 1, .ref e2, rfl, rfl, SqL.of eS14, rfl, _, rfl, _, rfl, SL, _, 0, .ref e1, rfl, rfl, SqL.of eS14, rfl, _, rfl, ?_⟩
    have pr := List.Perm.refl M
    have prO := List.Perm.refl O
    refine st_nil ⟨rfl, rfl, five_good (hp1_13.same s14') (hp2_13.same s14') hnd hpool h2M h2O h20 (s14' _ _ e113) (s14' _ _ e213) (s14' _ _ ebe13) pr prO pr sM sO fun clash H15 hcl s15' => ?_⟩
    replace s15' : Same H14 H15 := s15'
    have s1315 := s14'.trans s15'
    -- told
    have eS15 := s1315 _ _ eS13
    refine ⟨_, rfl, _, rfl, SL, _, 0, .ref e1, rfl, rfl, SqL.of eS15, rfl, _, rfl, _, rfl, SL, _, 1, .ref e2, rfl, rfl, SqL.of eS15, rfl, _, rfl, ?_⟩
    cases hbar : joinBar M (kvOf M gM) O.length (kvOf M gB) with
    | some prr =>
      rw [hbar] at hdue hcl
      obtain ⟨U1, rfl, hU1⟩ := hdue
      obtain ⟨U2, rfl, hU2⟩ := hcl
      refine st_nil (five_good (hp1_13.same s1315) (hp2_13.same s1315) hnd hpool h2M h2O h20 (s1315 _ _ e113) (s1315 _ _ e213) (s1315 _ _ ebe13) pr prO pr sM sO ⟨fun _ H16 s16' => ?_, fun qq => absurd (hbar.symm.trans qq) (fun z => nomatch z)⟩)
      have hU1' := s16' _ _ (s15' _ _ hU1)
      have hU2' := s16' _ _ hU2
      refine ⟨_, rfl, by show 1 ≤ sizeLine; decide, fun A3 hA3 => ?_⟩
      generalize hE : upd H16 A3 _ = H17
      have sH17 : Same H16 H17 := hE ▸ same_upd hA3
      have eA3 := congrFun hE.symm A3
      rw [upd_same] at eA3
      clear hE
      refine ⟨_, rfl, by show 1 ≤ sizeLine; decide, fun A4 hA4 => ?_⟩
      generalize hE : upd H17 A4 _ = H18
      have sH18 : Same H17 H18 := hE ▸ same_upd hA4
      have eA4 := congrFun hE.symm A4
      rw [upd_same] at eA4
      clear hE
      have prz : prr.1 ∈ M ∧ prr.2 ∈ M := by
        obtain ⟨h1, h2, _⟩ := (mem_ahead Mnd).mp (show (prr.1, prr.2) ∈ pairsAhead M from List.mem_of_find?_eq_some hbar)
        exact ⟨h1, h2⟩
      have s1618 := sH17.trans sH18
      have sdp : SameD H18 1 (.ref U2) (.ref U1) := .tup (n := 0) (s1618 _ _ hU2') (s1618 _ _ hU1') rfl (by simp) fun i x y e1 e2 => by
        match i, e1, e2 with
        | 0, e1, e2 => cases e1; cases e2; exact .str (hZ _ (List.mem_append_left _ prz.1))
        | 1, e1, e2 => cases e1; cases e2; exact .str (hZ _ (List.mem_append_left _ prz.2))
        | i + 2, e1, e2 => simp at e1
      have sdl : SameD H18 6 (.ref A3) (.ref A4) := SameD.up (n := 2) (.lst (n := 1) (sH18 _ _ eA3) eA4 rfl (by simp) fun i x y e1 e2 => by
        match i, e1, e2 with
        | 0, e1, e2 => cases e1; cases e2; exact sdp
        | i + 1, e1, e2 => simp at e1) 4
      refine ⟨_, _, rfl, sdl, fun H19 s19' => ⟨true, rfl, iteF ?_⟩⟩
      refine ⟨_, rfl, rfl, _, rfl, rfl, rfl, false, congrArg V.bl (by simp), iteF ?_⟩
      refine ⟨_, rfl, rfl, false, rfl, iteF ?_⟩
      have s1319 : Same H13 H19 := (s1315.trans s16').trans (s1618.trans s19')
      have spE := sp13.same s1319
      obtain ⟨o3, ho3, hok3⟩ := spE
      exact ⟨_, _, _, _, _, _, rfl, ⟨o3, ho3, hok3.mono (by omega)⟩, b613.trans (Same.but s1319)⟩
    | none =>
      rw [hbar] at hdue hcl
      cases (show due = .non from hdue)
      cases (show clash = .non from hcl)
      refine st_nil (five_good (hp1_13.same s1315) (hp2_13.same s1315) hnd hpool h2M h2O h20 (s1315 _ _ e113) (s1315 _ _ e213) (s1315 _ _ ebe13) pr prO pr sM sO ⟨fun qq => absurd hbar qq, fun _ tl2 H16 htl20 htl2 s16' => ?_⟩)
      refine ⟨_, rfl, by show 1 ≤ sizeLine; decide, fun A3 hA3 => ?_⟩
      generalize hE : upd H16 A3 _ = H17
      have sH17 : Same H16 H17 := hE ▸ same_upd hA3
      have eA3 := congrFun hE.symm A3
      rw [upd_same] at eA3
      clear hE
      refine ⟨_, rfl, by show 1 ≤ sizeLine; decide, fun A4 hA4 => ?_⟩
      generalize hE : upd H17 A4 _ = H18
      have sH18 : Same H17 H18 := hE ▸ same_upd hA4
      have eA4 := congrFun hE.symm A4
      rw [upd_same] at eA4
      clear hE
      have sdl : SameD H18 6 (.ref A3) (.ref A4) := SameD.up (n := 2) (.lst (n := 1) (sH18 _ _ eA3) eA4 rfl (by simp) fun i x y e1 e2 => by
        match i, e1, e2 with
        | 0, e1, e2 => cases e1; cases e2; exact .non
        | i + 1, e1, e2 => simp at e1) 4
      refine ⟨_, _, rfl, sdl, fun H19 s19' => ⟨true, rfl, iteF ?_⟩⟩
      refine ⟨_, rfl, rfl, _, rfl, rfl, rfl, false, congrArg V.bl (by simp), iteF ?_⟩
      refine ⟨_, rfl, rfl, true, rfl, iteT ?_⟩
      have s1619 : Same H16 H19 := (sH17.trans sH18).trans s19'
      have s1319 : Same H13 H19 := (s1315.trans s16').trans s1619
      have htl19 := s1619 _ _ htl2
      -- list(told) != mine + theirs
      have hnc2 : NoCl M O (kvOf M gM) (placeOf (kvOf M gB)) := (bar_none Mnd).mp hbar
      have sJ := join_sta sM sO hnd (by omega) (by omega) hnc2
      have jsum : ∀ z ∈ M, sumsZ O (M ++ O) (joinKv M O (kvOf M gM) (kvOf O gO) (placeOf (kvOf M gB))) z = gB z := fun z hz => by
        have e := join_sums sM sO hnd (by omega) (by omega) hnc2 hz
        rw [place_kv hz] at e
        exact e
      have jm := join_m sM sO hnd (by omega) (by omega) hnc2
      have jo := join_o sM sO hnd (by omega) (by omega) hnc2
      rw [show kvOf M (placeOf (kvOf M gM)) = kvOf M gM from kvOf_congr' fun z hz => place_kv hz] at jm
      rw [show kvOf O (placeOf (kvOf O gO)) = kvOf O gO from kvOf_congr' fun z hz => place_kv hz] at jo
      have hb19 := b613.trans (Same.but s1319)
      have hn19 := hb19 _ _ hna (bH6 _ _ hna hn)
      have ho19 := hb19 _ _ hoa (bH6 _ _ hoa ho)
      have eS19 := s1319 _ _ eS13
      have ebe19 := s1319 _ _ ebe13
      have e119 := s1319 _ _ e113
      have e219 := s1319 _ _ e213
      generalize hJ : joinKv M O (kvOf M gM) (kvOf O gO) (placeOf (kvOf M gB)) = J at *
      have hJk := sJ.kv
      have cat : ∀ {A : Hp} {σ : St} {R : VK}, σ[4]? = some (some (.ref n)) → σ[5]? = some (some (.ref o)) → Same H19 A → (∀ L A', A' L = some (.lst ((M ++ O).map V.str)) → Same A A' → R (.ref L) A') → tOp rCat (tVar 4) (tVar 5) σ A R := fun {A σ R} h4 h5 sA k => by
        refine ⟨_, h4, _, h5, n, o, _, _, rfl, rfl, sA _ _ hn19, sA _ _ ho19, ?_, fun R2 hR => ?_⟩
        · rw [List.length_map, List.length_map]
          exact Nat.le_of_lt (Nat.lt_of_le_of_lt (show M.length + O.length ≤ 800 by omega) (by decide))
        · rw [show (M.map V.str ++ O.map V.str) = (M ++ O).map V.str from List.map_append.symm]
          exact k _ _ upd_same (same_upd hR)
      refine ⟨_, rfl, tl2, _, rfl, htl19, fun LK hLK => ?_⟩
      rw [hJk, keys_list]
      generalize hE : upd H19 LK _ = H20
      have sH20 : Same H19 H20 := hE ▸ same_upd hLK
      have eLK := congrFun hE.symm LK
      rw [upd_same] at eLK
      clear hE
      refine cat rfl rfl sH20 fun L1 H21 eL1 s21 => ?_
      have okL : ∀ z ∈ M ++ O, PyData.strOk z = true := fun z hz => pool_ok z (hpool z hz)
      refine ⟨.list ((M ++ O).map PyData.str), .list ((M ++ O).map PyData.str), .lst (.inl (.inl (s21 _ _ eLK))) dp_all, .lst (.inl (.inl eL1)) dp_all, L2.shaped_strs okL, L2.shaped_strs okL, false, ?_, iteF ?_⟩
      · show V.bl (!PyData.eqvAll ((M ++ O).map PyData.str) ((M ++ O).map PyData.str)) = V.bl false
        rw [L2.eqv_strs, decide_eq_true rfl]
        rfl
      have s1921 := sH20.trans s21
      refine cat rfl rfl s1921 fun L3 H22 eL3 s22 => ?_
      have s1922 := s1921.trans s22
      refine ⟨_, rfl, L3, M ++ O, .ref tl2, .dict, rfl, eL3, by omega, by omega, .dict (s1922 _ _ htl19), (fun z => nomatch z), fun _ => ⟨tl2, J, rfl, s1922 _ _ htl19, by rw [hJk]; exact kv_th, fun H23 s23 => ?_⟩⟩
      rw [sJ.ok]
      refine ⟨true, rfl, iteF ?_⟩
      have s1923 := s1922.trans s23
      refine ⟨_, rfl, _, rfl, _, rfl, tl2, n, o, M, O, M ++ O, J, rfl, s1923 _ _ htl19, sJ, s1923 _ _ hn19, s1923 _ _ ho19, fun z hz => List.mem_append_left _ hz, fun z hz => List.mem_append_right _ hz, Mnd, by omega, by omega, by omega, fun se H24 hse0 hse s24 => ?_⟩
      rw [kvOf_congr' jsum] at hse
      have s1924 := s1923.trans s24
      obtain ⟨f1, f2, f3⟩ := flat_kv (ks := M) (g := gB)
      refine ⟨_, rfl, se, be, _, _, rfl, rfl, hse, s1924 _ _ ebe19, f1, f2, ?_⟩
      rw [f3]
      refine ⟨false, rfl, iteF ?_⟩
      -- both halves
      refine ⟨_, rfl, _, rfl, tl2, n, M, M ++ O, J, rfl, s1924 _ _ htl19, sJ, hnd, by omega, s1924 _ _ hn19, Mnd, by omega, fun z hz => List.mem_append_left _ hz, fun x1 H25 hx10 hx1 s25 => ?_⟩
      rw [jm] at hx1
      have s1925 := s1924.trans s25
      refine ⟨_, rfl, _, rfl, tl2, o, O, M ++ O, J, rfl, s1925 _ _ htl19, sJ, hnd, by omega, s1925 _ _ ho19, Ond, by omega, fun z hz => List.mem_append_right _ hz, fun x2 H26 hx20 hx2 s26 => ?_⟩
      rw [jo] at hx2
      have s1926 := s1925.trans s26
      refine ⟨by show 2 ≤ sizeLine; decide, fun X0 hX0 => ?_⟩
      generalize hE : upd H26 X0 _ = H27
      have sH27 : Same H26 H27 := hE ▸ same_upd hX0
      have eX0 := congrFun hE.symm X0
      rw [upd_same] at eX0
      clear hE
      have s1927 := s1926.trans sH27
      have ne1 : x1 ≠ e1 := Ne.symm (ne_of_none (s1924 _ _ e119) hx10)
      have ne2 : x2 ≠ e2 := Ne.symm (ne_of_none (s1925 _ _ e219) hx20)
      refine ⟨_, rfl, X0, SL, [x1, x2], [e1, e2], rfl, rfl, eX0, s1927 _ _ eS19, .cons (alike_kv ne1 (sH27 _ _ (s26 _ _ hx1)) (s1927 _ _ e119)) (.cons (alike_kv ne2 (sH27 _ _ hx2) (s1927 _ _ e219)) .nil), ?_⟩
      refine ⟨false, rfl, iteF ?_⟩
      have s1327 := s1319.trans s1927
      obtain ⟨o3, ho3, hok3⟩ := sp13.same s1327
      exact ⟨_, _, _, _, _, _, rfl, ⟨o3, ho3, hok3.mono (by omega)⟩, b613.trans (Same.but s1327)⟩

end
end RK

/-! several except clauses, each with a name (the same one) -/
namespace L2
open PySem PySem.Spec PyProof.Rows
/-- what the clauses wish of an exception of the body, one after the other: slot i is the name's -/
def wManyAs (K : PySem.W.Frag) (len i : Nat) (Wout : WX) (D : Ends) : List (Value × (Addr → Value → Option Addr → TS)) → WX
  | [] => Wout
  | (c, ts) :: r => fun cls d σ H => ∃ b, PySem.W.exmOne K cls c = some b ∧ (b = true → σ.length = len → ∀ a, H a = none → ts a cls d { nx := fun σ' H' => D.nx (σ'.set i none) H', rt := D.rt, bk := fun σ' H' => D.bk (σ'.set i none) H', ct := fun σ' H' => D.ct (σ'.set i none) H' } (σ.set i (some (.ref a))) H) ∧ (b = false → wManyAs K len i Wout D r cls d σ H)
inductive HdsAs (X : Cx) (n : Str) : List ExceptHandler → List (Value × (Addr → Value → Option Addr → TS)) → Prop
  | nil : HdsAs X n [] []
  | cons {x : Str} {c : Value} {ts : Addr → Value → Option Addr → TS} {b₀ : Stmt} {suite : List Stmt} {np pos' : Pos} {hds : List ExceptHandler} {l : List (Value × (Addr → Value → Option Addr → TS))} (hc : Names X x c)
      (hsu : ∀ (a : Addr) (oe : Obj) (cls : Value) (d : Option Addr) (pn : List (Addr × Obj)), Zc cls d oe → (∃ vs, oe.data = .fields vs) → PSs (X.suite a ((a, oe) :: pn)) (b₀ :: suite) (ts a cls d)) (r : HdsAs X n hds l) :
      HdsAs X n (.ExceptHandler (some (.Name x np)) (some n) (b₀ :: suite) pos' :: hds) ((c, ts) :: l)
section
variable {X : Cx} {n : Str} {i : Nat} {body : List Stmt} {h₀ : ExceptHandler} {hds : List ExceptHandler} {l : List (Value × (Addr → Value → Option Addr → TS))} {pos : Pos} {tb : WX → TS} {Wout : WX}
theorem ps_try_manyAs (hs : X.stack = X.env :: X.outer) (hf : X.env.frame = some X.env.locals) (hN : X.N.Nodup) (hi : X.N[i]? = some n) (hln : X.env.kindOf n = some .local) (tk : Takes X Wout)
    (hb : ∀ (W : WX) (pn : List (Addr × Obj)) (xe : Value → Shared → Prop), Takes (X.tr pn xe) W → PassesOwn (model X.prog X.w) X.A X.env xe → PSs (X.tr pn xe) body (tb W))
    (hh : HdsAs X n (h₀ :: hds) l) : PS X (.Try body (h₀ :: hds) [] [] pos) (fun D σ H => tb (wManyAs X.K X.N.length i Wout D l) D σ H) := by
  refine ⟨fun pins s σ H D I h => ?_⟩
  have ok := I.ok
  have hfr : X.A.frames = some (X.env :: X.outer) := by rw [ok.frames, hs]
  have hloc : Loc X.env.scope n := .inl hln
  refine wpAny_Try_except ?_
  refine wpAny_mono ((hb (wManyAs X.K X.N.length i Wout D l) (X.pn ++ pins) (fun e s₁ => wpAny (model X.prog X.w) X.A (noteFrame e X.env) (fun _ s₂ => wpAny (model X.prog X.w) X.A (setFlight e none) (fun _ s₃ =>
    wpAny (model X.prog X.w) X.A (handleBy e X.env (h₀ :: hds)) (SP X pins D) X.xe s₃) X.xe s₂) X.xe s₁) (fun u s' xx => ?_) PassesOwn.looking).run [] s σ H D (I.toTry _) h) (fun f s1 hsp => ?_) (fun e s1 he => he)
  · -- the catch
    obtain ⟨a, B, sI, pins', σ', H', cls, d, rfl, J', nb, up, sky, na, os, ag, w⟩ := xx
    have J : Inv X pins σ' H' sI := J'.ofTry ok
    have sky' : Sky B (X.env :: X.outer) a (Zc cls d) X.env.locals s'.heap := by rw [← hs]; exact sky
    show wpAny (model X.prog X.w) X.A (noteFrame (.ref a) X.env) _ _ _
    refine Sky.land Zc.steady hfr hf sky' fun h3 fl3 up3 => ?_
    have J3 : Inv X pins σ' H' { s' with heap := h3 } := J.landed nb fl3.1 (up.trans up3) os ag
    obtain ⟨oe3, vs3, he3, hz3, hd3⟩ := fl3.there
    have notFr : ∀ {h : Heap} {o : Obj} {vs : Array Value}, h.FunFrames B (X.env :: X.outer) → h.get? a = some o → o.data = .fields vs → a ∉ frs (X.env :: X.outer) := fun {h o vs} ff e dd hm => by
      obtain ⟨_, o', e', hnf⟩ := ff.mem hm
      rw [e] at e'; cases e'
      exact hnf _ dd
    have nfr := notFr fl3.2.2.1 he3 hd3
    have nL : a ≠ X.env.locals := fun z => nfr (List.mem_filterMap.mpr ⟨X.env, List.mem_cons_self, by rw [hf, z]⟩)
    have nF : a ∉ X.fs := fun hm => by
      obtain ⟨e, he, q⟩ := List.mem_filterMap.mp hm
      exact nfr (List.mem_filterMap.mpr ⟨e, List.mem_cons_of_mem _ he, q⟩)
    have S3 := J3.suite he3 hd3 na nL nF
    have go : ∀ {hds' : List ExceptHandler} {l' : List (Value × (Addr → Value → Option Addr → TS))}, HdsAs X n hds' l' → wManyAs X.K X.N.length i Wout D l' cls d σ' H' →
        wpAny (model X.prog X.w) X.A (handleBy (.ref a) X.env hds') (SP X pins D) X.xe { s' with heap := h3 } := by
      intro hds' l' hk
      induction hk with
      | nil =>
        intro w
        refine wpAny_handleBy_nil ?_
        obtain ⟨k1, k2, k3, oe, vs, T, oT, ts', he, hz, hd, h1, hr⟩ := id fl3
        unfold PySem.passOn
        refine wpAny_bind (wpAny_field he hd h1 ?_)
        rw [if_neg (show ¬ ((Value.ref T == Value.none) = true) from by simp)]
        have fin : wpAny (model X.prog X.w) X.A (setFlight (.ref a) X.env.frame) (fun _ s4 => wpAny (model X.prog X.w) X.A (throw (.ref a) : Sem Flow) (SP X pins D) X.xe s4) X.xe { s' with heap := h3 } := by
          rw [hf]
          refine HandSPX.setFlight_upZ fl3 fun h4 hh4 up4 => wpAny_throw (tk _ _ ?_)
          exact ⟨a, B, sI, pins, σ', H', cls, d, rfl, J, nb, (up.trans up3).trans up4, .inr (.inr (by rw [hs]; exact hh4)), na, os, ag, w⟩
        first
          | exact wpAny_bind (wpAny_pure (wpAny_bind fin))
          | exact wpAny_bind fin
      | @cons x c ts b₀ suite np pos' hds2 l2 hc hsu r ih =>
        intro w
        obtain ⟨b, hb1, hyes, hno⟩ := w
        refine wpAny_handleBy_cons (codeAny_handlers_test ?_) (by intro q; cases q)
        have LT : PySem.W.Looks (model X.prog X.w) h3 (typeOf (.ref a)) cls := fun A Q E s k q => wpAny_typeOf_ref (k _ _ he3) (by rw [hz3.1]; exact q)
        have LM := PySem.W.exm_one (M := model X.prog X.w) (J3.kIn) LT hb1
        have test : ∀ {Q : Value → Shared → Prop} {E : Value → Shared → Prop}, Q c { s' with heap := h3 } → wpAny (model X.prog X.w) (X.A.mark (some (.ref a))) (eval (.Name x np) X.env) Q E { s' with heap := h3 } := fun {Q E} q => by
          obtain ⟨hg, hdbg, hm | ⟨hm, hv, hnn⟩⟩ := hc
          · exact ld_glob (X := X.suite a ((a, oe3) :: (X.pn ++ pins))) S3 hg hm q hdbg
          · exact ld_blt (X := X.suite a ((a, oe3) :: (X.pn ++ pins))) S3 hg hm hv q hnn hdbg
        refine test (LM.here ?_)
        cases b with
        | true =>
          refine codeAny_handlers_suite_as ?_
          refine HandSPX.lands_againZ fl3 fun h4 fl4 up4 => ?_
          have J4 : Inv X pins σ' H' { s' with heap := h4 } := J.landed nb fl4.1 ((up.trans up3).trans up4) os ag
          obtain ⟨oe4, vs4, he4, hz4, hd4⟩ := fl4.there
          have S4 := J4.suite he4 hd4 na nL nF
          refine store_ok (X := X.suite a ((a, oe4) :: (X.pn ++ pins))) (v := .ref a) S4 hN hi hloc rfl (fun s5 S5 => ?_) (.inr hln)
          refine wpAny_mono ((hsu a oe4 cls d (X.pn ++ pins) hz4 ⟨_, hd4⟩).run [] s5 _ H' _ S5 (hyes rfl J.len a na)) (fun f s6 hsp => ?_) (fun _ _ z => False.elim z)
          have end_ : ∀ {σ6 : St} {H6 : Hp} {Q : Shared → Prop}, Inv (X.suite a ((a, oe4) :: (X.pn ++ pins))) [] σ6 H6 s6 → (∀ s7, Inv X pins (σ6.set i none) H6 s7 → Q s7) →
              wpAny (model X.prog X.w) X.A (do bindName X.env n .none; unbindBehindTheSuite X.env n pos') (fun _ s7 => Q s7) X.xe s6 := fun {σ6 H6 Q} S6 hq => gone_ok (S6.unsuite ok) hN hi hln hq
          cases f with
          | next =>
            obtain ⟨σ6, H6, S6, q6⟩ := hsp
            exact end_ S6 fun s7 J7 => ⟨_, _, J7, q6⟩
          | brk =>
            obtain ⟨σ6, H6, S6, q6⟩ := hsp
            exact end_ S6 fun s7 J7 => ⟨_, _, J7, q6⟩
          | cont =>
            obtain ⟨σ6, H6, S6, q6⟩ := hsp
            exact end_ S6 fun s7 J7 => ⟨_, _, J7, q6⟩
          | ret u =>
            obtain ⟨v6, σ6, H6, S6, r6, q6⟩ := hsp
            exact end_ S6 fun s7 J7 => ⟨_, _, _, J7, r6, q6⟩
        | false =>
          show wpAny _ X.A (handleBy (.ref a) X.env hds2) _ _ _
          exact ih (hno rfl)
    exact go hh w
  · cases f with
    | next =>
      obtain ⟨σ', H', J', q⟩ := hsp
      exact wpAny_execs_nil ⟨σ', H', J'.ofTry ok, q⟩
    | brk =>
      obtain ⟨σ', H', J', q⟩ := hsp
      exact ⟨σ', H', J'.ofTry ok, q⟩
    | cont =>
      obtain ⟨σ', H', J', q⟩ := hsp
      exact ⟨σ', H', J'.ofTry ok, q⟩
    | ret u =>
      obtain ⟨v, σ', H', J', r, q⟩ := hsp
      exact ⟨v, σ', H', J'.ofTry ok, r, q⟩
end
end L2

namespace L2
open PySem PySem.Spec PyProof.Rows
/-! a local name that holds one of several defs, which may raise -/
structure HeldX (P : Program) (w : World) (K : PySem.W.Frag) (mg : Str → Option Value) (base : Heap) (k : Nat) (f : Addr) (sp : Sp) : Prop where
  ex : ∃ (fd : FuncData) (ps : List Str), FnOk P w K mg base (L2.CX P w) k f fd ps sp ∧ PySem.W.keepIn K (.ref f) = true ∧ Binds K fd ps []
def tCallX (i : Nat) (S : Addr → Sp → Prop) (E : XK) (t : TA) : TE := fun σ H Q => ∃ f sp, σ[i]? = some (some (.ref f)) ∧ S f sp ∧ t σ H fun vs H1 => sp vs H1 Q E
theorem pe_callX {X : Cx} {k i : Nat} {E : XK} {x : Str} {p pos : Pos} {e : Expr} {es : List Expr} {t : TA} {S : Addr → Sp → Prop} (A : ∀ f sp, S f sp → HeldX X.prog X.w X.K X.mg X.base k f sp) (hr : Room k X.A) (hN : X.N[i]? = some x) (hv : Vis X.env.scope x) (hx : Passes (L2.CX X.prog X.w) X E) (ha : PA X (e :: es) t)
    (hdb : (x == ("__debug__" : Str)) = false := by decide) (hcd : (x == ("__classdict__" : Str)) = false := by decide)
    (he : starEach (e :: es) X.env = (false, eval e X.env) :: starEach es X.env := by rfl) (hpl : (backTo pos (starEach es X.env)).any (·.1) = false := by rfl) : PE X (.Call (.Name x p) (e :: es) [] pos) (tCallX i S E t) := by
  refine ⟨fun pins s σ H Q I h => ?_⟩
  obtain ⟨f, sp, hs, hS, ht⟩ := h
  obtain ⟨fd, ps, F, hk, hb⟩ := (A f sp hS).ex
  refine (pe_callL (i := i) (f := f) (sp := sp) (dvs := []) (E := E) F hr hN hv hk hb .nil hx ha hdb hcd he hpl).run pins s σ H Q I ⟨hs, ?_⟩
  have e0 : (fun (vs : List V) (H1 : Hp) => sp (vs ++ []) H1 Q E) = fun vs H1 => sp vs H1 Q E := by
    funext vs H1
    rw [List.append_nil]
  show t σ H (fun vs H1 => sp (vs ++ []) H1 Q E)
  rw [e0]
  exact ht
end L2

namespace RK
open PySem L2 LamX
/-! ### what is told, or how it is refused -/
/-- the error at d says v of its field: the pair of the word and v is told -/
def Says (C : Addr) (f : Str) (z : Str) (Q : VK) (cls : Value) (d : Option Addr) (H : Hp) : Prop := cls = .ref C ∧ ∃ d' v, d = some d' ∧ H d' = some (.xd [(f, v)]) ∧ ∀ p, H p = none → Q (.ref p) (upd H p (.tup [.str z, v]))
/-- what an exception of the asked one must answer -/
def metW (K : PySem.W.Frag) (CP CS CO CU : Addr) (Q : VK) : XK := fun cls d H' => ∃ b, PySem.W.exmOne K cls (.ref CP) = some b ∧ (b = true → Says CP "thing" "path" Q cls d H') ∧ (b = false → ∃ b, PySem.W.exmOne K cls (.ref CS) = some b ∧ (b = true → Says CS "stand" "stand" Q cls d H') ∧ (b = false → ∃ b, PySem.W.exmOne K cls (.ref CO) = some b ∧ (b = true → Says CO "name" "common" Q cls d H') ∧ (b = false → ∃ b, PySem.W.exmOne K cls (.ref CU) = some b ∧ (b = true → Says CU "sums" "sums" Q cls d H') ∧ (b = false → False))))
def TTmet (K : PySem.W.Frag) (CP CS CO CU : Addr) : (XK → Hp → VK → Prop) → Hp → VK → Prop := fun tl H Q =>
  tl (metW K CP CS CO CU Q) H fun v H' => 2 ≤ sizeLine ∧ ∀ p, H' p = none → Q (.ref p) (upd H' p (.tup [.str "told", v]))
theorem scMet : FnScope ["ask", "e"] ["ask"] (defScope sMet) := ⟨rfl, rfl, rfl, by decide +kernel, rfl, by decide +kernel, by decide +kernel⟩
theorem xfc_at {P : Program} {K : PySem.W.Frag} {mg : Str → Option Value} {nm fld : Str} {C f : Addr} (T : ErrAt P K mg nm fld C f) : XfC K C := ⟨T.x.ga, T.x.gg, T.x.exC, T.x.hdC⟩
section
variable {X : Cx} {CP fP CS fS CO fO CU fU : Addr}
theorem met_gives {g : Addr} {cdg : Value} {q : Str} (TP : ErrAt X.prog X.K X.mg "BadPath" "thing" CP fP) (TS : ErrAt X.prog X.K X.mg "BadStand" "stand" CS fS) (TO : ErrAt X.prog X.K X.mg "CommonWalker" "name" CO fO) (TU : ErrAt X.prog X.K X.mg "BadSums" "sums" CU fU) :
    GivesTo X ["ask", "e"] "_law_met" (defScope sMet) g cdg (defBody sMet) "ask" q (TTmet X.K CP CS CO CU) := by
  intro f c' s H Q tl act hc h
  refine ⟨_, pss_one (ps_try_manyAs (X := (cxOf C8.CX0 X.prog X.w X.K X.mg X.base ["ask", "e"] "_law_met" (defScope sMet) g cdg X.A X.stack s H C8.E0).nox) (i := 1) (n := "e")
      (tb := fun W D σ H => ∃ Ech : XK, (∀ cls d σ' H', Ech cls d H' → W cls d σ' H') ∧ σ[0]? = some (some (.ref f)) ∧ H c' = some (CodeO c' q) ∧ tl Ech H (fun v H' => 2 ≤ sizeLine ∧ ∀ p, H' p = none → D.rt (.ref p) (upd H' p (.tup [.str "told", v]))))
      (l := [(.ref CP, fun a cls d => tRet (tTup (tCons (tC (.str "path")) (tCons (tXf a cls d CP "thing" (tVar 1)) tNil)))), (.ref CS, fun a cls d => tRet (tTup (tCons (tC (.str "stand")) (tCons (tXf a cls d CS "stand" (tVar 1)) tNil)))), (.ref CO, fun a cls d => tRet (tTup (tCons (tC (.str "common")) (tCons (tXf a cls d CO "name" (tVar 1)) tNil)))), (.ref CU, fun a cls d => tRet (tTup (tCons (tC (.str "sums")) (tCons (tXf a cls d CU "sums" (tVar 1)) tNil))))])
      rfl rfl scMet.nd rfl rfl L2.takes0 (fun W pn xe tk _ => ?_)
      (.cons ⟨rfl, by decide, Or.inl TP.g⟩ (fun a oe cls d pn hz hf => pss_one (ps_ret (by exact (pe_tup (pa_cons pe_str (pa_cons (by exact (pe_xf (xfc_at TP) TP.x.noN hz hf (pv 1))) pa_nil)))))) (.cons ⟨rfl, by decide, Or.inl TS.g⟩ (fun a oe cls d pn hz hf => pss_one (ps_ret (by exact (pe_tup (pa_cons pe_str (pa_cons (by exact (pe_xf (xfc_at TS) TS.x.noN hz hf (pv 1))) pa_nil)))))) (.cons ⟨rfl, by decide, Or.inl TO.g⟩ (fun a oe cls d pn hz hf => pss_one (ps_ret (by exact (pe_tup (pa_cons pe_str (pa_cons (by exact (pe_xf (xfc_at TO) TO.x.noN hz hf (pv 1))) pa_nil)))))) (.cons ⟨rfl, by decide, Or.inl TU.g⟩ (fun a oe cls d pn hz hf => pss_one (ps_ret (by exact (pe_tup (pa_cons pe_str (pa_cons (by exact (pe_xf (xfc_at TU) TU.x.noN hz hf (pv 1))) pa_nil)))))) .nil))))), ?_⟩
  · refine ⟨fun pins s' σ H' D I h' => ?_⟩
    obtain ⟨Ech, hW, h1, h2, h3⟩ := h'
    exact (pss_one (ps_ret (pe_tup (pa_cons pe_str (pa_cons (act W pn xe Ech _ _ tk hW) pa_nil))))).run pins s' σ H' D I ⟨h1, h2, h3⟩
  · have say : ∀ {a : Addr} {cls : Value} {d : Option Addr} {C : Addr} {fld z : Str} {H' : Hp} {σ' : St} {D : Ends}, (∀ v H', Q v H' → D.rt v H') → Says C fld z Q cls d H' → σ'.length = 2 →
        tRet (tTup (tCons (tC (.str z)) (tCons (tXf a cls d C fld (tVar 1)) tNil))) D (σ'.set 1 (some (.ref a))) H' := by
      rintro a cls d C fld z H' σ' D hQ ⟨hc, d', v, hd, hH, q⟩ hl
      refine ⟨_, by rw [List.getElem?_set_self (by omega)], rfl, hc, d', _, v, hd, hH, by simp [List.lookup], by show 2 ≤ sizeLine; decide, fun p hp => hQ _ _ (q p hp)⟩
    refine ⟨_, fun cls d σ' H' ⟨b, e1, e2, e3⟩ => ⟨b, e1, fun hb hl a na => say (fun _ _ q => q) (e2 hb) hl, fun hb => ?_⟩, rfl, hc, h⟩
    obtain ⟨b, e1, e2, e3⟩ := e3 hb
    refine ⟨b, e1, fun hb hl a na => say (fun _ _ q => q) (e2 hb) hl, fun hb => ?_⟩
    obtain ⟨b, e1, e2, e3⟩ := e3 hb
    refine ⟨b, e1, fun hb hl a na => say (fun _ _ q => q) (e2 hb) hl, fun hb => ?_⟩
    obtain ⟨b, e1, e2, e3⟩ := e3 hb
    exact ⟨b, e1, fun hb hl a na => say (fun _ _ q => q) (e2 hb) hl, fun hb => e3 hb⟩
end
/-! ### asked, refused -/
def qLam : Str := "_law_refused_right.<locals>.<lambda>"
section
variable {X : Cx} {CP fP CS fS CO fO CU fU fM c Pt : Addr} {fdM : FuncData} {k : Nat} {T : List (Addr × Str)} {params : Arguments} {body : Expr} {scope : Scope} {t : XK → TE} {p lpos pos : Pos}
theorem pe_met (FM : Fun X.K "_law_met" "_law_met" sMet fM fdM) (bM : Binds X.K fdM ["ask"] []) (gM : X.mg "_law_met" = some (.ref fM)) (kM : PySem.W.keepIn X.K (.ref fM) = true)
    (TP : ErrAt X.prog X.K X.mg "BadPath" "thing" CP fP) (TS : ErrAt X.prog X.K X.mg "BadStand" "stand" CS fS) (TO : ErrAt X.prog X.K X.mg "CommonWalker" "name" CO fO) (TU : ErrAt X.prog X.K X.mg "BadSums" "sums" CU fU) (hg : Gl X "_law_met")
    (TB : TabB X.base X.mg c Pt) (hcode : X.env.code = .ref c) (hmT : (Pt, X.env.qual ++ "<lambda>") ∈ T) (hu : ∀ p ∈ T, p.1 = Pt → p.2 = X.env.qual ++ "<lambda>") (hr : Room (k + 2) X.A) (L : LamS X.env.scope scope) (hdef : defaultsOf params X.env = ([], []))
    (hbind : ∀ (q : Str) (cl : List (Str × Addr)) (pm cv ctv : Value), bindArgs (PySem.W.kla_fn "<lambda>" q params body scope cl pm cv ctv) ⟨[], []⟩ = pure [])
    (hbody : ∀ (A : Around) (outer : List Env) (s : Shared) (H : Hp) (E : XK) (f c' : Addr), Room k (A.deeper (lamEnv X scope s.heap.objs.size f c')) → PE (lamCx X A outer s H E scope f c') body (t E)) :
    PE X (.Call (.Name "_law_met" p) [.Lambda params body scope lpos] [] pos) (tLam T (TTmet X.K CP CS CO CU) t) := by
  obtain ⟨oc, od, kV, doc, pm, an, cdv, ct, osl, rfl, lk, hcd⟩ := FM.ex
  exact pe_lamcall hg gM kM lk hcd bM scMet rfl (.inl rfl) (met_gives TP TS TO TU) TB hcode hmT hu hr L hdef hbind hbody
end
theorem code_ne_lst {c : Addr} {q : Str} (xs : List V) : CodeO c q ≠ .lst xs := fun z => by
  unfold CodeO at z
  cases z
theorem code_ne_dK {c : Addr} {q : Str} (xs : List (Key × V)) : CodeO c q ≠ .dK xs := fun z => by
  unfold CodeO at z
  cases z
theorem tabs_keep {T : List (Addr × Str)} {H H' : Hp} (t : Tabs T H) (s : ∀ b o, (∀ xs, o ≠ .lst xs) → (∀ kvs, o ≠ .dK kvs) → H b = some o → H' b = some o) : Tabs T H' := fun p hp => by
  obtain ⟨ps, h1, h2, h3⟩ := t p hp
  refine ⟨ps, s _ _ (fun _ z => nomatch z) (fun _ z => nomatch z) h1, h2, fun pos cv hc => ?_⟩
  obtain ⟨c, e1, e2⟩ := h3 pos cv hc
  exact ⟨c, e1, s _ _ code_ne_lst code_ne_dK e2⟩
theorem one_met {K : PySem.W.Frag} {CP CS CO CU Cx : Addr} {T : List (Addr × Str)} {σ : St} {H : Hp} {R : VK} {te1 : XK → TE} {fld word : Str} {v : V} (hT : Tabs T H)
    (hw : ∀ Q d H', Says Cx fld word Q (.ref Cx) d H' → metW K CP CS CO CU Q (.ref Cx) d H')
    (h1 : ∀ (G : Hp) (Q' : VK) (E' : XK), ExtN H G → (∀ d H', Same G H' → H' d = some (.xd [(fld, v)]) → E' (.ref Cx) (some d) H') → te1 E' σ G Q')
    (fin : ∀ q G, ExtN H G → Tabs T G → G q = some (.tup [.str word, v]) → R (.ref q) G) : tLam T (TTmet K CP CS CO CU) te1 σ H R := by
  refine ⟨hT, fun G1 en1 tb1 => h1 G1 _ _ en1 fun d H2 s2 e2 => hw _ _ _ ⟨rfl, d, v, rfl, e2, fun q hq => ?_⟩⟩
  have sq := same_upd (o := .tup [V.str word, v]) hq
  have eq : (upd H2 q (.tup [V.str word, v])) q = some (.tup [V.str word, v]) := upd_same
  generalize upd H2 q (.tup [V.str word, v]) = H3 at sq eq
  exact fin q H3 ((en1.trans (ExtN.of s2)).trans (ExtN.of sq)) ((tb1.ext s2).ext sq) eq
theorem same_pair {G : Hp} {q t : Addr} {word : Str} {v : V} {k : Nat} (hq : G q = some (.tup [.str word, v])) (ht : G t = some (.tup [.str word, v])) (hw : word.length ≤ 1000) (h : SameD G k v v) : SameD G (k + 1) (.ref q) (.ref t) := by
  refine .tup hq ht rfl (by show 2 ≤ 1000; decide) fun j x y e1 e2 => ?_
  match j, e1, e2 with
  | 0, rfl, rfl => exact .str hw
  | 1, rfl, rfl => exact h
theorem SameD.extN {H H' : Hp} (s : ExtN H H') {n : Nat} {x y : V} (h : SameD H n x y) : SameD H' n x y := by
  induction h with
  | non => exact .non
  | int i => exact .int i
  | bl b => exact .bl b
  | str h => exact .str h
  | lst ha hb hl h1 h ih => exact .lst (s _ _ ha (fun _ z => nomatch z)) (s _ _ hb (fun _ z => nomatch z)) hl h1 ih
  | tup ha hb hl h1 h ih => exact .tup (s _ _ ha (fun _ z => nomatch z)) (s _ _ hb (fun _ z => nomatch z)) hl h1 ih
  | dict ha hb hl h1 hk h ih => exact .dict (s _ _ ha (fun _ z => nomatch z)) (s _ _ hb (fun _ z => nomatch z)) hl h1 hk ih
theorem Th.extN {K : PySem.W.Frag} {H H' : Hp} (s : ExtN H H') {v : V} {k : Kd} (h : Th K H v k) : Th K H' v k := by
  cases h with
  | non => exact .non
  | int i => exact .int i
  | bl b => exact .bl b
  | str h => exact .str h
  | lst e => exact .lst (s _ _ e (fun _ z => nomatch z))
  | tup e => exact .tup (s _ _ e (fun _ z => nomatch z))
  | dict e => exact .dict (s _ _ e (fun _ z => nomatch z))
  | fn e c => exact .fn e c
theorem st_name {i : Nat} {v : V} {σ : St} {H : Hp} {Q : St → Hp → Prop} (h : Q (σ.set i (some v)) H) : gName i v σ H Q := h
theorem st_seq {t u : TS} {D : Ends} {σ : St} {H : Hp} (h : t { D with nx := u D } σ H) : tSeq t u D σ H := h
theorem st_asg {te : TE} {g : TG} {D : Ends} {σ : St} {H : Hp} (h : te σ H fun x H1 => g x σ H1 D.nx) : tAsg te g D σ H := h
end RK

namespace RK
open PySem L2 LamX
/-! ### wrong things are refused -/
def AskS (K : PySem.W.Frag) (C CP CO CS CU fJ fZ : Addr) : Addr → Sp → Prop := fun f sp => (f = fJ ∧ sp = sp5G K C CP CO CS CU GoodK) ∨ (f = fZ ∧ sp = sp5G K C CP CO CS CU GoodC)
def rDP (K : PySem.W.Frag) : List V → Hp → VK → Prop := fun xs H Q => ∃ (a : Addr) (ps : List Addr) (kvs : List (Key × V)), xs = [.ref a] ∧ SqL K H a (ps.map V.ref) ∧ Paired (fun p kv => SqT K H p [kV kv.1, kv.2]) ps kvs ∧ ∀ p, H p = none → Q (.ref p) (upd H p (.dK (mergeK [] kvs)))
def ButT (a : Addr) (H H' : Hp) : Prop := ∀ b o, b ≠ a → (∀ ps, o ≠ .tbl ps) → H b = some o → H' b = some o
def spRefused (C Pt : Addr) : Sp := fun vs H Q _ => ∃ (a n o : Addr) (M O : List Str) (m : Nat), vs = [.ref a, .ref n, .ref o] ∧ a ≠ n ∧ a ≠ o ∧ SpAt H a m ∧ m < 800000000 ∧ H n = some (.lst (M.map V.str)) ∧ H o = some (.lst (O.map V.str)) ∧ (M ++ O).Nodup ∧ (∀ z ∈ M ++ O, z ∈ pool) ∧ 2 ≤ M.length ∧ 2 ≤ O.length ∧ (M ++ O).length ≤ 20 ∧ Tabs [(Pt, qLam)] H ∧
  ∀ H', SpAt H' a (m + 6000) → ButT a H H' → Tabs [(Pt, qLam)] H' → Q (.bl true) H'
theorem ExtN.same {H H1 H2 : Hp} (a : ExtN H H1) (s : Same H1 H2) : ExtN H H2 := fun b o h n => s _ _ (a b o h n)
theorem ask_two {K : PySem.W.Frag} {C CP CS CO CU fR fG Cx : Addr} {T : List (Addr × Str)} {σ : St} {H : Hp} {R : VK} {targs : TA} {fld word : Str} {v : V} (hT : Tabs T H) (hl : σ.length = 13)
    (hw : ∀ Q d H', Says Cx fld word Q (.ref Cx) d H' → metW K CP CS CO CU Q (.ref Cx) d H')
    (hargs : ∀ (f : Addr) (sp : Sp) (G : Hp) (Q' : VK) (E' : XK), AskS K C CP CO CS CU fR fG f sp → ExtN H G → Tabs T G → (∀ d H', Same G H' → H' d = some (.xd [(fld, v)]) → E' (.ref Cx) (some d) H') → targs ((σ.set 12 none).set 12 (some (.ref f))) G (fun vs H1 => sp vs H1 Q' E'))
    (fin : ∀ D p1 p2 G, H D = none → ExtN H G → Tabs T G → G D = some (.lst [.ref p1, .ref p2]) → G p1 = some (.tup [.str word, v]) → G p2 = some (.tup [.str word, v]) → R (.ref D) G) :
    tLc (iTup K (tTup (tCons (L2.tC (.ref fR)) (tCons (L2.tC (.ref fG)) tNil)))) (gName 12) tYes (tLam T (TTmet K CP CS CO CU) (fun E => tCallX 12 (AskS K C CP CO CS CU fR fG) E targs)) [12] σ H R := by
  refine ⟨by show 2 ≤ sizeLine; decide, fun p hp => ⟨p, rfl, ⟨_, SqT.of upd_same⟩, fun D hD => ?_⟩⟩
  generalize hE : upd H p _ = H1
  rw [hE] at hD
  have s1 : Same H H1 := hE ▸ same_upd hp
  have e1 := congrFun hE.symm p
  rw [upd_same] at e1
  clear hE
  have sD := same_upd (o := .lst []) hD
  refine lc_it (walk_tup (K := K) (a := p) (xs := [.ref fR, .ref fG])) (fun i G => ExtN H1 G ∧ Tabs T G ∧ ∃ ps : List Addr, ps.length = i ∧ G D = some (.lst (ps.map V.ref)) ∧ ∀ q ∈ ps, q ≠ D ∧ G q = some (.tup [.str word, v]))
    ⟨ExtN.of sD, (hT.ext s1).ext sD, [], rfl, upd_same, fun _ z => nomatch z⟩ (fun i G _ q => SqT.of (q.1 _ _ e1 (fun _ z => nomatch z))) ?_ ?_
  · rintro i x G0 G hi ⟨en, tb, ps, lp, hGD, hps⟩ ⟨rfl, hx⟩
    obtain ⟨f, sp, rfl, hS⟩ : ∃ f sp, x = .ref f ∧ AskS K C CP CO CS CU fR fG f sp := by
      match i, hx with
      | 0, hx => cases hx; exact ⟨_, _, rfl, .inl ⟨rfl, rfl⟩⟩
      | 1, hx => cases hx; exact ⟨_, _, rfl, .inr ⟨rfl, rfl⟩⟩
    refine ⟨?_, tyes ?_⟩
    · show (((σ.set 12 none).set 12 _).set 12 none) = σ.set 12 none
      rw [List.set_set, List.set_set]
    refine ⟨tb, fun G1 en1 tb1 => ?_⟩
    refine ⟨f, sp, ?_, hS, hargs f sp G1 _ _ hS (fun b o h n => en1 _ _ (en _ _ (s1 _ _ h) n) n) tb1 (fun d H' s e => ?_)⟩
    · show ((σ.set 12 none).set 12 (some (V.ref f)))[12]? = _
      rw [List.getElem?_set_self (by rw [List.length_set, hl]; decide)]
    refine hw _ _ _ ⟨rfl, d, v, rfl, e, fun q hq => ?_⟩
    have sq := same_upd (o := .tup [V.str word, v]) hq
    have hD2 : H' D = some (.lst (ps.map V.ref)) := s _ _ (en1 _ _ hGD (fun _ z => nomatch z))
    have nqD : q ≠ D := Ne.symm (ne_of_none hD2 hq)
    refine ⟨_, sq _ _ hD2, ?_, fun b o h n => ?_, ?_, ps ++ [q], by rw [List.length_append, lp]; rfl, by rw [upd_same, List.map_append]; rfl, fun r hr => ?_⟩
    · rw [List.length_map, lp]
      exact Nat.lt_trans hi (by show 2 < sizeLine; decide)
    · rw [upd_ne (ne_of_none h hD)]
      exact sq _ _ (s _ _ (en1 _ _ (en _ _ h n) n))
    · refine tabs_keep (tb1.ext fun b o h => sq _ _ (s _ _ h)) fun b o n1 _ h => ?_
      by_cases hb : b = D
      · rw [hb, sq _ _ hD2] at h
        cases h
        exact absurd rfl (n1 _)
      · rw [upd_ne hb]; exact h
    · rcases List.mem_append.mp hr with m | m
      · obtain ⟨h1, h2⟩ := hps r m
        exact ⟨h1, by rw [upd_ne h1]; exact sq _ _ (s _ _ (en1 _ _ h2 (fun _ z => nomatch z)))⟩
      · rw [List.mem_singleton.mp m]
        exact ⟨nqD, by rw [upd_ne nqD, upd_same]⟩
  · rintro G ⟨en, tb, ps, lp, hGD, hps⟩
    match ps, lp with
    | [p1, p2], _ => exact fin D p1 p2 G (s1.free hD) (fun b o h n => en _ _ (s1 _ _ h) n) tb hGD (hps p1 (by simp)).2 (hps p2 (by simp)).2
/-- what stays while things are refused -/
structure RefAt (C n o p1 t1 p2 t2 SL d1 d2 su : Addr) (M O : List Str) (k1 k2 : List (Key × V)) (G : Hp) : Prop where
  n : G n = some (.lst (M.map V.str))
  o : G o = some (.lst (O.map V.str))
  p1 : PathAt C G p1 t1 M
  p2 : PathAt C G p2 t2 O
  SL : G SL = some (.lst [.ref d1, .ref d2])
  d1 : G d1 = some (.dK k1)
  d2 : G d2 = some (.dK k2)
  su : G su = some (.dK (kvOf M fun _ => 0))
theorem RefAt.keep {C n o p1 t1 p2 t2 SL d1 d2 su : Addr} {M O : List Str} {k1 k2 : List (Key × V)} {G G' : Hp} {a : Addr} (h : RefAt C n o p1 t1 p2 t2 SL d1 d2 su M O k1 k2 G) (sp : ∃ x y c : Int, G a = some (.lst [.int x, .int y, .int c])) (s : ButT a G G') : RefAt C n o p1 t1 p2 t2 SL d1 d2 su M O k1 k2 G' := by
  obtain ⟨x, y, c, ea⟩ := sp
  have k : ∀ {b u}, G b = some u → (∀ ps, u ≠ .tbl ps) → u ≠ .lst [.int x, .int y, .int c] → G' b = some u := fun {b u} e n1 n2 => s _ _ (fun q => by rw [q, ea] at e; exact n2 (Option.some.inj e).symm) n1 e
  have ls : ∀ l : List Str, HO.lst (l.map V.str) ≠ .lst [.int x, .int y, .int c] := fun l q => by
    match l, q with
    | [], q => cases q
    | z :: r, q => cases q
  refine ⟨k h.n (fun _ z => nomatch z) (ls _), k h.o (fun _ z => nomatch z) (ls _), ?_, ?_, k h.SL (fun _ z => nomatch z) (fun z => by cases z), k h.d1 (fun _ z => nomatch z) (fun z => nomatch z), k h.d2 (fun _ z => nomatch z) (fun z => nomatch z), k h.su (fun _ z => nomatch z) (fun z => nomatch z)⟩
  · obtain ⟨dx, e⟩ := h.p1.ob
    exact ⟨⟨dx, k e (fun _ z => nomatch z) (fun z => nomatch z)⟩, k h.p1.tu (fun _ z => nomatch z) (fun z => nomatch z)⟩
  · obtain ⟨dx, e⟩ := h.p2.ob
    exact ⟨⟨dx, k e (fun _ z => nomatch z) (fun z => nomatch z)⟩, k h.p2.tu (fun _ z => nomatch z) (fun z => nomatch z)⟩
theorem ButT.trans {a : Addr} {H H1 H2 : Hp} (x : ButT a H H1) (y : ButT a H1 H2) : ButT a H H2 := fun b o hb hn e => y b o hb hn (x b o hb hn e)
theorem ButT.ext {a : Addr} {H H1 H2 : Hp} (x : ButT a H H1) (y : ExtN H1 H2) : ButT a H H2 := fun b o hb hn e => y b o (x b o hb hn e) hn
def NewN (G : Hp) (F : Addr) : Prop := ∀ o, G F = some o → ∃ ps, o = .tbl ps
theorem ExtN.new {G A : Hp} {F : Addr} (en : ExtN G A) (h : A F = none) : NewN G F := fun o e => Classical.byContradiction fun nt => by
  have e2 := en F o e fun ps z => nt ⟨ps, z⟩
  rw [h] at e2
  cases e2
theorem ext_put {G A : Hp} {F : Addr} {x : HO} (en : ExtN G A) (h0 : NewN G F) : ExtN G (upd A F x) := fun b o e nt => by
  by_cases hb : b = F
  · subst hb
    obtain ⟨ps, z⟩ := h0 o e
    exact absurd z (nt ps)
  · rw [upd_ne hb]
    exact en b o e nt
theorem tabs_put {T : List (Addr × Str)} {A : Hp} {F : Addr} {xs : List V} {x : HO} (t : Tabs T A) (e : A F = some (.lst xs)) : Tabs T (upd A F x) := tabs_keep t fun b o n1 _ eb => by
  rw [upd_ne (fun z => by rw [z, e] at eb; cases eb; exact n1 _ rfl)]
  exact eb
theorem rows_same {G : Hp} {FL RR t : Addr} {qs : List Addr} {word : Str} {v : V} {n : Nat} (hF : G FL = some (.lst (qs.map V.ref))) (hR : G RR = some (.lst (List.replicate qs.length (.ref t)))) (hq : ∀ q ∈ qs, G q = some (.tup [.str word, v])) (ht : G t = some (.tup [.str word, v])) (hw : word.length ≤ 1000) (hl : qs.length ≤ 1000) (h : SameD G n v v) : SameD G (n + 1 + 1) (.ref FL) (.ref RR) := by
  refine .lst hF hR (by rw [List.length_map, List.length_replicate]) (by rw [List.length_map]; exact hl) fun i x y e1 e2 => ?_
  rw [List.getElem?_map] at e1
  obtain ⟨q, hqi, rfl⟩ := Option.map_eq_some_iff.mp e1
  rw [List.getElem?_replicate] at e2
  split at e2
  · cases e2
    exact same_pair (hq q (List.mem_of_getElem? hqi)) ht hw h
  · cases e2
theorem Val1.extN {H H' : Hp} (s : ExtN H H') {v : V} (h : Val1 H v) : Val1 H' v := by
  cases h with
  | non => exact .non
  | int i => exact .int i
  | bl b => exact .bl b
  | str h => exact .str h
  | lst e => exact .lst (s _ _ e (fun _ z => nomatch z))
  | tup e => exact .tup (s _ _ e (fun _ z => nomatch z))
theorem OddP.extN {K : PySem.W.Frag} {H0 H H' : Hp} {b : Nat} {v : V} (h : OddP K H0 H b v) (s : ExtN H H') : OddP K H0 H' b v := by
  rcases h with ⟨k, h1, h2, h3⟩ | ⟨d, kvs, e, h1, h2, h3, h4⟩
  · exact .inl ⟨k, h1.extN s, h2, h3.extN s⟩
  · exact .inr ⟨d, kvs, e, h1, s _ _ h2 (fun _ z => nomatch z), h3, fun kv hkv => ⟨(h4 kv hkv).1, (h4 kv hkv).2.extN s⟩⟩
theorem ref_plain {H : Hp} {n : Nat} {d : Addr} {y : V} (h : SameD H n (.ref d) y) (hn : n ≤ 2) : (∃ xs, H d = some (.lst xs)) ∨ ∃ xs, H d = some (.tup xs) := by
  cases h with
  | lst ha hb hl h1 h => exact .inl ⟨_, ha⟩
  | tup ha hb hl h1 h => exact .inr ⟨_, ha⟩
  | dict ha hb hl h1 hk h => exact absurd hn (by omega)
def Odds (K : PySem.W.Frag) (zs : List Str) (H0 H : Hp) (b : Nat) (os : List V) : Prop := ∀ v ∈ os, OddP K H0 H b v ∧ ∀ dd kv, v = .ref dd → H dd = some (.dK kv) → standB zs kv = false
theorem Odds.extN {K : PySem.W.Frag} {zs : List Str} {H0 H H' : Hp} {b : Nat} {os : List V} (h : Odds K zs H0 H b os) (s : ExtN H H') : Odds K zs H0 H' b os := fun v hv => by
  obtain ⟨h1, h2⟩ := h v hv
  refine ⟨h1.extN s, fun dd kv e hd => ?_⟩
  subst e
  rcases h1 with ⟨k, g1, g2, g3⟩ | ⟨d, kvs, e, _, g2, _⟩
  · rcases ref_plain g3 (Nat.le_refl 2) with ⟨xs, e⟩ | ⟨xs, e⟩
    · rw [s _ _ e (fun _ z => nomatch z)] at hd; cases hd
    · rw [s _ _ e (fun _ z => nomatch z)] at hd; cases hd
  · cases e
    rw [s _ _ g2 (fun _ z => nomatch z)] at hd
    cases hd
    exact h2 _ _ rfl g2
theorem OddP.wide {K : PySem.W.Frag} {H0 H : Hp} {b : Nat} {v : V} (h : OddP K H0 H b v) : OddP K H0 H (b + 1) v := by
  rcases h with h | ⟨d, kvs, e, h1, h2, h3, h4⟩
  · exact .inl h
  · exact .inr ⟨d, kvs, e, h1, h2, Nat.le_succ_of_le h3, h4⟩
theorem OddP.sameD {K : PySem.W.Frag} {H0 H : Hp} {b : Nat} {v : V} (h : OddP K H0 H b v) (hb : b ≤ 1000) (up : ∀ {n : Nat} {x y : V}, SameD H n x y → ∀ k, SameD H (n + k) x y) : SameD H 4 v v := by
  rcases h with ⟨k, _, _, h⟩ | ⟨d, kvs, rfl, _, hd, hl, h⟩
  · exact up h 2
  · refine .dict hd hd rfl (Nat.le_trans hl hb) (fun i p q e1 e2 => ?_) fun i p q e1 e2 => ?_
    · rw [e1] at e2; cases e2
      exact ⟨rfl, (h p (List.mem_of_getElem? e1)).1⟩
    · rw [e1] at e2; cases e2
      exact (h p (List.mem_of_getElem? e1)).2.same
theorem OddP.th {K : PySem.W.Frag} {H0 H : Hp} {b : Nat} {v : V} (h : OddP K H0 H b v) : ∃ k, Th K H v k ∧ (k.isDict = true → ∃ d kvs, v = .ref d ∧ H0 d = none ∧ H d = some (.dK kvs) ∧ kvs.length ≤ b ∧ (∀ kv ∈ kvs, keyOk kv.1 ∧ Val1 H kv.2)) := by
  rcases h with ⟨k, h1, h2, _⟩ | ⟨d, kvs, rfl, h0, hd, hl, h⟩
  · exact ⟨k, h1, fun e => by rw [h2] at e; cases e⟩
  · exact ⟨.dict, .dict hd, fun _ => ⟨d, kvs, rfl, h0, hd, hl, h⟩⟩
theorem SameD.plain {H H' : Hp} (s : ∀ b o, (∀ kvs, o ≠ .dK kvs) → H b = some o → H' b = some o) {n : Nat} {x y : V} (h : SameD H n x y) : n ≤ 2 → SameD H' n x y := by
  induction h with
  | non => exact fun _ => .non
  | int i => exact fun _ => .int i
  | bl b => exact fun _ => .bl b
  | str h => exact fun _ => .str h
  | lst ha hb hl h1 h ih => exact fun hn => .lst (s _ _ (fun _ z => nomatch z) ha) (s _ _ (fun _ z => nomatch z) hb) hl h1 fun i x y e1 e2 => ih i x y e1 e2 (by omega)
  | tup ha hb hl h1 h ih => exact fun hn => .tup (s _ _ (fun _ z => nomatch z) ha) (s _ _ (fun _ z => nomatch z) hb) hl h1 fun i x y e1 e2 => ih i x y e1 e2 (by omega)
  | dict ha hb hl h1 hk h ih => exact fun hn => absurd hn (by omega)
theorem OddP.put {K : PySem.W.Frag} {H0 H : Hp} {b : Nat} {v : V} {d : Addr} {kvs : List (Key × V)} {k : Key} {u : V} (h : OddP K H0 H b v) (hd : H d = some (.dK kvs)) (h0 : H0 d = none) (hk : keyOk k) (hu : ∀ H, Val1 H u) :
    OddP K H0 (upd H d (.dK (putK kvs k u))) (b + 1) v := by
  have keep : ∀ c o, (∀ kvs, o ≠ .dK kvs) → H c = some o → (upd H d (.dK (putK kvs k u))) c = some o := fun c o n e => by
    by_cases z : c = d
    · rw [z, hd] at e; cases e; exact absurd rfl (n _)
    · rw [upd_ne z]; exact e
  rcases h with ⟨kx, h1, h2, h3⟩ | ⟨d2, kv2, rfl, g0, g1, g2, g3⟩
  · refine .inl ⟨kx, ?_, h2, h3.plain keep (Nat.le_refl 2)⟩
    cases h1 with
    | non => exact .non
    | int i => exact .int i
    | bl b => exact .bl b
    | str h => exact .str h
    | lst e => exact .lst (keep _ _ (fun _ z => nomatch z) e)
    | tup e => exact .tup (keep _ _ (fun _ z => nomatch z) e)
    | dict e => cases h2
    | fn e c => exact .fn e c
  · by_cases z : d2 = d
    · subst z
      rw [hd] at g1; cases g1
      have q := put_all (Pk := keyOk) (Pv := Val1 H) (kvs := kvs) (k := k) (v := u) g3 hk (hu H)
      exact .inr ⟨d2, _, rfl, g0, upd_same, Nat.le_trans q.2 (Nat.succ_le_succ g2), fun kv hkv => ⟨(q.1 kv hkv).1, (q.1 kv hkv).2.mono keep⟩⟩
    · exact .inr ⟨d2, kv2, rfl, g0, by rw [upd_ne z]; exact g1, Nat.le_succ_of_le g2, fun kv hkv => ⟨(g3 kv hkv).1, (g3 kv hkv).2.mono keep⟩⟩
theorem dict_none {zs : List Str} {kvs : List (Key × V)} {k : Str} {v : V} (hnd : zs.Nodup) (hz : k ∉ zs) (hk : valV kvs (Sum.inr k : Key) = some v) : dictB zs kvs = false := by
  cases h : dictB zs kvs with
  | false => rfl
  | true =>
    have hd := h
    unfold dictB at hd
    obtain ⟨h1, h2⟩ := Bool.and_eq_true_iff.mp hd
    have hl : kvs.length = zs.length := of_decide_eq_true h1
    have hall := List.all_eq_true.mp h2
    have q := nodup_sub (l := ((k :: zs).map fun z => (Sum.inr z : Key))) (m := kvs.map (·.1)) (nodup_keys (List.nodup_cons.mpr ⟨hz, hnd⟩)) fun x hx => by
      obtain ⟨z, hm, rfl⟩ := List.mem_map.mp hx
      rcases List.mem_cons.mp hm with e | e
      · rw [e]; exact val_key hk
      · have := hall z e
        cases e2 : valV kvs (Sum.inr z : Key) with
        | none => rw [e2] at this; cases this
        | some u => exact val_key e2
    simp only [List.length_map, List.length_cons] at q
    omega
def OddS (K : PySem.W.Frag) (zs : List Str) (H0 H : Hp) (b : Nat) (os : List V) : Prop := ∀ v ∈ os, OddP K H0 H b v ∧ ∀ dd kv, v = .ref dd → H dd = some (.dK kv) → dictB zs kv = false
theorem OddS.extN {K : PySem.W.Frag} {zs : List Str} {H0 H H' : Hp} {b : Nat} {os : List V} (h : OddS K zs H0 H b os) (s : ExtN H H') : OddS K zs H0 H' b os := fun v hv => by
  obtain ⟨h1, h2⟩ := h v hv
  refine ⟨h1.extN s, fun dd kv e hd => ?_⟩
  subst e
  rcases h1 with ⟨k, g1, g2, g3⟩ | ⟨d, kvs, e, _, g2, _⟩
  · rcases ref_plain g3 (Nat.le_refl 2) with ⟨xs, e⟩ | ⟨xs, e⟩
    · rw [s _ _ e (fun _ z => nomatch z)] at hd; cases hd
    · rw [s _ _ e (fun _ z => nomatch z)] at hd; cases hd
  · cases e
    rw [s _ _ g2 (fun _ z => nomatch z)] at hd
    cases hd
    exact h2 _ _ rfl g2
theorem OddS.put {K : PySem.W.Frag} {zs : List Str} {H0 H : Hp} {b : Nat} {os : List V} {d : Addr} {kvs : List (Key × V)} (h : OddS K zs H0 H b os) (hd : H d = some (.dK kvs)) (h0 : H0 d = none) (hnd : zs.Nodup) (hz : ∀ z ∈ zs, z ∈ pool) :
    OddS K zs H0 (upd H d (.dK (putK kvs (Sum.inr "late" : Key) (.int 1)))) (b + 1) os := fun v hv => by
  obtain ⟨h1, h2⟩ := h v hv
  refine ⟨h1.put hd h0 (by show ("late" : Str).length ≤ 1000; decide) (fun _ => .int 1), fun dd kv e hdd => ?_⟩
  by_cases q : dd = d
  · subst q
    rw [upd_same] at hdd
    cases hdd
    exact dict_none hnd (fun z => late_pool (hz _ z)) (by rw [valV_put, if_pos rfl])
  · rw [upd_ne q] at hdd
    exact h2 dd kv e hdd
/-- a dict of numbers in which one thing is none -/
theorem put_bad {M : List Str} {z : Str} {x : V} {g : Str → Int} (hz : z ∈ M) (hx : ∀ i, x ≠ .int i) : dictB M (putK (kvOf M g) (Sum.inr z : Key) x) = false := by
  cases h : dictB M (putK (kvOf M g) (Sum.inr z : Key) x) with
  | false => rfl
  | true =>
    have q := dict_place h z hz
    rw [valV_put, if_pos rfl] at q
    exact absurd (Option.some.inj q) (hx _)
theorem put_key {M : List Str} {z : Str} {x : V} {g : Str → Int} (zM : ∀ z ∈ M, z.length ≤ 1000) (hz : z.length ≤ 1000) {H : Hp} (hx : Val1 H x) : ∀ kv ∈ putK (kvOf M g) (Sum.inr z : Key) x, keyOk kv.1 ∧ Val1 H kv.2 :=
  (put_all (kvs := kvOf M g) (k := (Sum.inr z : Key)) (v := x) (Pk := keyOk) (Pv := Val1 H) (fun kv hkv => by
    obtain ⟨y, hy, e⟩ := List.mem_map.mp hkv
    subst e
    exact ⟨zM y hy, .int (g y)⟩) hz hx).1
theorem merge_put {M : List Str} {z : Str} {x : V} {g : Str → Int} (nd : M.Nodup) : mergeK [] (kvOf M g ++ [((Sum.inr z : Key), x)]) = putK (kvOf M g) (Sum.inr z : Key) x := by
  have e : ∀ (b l m : List (Key × V)), mergeK b (l ++ m) = mergeK (mergeK b l) m := fun b l m => by unfold mergeK; rw [List.foldl_append]
  rw [e, merge_self (by rw [keys_kv]; exact nodup_keys nd)]
  rfl
section
variable {P : Program} {w : World} {K : PySem.W.Frag} {mg : Str → Option Value} {base : Heap} {C CB fB CP fP CS fS CO fO CU fU fM c Pt : Addr} {fdM : FuncData}
theorem scRefused : FnScope ["spring", "mine", "theirs", "first", "second", "stands", "sums", "odd", "found", "both", "odds", "one", "ask"] ["spring", "mine", "theirs"] (defScope sRefused) := ⟨rfl, rfl, rfl, by decide +kernel, rfl, by decide +kernel, by decide +kernel⟩
theorem ok_refused {f fI fJ fZ fJp fQ fD fN fY : Addr} {fdI fdJ fdZ fdJp fdQ fdD fdN fdY : FuncData} {oc kVv doc pm ct : Value} {od an : Option Addr} {osl : Array (Option Value)}
    (lk : K.lookup f = some ⟨oc, od, .func (PySem.W.fnOf "_law_refused_right" "_law_refused_right" (defArgs sRefused) (defBody sRefused) (defScope sRefused) .none kVv doc pm an (.ref c) ct), osl⟩) (hcd : PySem.W.codeIn K (.ref c) "_law_refused_right" = true)
    (B : B0 K mg) (TB : TabB base mg c Pt) (T : PT0 P K mg C CB fB) (TP : ErrAt P K mg "BadPath" "thing" CP fP) (TS : ErrAt P K mg "BadStand" "stand" CS fS) (TO : ErrAt P K mg "CommonWalker" "name" CO fO) (TU : ErrAt P K mg "BadSums" "sums" CU fU)
    (x1 : PySem.W.exmOne K (.ref CS) (.ref CP) = some false) (x2 : PySem.W.exmOne K (.ref CO) (.ref CP) = some false) (x3 : PySem.W.exmOne K (.ref CO) (.ref CS) = some false) (x4 : PySem.W.exmOne K (.ref CU) (.ref CP) = some false) (x5 : PySem.W.exmOne K (.ref CU) (.ref CS) = some false) (x6 : PySem.W.exmOne K (.ref CU) (.ref CO) = some false)
    (FM : Fun K "_law_met" "_law_met" sMet fM fdM) (bM : Binds K fdM ["ask"] []) (gM : mg "_law_met" = some (.ref fM)) (kM : PySem.W.keepIn K (.ref fM) = true)
    (GI : FnOk P w K mg base (L2.CX P w) 2 fI fdI ["self", "walkers"] (spInit K C CB)) (bI : Binds K fdI ["self", "walkers"] []) (MkI : Mk K C fI)
    (GJ : FnOk P w K mg base (L2.CX P w) 6 fJ fdJ ["first", "stand", "second", "other_stand", "sums"] (sp5G K C CP CO CS CU GoodK)) (bJ : Binds K fdJ ["first", "stand", "second", "other_stand", "sums"] []) (gJ : mg "joined" = some (.ref fJ)) (kJ9 : PySem.W.keepIn K (.ref fJ) = true)
    (GZ : FnOk P w K mg base (L2.CX P w) 6 fZ fdZ ["first", "stand", "second", "other_stand", "sums"] (sp5G K C CP CO CS CU GoodC)) (bZ : Binds K fdZ ["first", "stand", "second", "other_stand", "sums"] []) (gZ : mg "joint_clash" = some (.ref fZ)) (kZ9 : PySem.W.keepIn K (.ref fZ) = true)
    (GJp : FnOk P w K mg base (L2.CX P w) 4 fJp fdJp ["first", "second"] (spBothG K C CP CO (GoodJ C))) (bJp : Binds K fdJp ["first", "second"] []) (gJp : mg "joint_path" = some (.ref fJp)) (kJp9 : PySem.W.keepIn K (.ref fJp) = true)
    (cJp : KBn K fdJp ["first", "second"] 0 ["second", "first"] (fun us ws => ws.reverse) (fun vs zs => zs.reverse))
    (GQ : FnOk P w K mg base CX0 7 fQ fdQ ["found", "due"] (spSame 6)) (bQ : Binds K fdQ ["found", "due"] []) (gQ : mg "_law_same" = some (.ref fQ)) (kQ9 : PySem.W.keepIn K (.ref fQ) = true)
    (GD : FnOk P w K mg base CX0 3 fD fdD ["spring", "names", "stand"] (spNoSt K)) (bD : Binds K fdD ["spring", "names", "stand"] []) (gD : mg "_law_w_no_stands" = some (.ref fD)) (kD9 : PySem.W.keepIn K (.ref fD) = true)
    (GN : FnOk P w K mg base CX0 1 fN fdN ["names"] spNoPa) (bN : Binds K fdN ["names"] []) (gN : mg "_law_w_no_paths" = some (.ref fN)) (kN9 : PySem.W.keepIn K (.ref fN) = true)
    (GY : FnOk P w K mg base CX0 6 fY fdY ["spring", "names"] spWAny) (bY : Binds K fdY ["spring", "names"] []) (gY : mg "_law_w_any" = some (.ref fY)) (kY9 : PySem.W.keepIn K (.ref fY) = true) :
    FnOk P w K mg base CX0 10 f (PySem.W.fnOf "_law_refused_right" "_law_refused_right" (defArgs sRefused) (defBody sRefused) (defScope sRefused) .none kVv doc pm an (.ref c) ct) ["spring", "mine", "theirs"] (spRefused C Pt) := by
  have held : ∀ f sp, AskS K C CP CO CS CU fJ fZ f sp → HeldX P w K mg base 6 f sp := fun f sp h => by
    rcases h with ⟨rfl, rfl⟩ | ⟨rfl, rfl⟩
    · exact ⟨fdJ, _, GJ, kJ9, bJ⟩
    · exact ⟨fdZ, _, GZ, kZ9, bZ⟩
  refine fn_of lk hcd scRefused (fun vs H Q E h => ?_) (fun A outer s H vs Q E hr h => ?_)
  · obtain ⟨a, n, o, M, O, m, rfl, _⟩ := h
    rfl
  · obtain ⟨a, n, o, M, O, m, rfl, han, hao, hsp, hm, hn, ho, hnd, hpool, h2M, h2O, h20, hT, q⟩ := h
    have hu := hu_of hr
    have hu2 : _ + 2 < cLine := Nat.lt_of_le_of_lt (Nat.add_le_add_left (by decide : 2 ≤ 64) _) hr.units
    have hr1 : Room 1 _ := hr.mono (by decide)
    have hr3 : Room 3 _ := hr.mono (by decide)
    have hr6 : Room 6 _ := hr.mono (by decide)
    have hr7 : Room 7 _ := hr.mono (by decide)
    have hr8 : Room (6 + 2) _ := hr.mono (by decide)
    refine ⟨_, PSs.nox (pss_cons (ps_asg (pe_tup (pa_cons (pe_make MkI GI hr3 (by rfl) T.mgC bI .nil passL (pa_cons (pv 1) pa_nil)) (pa_cons (pe_make MkI GI hr3 (by rfl) T.mgC bI .nil passL (pa_cons (pv 2) pa_nil)) pa_nil))) (pg_tup rfl (pgs_cons (pg_name (i := 3) scRefused.nd rfl (Or.inr rfl)) (pgs_cons (pg_name (i := 4) scRefused.nd rfl (Or.inr rfl)) pgs_nil))))
      (pss_cons (ps_asg (pe_tup (pa_cons (pe_lst (pa_cons (pe_call GY hr6 (by rfl) gY kY9 bY .nil pass0 (pa_cons (pv 0) (pa_cons (pv 1) pa_nil))) (pa_cons (pe_call GY hr6 (by rfl) gY kY9 bY .nil pass0 (pa_cons (pv 0) (pa_cons (pv 2) pa_nil))) pa_nil))) (pa_cons (pe_callTy (call_dictP rfl) (by rfl) B.dict (by decide +kernel) (pa_cons (pe_lc (te := (tTup (tCons (tVar 11) (tCons (L2.tC (.int 0)) tNil)))) (own := [("one", 11)]) (g := (gName 11)) (tt := tYes) rfl scRefused.nd (pi_list (pv 1)) (blkOk_by (N := ["spring", "mine", "theirs", "first", "second", "stands", "sums", "odd", "found", "both", "odds", "one", "ask"]) (sc := defScope sRefused) (by decide +kernel))
          (fun _ _ _ _ _ => (pg_name (i := 11) scRefused.nd rfl (Or.inl rfl))) (fun _ _ _ _ _ => pts_nil) (fun _ _ _ _ _ => by exact (pe_tup (pa_cons (pv 11) (pa_cons pe_int pa_nil))))) pa_nil)) pa_nil))) (pg_tup rfl (pgs_cons (pg_name (i := 5) scRefused.nd rfl (Or.inr rfl)) (pgs_cons (pg_name (i := 6) scRefused.nd rfl (Or.inr rfl)) pgs_nil))))
      (pss_cons (ps_for PassesOwn.never rfl (pi_list (pe_call GN hr1 (by rfl) gN kN9 bN .nil pass0 (pa_cons (pv 1) pa_nil))) (pg_name (i := 7) scRefused.nd rfl (Or.inr rfl))
        (pss_cons (ps_set (i := 8) scRefused.nd rfl (Or.inl rfl) (pe_lst (pa_cons (by exact (pe_met (T := [(Pt, qLam)]) FM bM gM kM TP TS TO TU (by rfl) TB rfl (by exact List.mem_cons_self) (fun p hp _ => by rw [List.mem_singleton.mp hp]; rfl) hr8 (lamS_by (sc := defScope sRefused) (by decide +kernel)) (by rfl) (fun _ _ _ _ _ => by rfl) (fun A outer s H E f c' hr2 => by exact (pe_call GJp (hr2.mono (by decide)) (by rfl) gJp kJp9 bJp .nil (passes_call (takes_of rfl rfl rfl rfl) fun _ _ _ _ h => h) (pa_cons (pv 7) (pa_cons pe_non pa_nil)))))) pa_nil)))
      (pss_cons (ps_expr (pe_bm PySem.F.plainAttrs_list PySem.F.slot_list_append PySem.F.type_list_append mt_append (pv 8) (pa_cons (by exact (pe_met (T := [(Pt, qLam)]) FM bM gM kM TP TS TO TU (by rfl) TB rfl (by exact List.mem_cons_self) (fun p hp _ => by rw [List.mem_singleton.mp hp]; rfl) hr8 (lamS_by (sc := defScope sRefused) (by decide +kernel)) (by rfl) (fun _ _ _ _ _ => by rfl) (fun A outer s H E f c' hr2 => by exact (pe_call GJp (hr2.mono (by decide)) (by rfl) gJp kJp9 bJp .nil (passes_call (takes_of rfl rfl rfl rfl) fun _ _ _ _ h => h) (pa_cons (pv 3) (pa_cons (pv 7) pa_nil)))))) pa_nil)))
      (pss_cons (ps_expr (pe_bm PySem.F.plainAttrs_list PySem.F.slot_list_extend PySem.F.type_list_extend mt_extend (pv 8) (pa_cons (pe_lc (te := (tLam [(Pt, qLam)] (TTmet K CP CS CO CU) (fun E => tCallX 12 (AskS K C CP CO CS CU fJ fZ) E (tCons (tVar 7) (tCons (L2.tC .non) (tCons (L2.tC .non) (tCons (L2.tC .non) (tCons (L2.tC .non) tNil)))))))) (own := [("ask", 12)]) (g := gName 12) (tt := tYes) rfl scRefused.nd (pi_tup (pe_tup (pa_cons (pe_glob (v := .ref fJ) (by rfl) gJ rfl) (pa_cons (pe_glob (v := .ref fZ) (by rfl) gZ rfl) pa_nil)))) (blkOk_by (N := ["spring", "mine", "theirs", "first", "second", "stands", "sums", "odd", "found", "both", "odds", "one", "ask"]) (sc := defScope sRefused) (by decide +kernel))
        (fun _ _ _ _ _ => pg_name (i := 12) scRefused.nd rfl (Or.inr rfl)) (fun _ _ _ _ _ => pts_nil) (fun _ _ _ _ _ => (by exact (pe_met (T := [(Pt, qLam)]) FM bM gM kM TP TS TO TU (by rfl) TB rfl (by exact List.mem_cons_self) (fun p hp _ => by rw [List.mem_singleton.mp hp]; rfl) hr8 (lamS_by (sc := (relS { kind := .function, names := [(".0", .local), ("ask", .cell), ("_law_met", .globalImplicit), ("odd", .free)], isGenerator := false, isCoroutine := false, more := [] } (defScope sRefused))) (by decide +kernel)) (by rfl) (fun _ _ _ _ _ => by rfl) (fun A outer s H E f c' hr2 => by exact (pe_callX held hr2 rfl (.inr (.inr rfl)) (passes_call (takes_of rfl rfl rfl rfl) fun _ _ _ _ h => h) (pa_cons (pv 7) (pa_cons pe_non (pa_cons pe_non (pa_cons pe_non (pa_cons pe_non pa_nil))))))))))) pa_nil)))
      (pss_cons (ps_expr (pe_bm PySem.F.plainAttrs_list PySem.F.slot_list_extend PySem.F.type_list_extend mt_extend (pv 8) (pa_cons (pe_lc (te := (tLam [(Pt, qLam)] (TTmet K CP CS CO CU) (fun E => tCallX 12 (AskS K C CP CO CS CU fJ fZ) E (tCons (tVar 3) (tCons (L2.tC .non) (tCons (tVar 7) (tCons (L2.tC .non) (tCons (L2.tC .non) tNil)))))))) (own := [("ask", 12)]) (g := gName 12) (tt := tYes) rfl scRefused.nd (pi_tup (pe_tup (pa_cons (pe_glob (v := .ref fJ) (by rfl) gJ rfl) (pa_cons (pe_glob (v := .ref fZ) (by rfl) gZ rfl) pa_nil)))) (blkOk_by (N := ["spring", "mine", "theirs", "first", "second", "stands", "sums", "odd", "found", "both", "odds", "one", "ask"]) (sc := defScope sRefused) (by decide +kernel))
        (fun _ _ _ _ _ => pg_name (i := 12) scRefused.nd rfl (Or.inr rfl)) (fun _ _ _ _ _ => pts_nil) (fun _ _ _ _ _ => (by exact (pe_met (T := [(Pt, qLam)]) FM bM gM kM TP TS TO TU (by rfl) TB rfl (by exact List.mem_cons_self) (fun p hp _ => by rw [List.mem_singleton.mp hp]; rfl) hr8 (lamS_by (sc := (relS { kind := .function, names := [(".0", .local), ("ask", .cell), ("_law_met", .globalImplicit), ("first", .free), ("odd", .free)], isGenerator := false, isCoroutine := false, more := [] } (defScope sRefused))) (by decide +kernel)) (by rfl) (fun _ _ _ _ _ => by rfl) (fun A outer s H E f c' hr2 => by exact (pe_callX held hr2 rfl (.inr (.inr rfl)) (passes_call (takes_of rfl rfl rfl rfl) fun _ _ _ _ h => h) (pa_cons (pv 3) (pa_cons pe_non (pa_cons (pv 7) (pa_cons pe_non (pa_cons pe_non pa_nil))))))))))) pa_nil)))
      (pss_one (ps_if (pt_not (pt_val (pe_call GQ hr7 (by rfl) gQ kQ9 bQ .nil pass0 (pa_cons (pv 8) (pa_cons (pe_op op_rep (pe_lst (pa_cons (pe_tup (pa_cons pe_str (pa_cons (pv 7) pa_nil))) pa_nil)) pe_int) pa_nil))))) (pss_one (ps_ret pe_bl)) (pss_nil))))))))
      (pss_cons (ps_set (i := 9) scRefused.nd rfl (Or.inr rfl) (pe_make MkI GI hr3 (by rfl) T.mgC bI .nil passL (pa_cons (pe_op op_cat (pe_slice sl_list (pv 2) po_none (po_some pe_int)) (pe_revL (pv 1))) pa_nil)))
      (pss_cons (ps_setLc (i := 8) (te := (tLam [(Pt, qLam)] (TTmet K CP CS CO CU) (fun E => tCallX 12 (AskS K C CP CO CS CU fJ fZ) E (tCons (tVar 3) (tCons (L2.tC .non) (tCons (tVar 9) (tCons (L2.tC .non) (tCons (L2.tC .non) tNil)))))))) (own := [("ask", 12)]) (g := gName 12) (tt := tYes) rfl scRefused.nd rfl rfl (by rfl) (pi_tup (pe_tup (pa_cons (pe_glob (v := .ref fJ) (by rfl) gJ rfl) (pa_cons (pe_glob (v := .ref fZ) (by rfl) gZ rfl) pa_nil)))) (blkOk_by (N := ["spring", "mine", "theirs", "first", "second", "stands", "sums", "odd", "found", "both", "odds", "one", "ask"]) (sc := defScope sRefused) (by decide +kernel))
        (fun _ _ _ _ _ => pg_name (i := 12) scRefused.nd rfl (Or.inr rfl)) (fun _ _ _ _ _ => pts_nil) (fun _ _ _ _ _ => (by exact (pe_met (T := [(Pt, qLam)]) FM bM gM kM TP TS TO TU (by rfl) TB rfl (by exact List.mem_cons_self) (fun p hp _ => by rw [List.mem_singleton.mp hp]; rfl) hr8 (lamS_by (sc := (relS { kind := .function, names := [(".0", .local), ("ask", .cell), ("_law_met", .globalImplicit), ("both", .free), ("first", .free)], isGenerator := false, isCoroutine := false, more := [] } (defScope sRefused))) (by decide +kernel)) (by rfl) (fun _ _ _ _ _ => by rfl) (fun A outer s H E f c' hr2 => by exact (pe_callX held hr2 rfl (.inr (.inr rfl)) (passes_call (takes_of rfl rfl rfl rfl) fun _ _ _ _ h => h) (pa_cons (pv 3) (pa_cons pe_non (pa_cons (pv 9) (pa_cons pe_non (pa_cons pe_non pa_nil)))))))))))
      (pss_cons (ps_expr (pe_bm PySem.F.plainAttrs_list PySem.F.slot_list_append PySem.F.type_list_append mt_append (pv 8) (pa_cons (by exact (pe_met (T := [(Pt, qLam)]) FM bM gM kM TP TS TO TU (by rfl) TB rfl (by exact List.mem_cons_self) (fun p hp _ => by rw [List.mem_singleton.mp hp]; rfl) hr8 (lamS_by (sc := defScope sRefused) (by decide +kernel)) (by rfl) (fun _ _ _ _ _ => by rfl) (fun A outer s H E f c' hr2 => by exact (pe_callK0 GJp (hr2.mono (by decide)) (by rfl) gJp kJp9 cJp (passes_call (takes_of rfl rfl rfl rfl) fun _ _ _ _ h => h) (pk_cons (pv 9) (pk_cons (pv 3) pk_nil)))))) pa_nil)))
      (pss_cons (ps_if (pt_not (pt_val (pe_call GQ hr7 (by rfl) gQ kQ9 bQ .nil pass0 (pa_cons (pv 8) (pa_cons (pe_op op_rep (pe_lst (pa_cons (pe_tup (pa_cons pe_str (pa_cons (pe_ix ix_list (pv 1) pe_int (fun _ _ => rfl)) pa_nil))) pa_nil)) pe_int) pa_nil))))) (pss_one (ps_ret pe_bl)) (pss_nil))
      (pss_cons (ps_for PassesOwn.never rfl (pi_list (pe_call GD hr3 (by rfl) gD kD9 bD .nil pass0 (pa_cons (pv 0) (pa_cons (pv 1) (pa_cons (pe_ix ix_list (pv 5) pe_int (fun _ _ => rfl)) pa_nil))))) (pg_name (i := 7) scRefused.nd rfl (Or.inr rfl))
        (pss_cons (ps_setLc (i := 8) (te := (tLam [(Pt, qLam)] (TTmet K CP CS CO CU) (fun E => tCallX 12 (AskS K C CP CO CS CU fJ fZ) E (tCons (tVar 3) (tCons (tVar 7) (tCons (tVar 4) (tCons (L2.tC .non) (tCons (L2.tC .non) tNil)))))))) (own := [("ask", 12)]) (g := gName 12) (tt := tYes) rfl scRefused.nd rfl rfl (by rfl) (pi_tup (pe_tup (pa_cons (pe_glob (v := .ref fJ) (by rfl) gJ rfl) (pa_cons (pe_glob (v := .ref fZ) (by rfl) gZ rfl) pa_nil)))) (blkOk_by (N := ["spring", "mine", "theirs", "first", "second", "stands", "sums", "odd", "found", "both", "odds", "one", "ask"]) (sc := defScope sRefused) (by decide +kernel))
        (fun _ _ _ _ _ => pg_name (i := 12) scRefused.nd rfl (Or.inr rfl)) (fun _ _ _ _ _ => pts_nil) (fun _ _ _ _ _ => (by exact (pe_met (T := [(Pt, qLam)]) FM bM gM kM TP TS TO TU (by rfl) TB rfl (by exact List.mem_cons_self) (fun p hp _ => by rw [List.mem_singleton.mp hp]; rfl) hr8 (lamS_by (sc := (relS { kind := .function, names := [(".0", .local), ("ask", .cell), ("_law_met", .globalImplicit), ("first", .free), ("odd", .free), ("second", .free)], isGenerator := false, isCoroutine := false, more := [] } (defScope sRefused))) (by decide +kernel)) (by rfl) (fun _ _ _ _ _ => by rfl) (fun A outer s H E f c' hr2 => by exact (pe_callX held hr2 rfl (.inr (.inr rfl)) (passes_call (takes_of rfl rfl rfl rfl) fun _ _ _ _ h => h) (pa_cons (pv 3) (pa_cons (pv 7) (pa_cons (pv 4) (pa_cons pe_non (pa_cons pe_non pa_nil)))))))))))
      (pss_one (ps_if (pt_not (pt_val (pe_call GQ hr7 (by rfl) gQ kQ9 bQ .nil pass0 (pa_cons (pv 8) (pa_cons (pe_op op_rep (pe_lst (pa_cons (pe_tup (pa_cons pe_str (pa_cons (pv 7) pa_nil))) pa_nil)) pe_int) pa_nil))))) (pss_one (ps_ret pe_bl)) (pss_nil)))))
      (pss_cons (ps_for PassesOwn.never rfl (pi_list (pe_call GD hr3 (by rfl) gD kD9 bD .nil pass0 (pa_cons (pv 0) (pa_cons (pv 2) (pa_cons (pe_ix ix_list (pv 5) pe_int (fun _ _ => rfl)) pa_nil))))) (pg_name (i := 7) scRefused.nd rfl (Or.inr rfl))
        (pss_cons (ps_setLc (i := 8) (te := (tLam [(Pt, qLam)] (TTmet K CP CS CO CU) (fun E => tCallX 12 (AskS K C CP CO CS CU fJ fZ) E (tCons (tVar 3) (tCons (tOp (rIxL K) (tVar 5) (L2.tC (.int 0))) (tCons (tVar 4) (tCons (tVar 7) (tCons (L2.tC .non) tNil)))))))) (own := [("ask", 12)]) (g := gName 12) (tt := tYes) rfl scRefused.nd rfl rfl (by rfl) (pi_tup (pe_tup (pa_cons (pe_glob (v := .ref fJ) (by rfl) gJ rfl) (pa_cons (pe_glob (v := .ref fZ) (by rfl) gZ rfl) pa_nil)))) (blkOk_by (N := ["spring", "mine", "theirs", "first", "second", "stands", "sums", "odd", "found", "both", "odds", "one", "ask"]) (sc := defScope sRefused) (by decide +kernel))
        (fun _ _ _ _ _ => pg_name (i := 12) scRefused.nd rfl (Or.inr rfl)) (fun _ _ _ _ _ => pts_nil) (fun _ _ _ _ _ => (by exact (pe_met (T := [(Pt, qLam)]) FM bM gM kM TP TS TO TU (by rfl) TB rfl (by exact List.mem_cons_self) (fun p hp _ => by rw [List.mem_singleton.mp hp]; rfl) hr8 (lamS_by (sc := (relS { kind := .function, names := [(".0", .local), ("ask", .cell), ("_law_met", .globalImplicit), ("first", .free), ("odd", .free), ("second", .free), ("stands", .free)], isGenerator := false, isCoroutine := false, more := [] } (defScope sRefused))) (by decide +kernel)) (by rfl) (fun _ _ _ _ _ => by rfl) (fun A outer s H E f c' hr2 => by exact (pe_callX held hr2 rfl (.inr (.inr rfl)) (passes_call (takes_of rfl rfl rfl rfl) fun _ _ _ _ h => h) (pa_cons (pv 3) (pa_cons (pe_ix ix_list (pv 5) pe_int (fun _ _ => rfl)) (pa_cons (pv 4) (pa_cons (pv 7) (pa_cons pe_non pa_nil)))))))))))
      (pss_one (ps_if (pt_not (pt_val (pe_call GQ hr7 (by rfl) gQ kQ9 bQ .nil pass0 (pa_cons (pv 8) (pa_cons (pe_op op_rep (pe_lst (pa_cons (pe_tup (pa_cons pe_str (pa_cons (pv 7) pa_nil))) pa_nil)) pe_int) pa_nil))))) (pss_one (ps_ret pe_bl)) (pss_nil)))))
      (pss_cons (ps_set (i := 10) scRefused.nd rfl (Or.inl rfl) (pe_lst (pa_cons pe_non (pa_cons pe_int (pa_cons (pe_lst pa_nil) (pa_cons pe_str (pa_cons pe_dnewK (pa_cons pe_bl (pa_cons (pe_callTy (call_dictP rfl) (by rfl) B.dict (by decide +kernel) (pa_cons (pe_lc (te := (tTup (tCons (tVar 11) (tCons (L2.tC (.int 0)) tNil)))) (own := [("one", 11)]) (g := (gName 11)) (tt := tYes) rfl scRefused.nd (pi_list (pe_slice sl_list (pv 1) (po_some pe_int) po_none)) (blkOk_by (N := ["spring", "mine", "theirs", "first", "second", "stands", "sums", "odd", "found", "both", "odds", "one", "ask"]) (sc := defScope sRefused) (by decide +kernel))
          (fun _ _ _ _ _ => (pg_name (i := 11) scRefused.nd rfl (Or.inl rfl))) (fun _ _ _ _ _ => pts_nil) (fun _ _ _ _ _ => by exact (pe_tup (pa_cons (pv 11) (pa_cons pe_int pa_nil))))) pa_nil)) pa_nil)))))))))
      (pss_cons (ps_expr (pe_bm PySem.F.plainAttrs_list PySem.F.slot_list_extend PySem.F.type_list_extend mt_extend (pv 10) (pa_cons (pe_lc (te := (tCB (rDP K) (tCons (tOp rCat (LiI.tListItems (tVar 6)) (tLst (tCons (tTup (tCons (tOp (rIxL K) (tVar 1) (tUn (rU fun i => V.int (-i)) (L2.tC (.int 1)))) (tCons (tVar 7) tNil))) tNil))) tNil))) (own := [("odd", 7)]) (g := (gName 7)) (tt := tYes) rfl scRefused.nd (pi_tup (pe_tup (pa_cons pe_non (pa_cons pe_bl (pa_cons pe_str (pa_cons (pe_tup (pa_cons pe_int pa_nil)) pa_nil)))))) (blkOk_by (N := ["spring", "mine", "theirs", "first", "second", "stands", "sums", "odd", "found", "both", "odds", "one", "ask"]) (sc := defScope sRefused) (by decide +kernel))
          (fun _ _ _ _ _ => (pg_name (i := 7) scRefused.nd rfl (Or.inl rfl))) (fun _ _ _ _ _ => pts_nil) (fun _ _ _ _ _ => by exact (pe_callTy (call_dictP rfl) (by rfl) B.dict (by decide +kernel) (pa_cons (pe_op op_cat (LiI.pe_listItems rfl (pv 6) (by rfl) B.list (by decide +kernel)) (pe_lst (pa_cons (pe_tup (pa_cons (pe_ix ix_list (pv 1) (pe_un un_neg pe_int) (fun _ _ => rfl)) (pa_cons (pv 7) pa_nil))) pa_nil))) pa_nil)))) pa_nil)))
      (pss_cons (ps_for PassesOwn.never rfl (pi_list (pe_op op_cat (pv 10) (pe_lst (pa_cons (pe_callTy (call_dictP rfl) (by rfl) B.dict (by decide +kernel) (pa_cons (pe_op op_cat (LiI.pe_listItems rfl (pv 6) (by rfl) B.list (by decide +kernel)) (pe_lst (pa_cons (pe_tup (pa_cons (pe_ix ix_list (pv 2) pe_int (fun _ _ => rfl)) (pa_cons pe_int pa_nil))) pa_nil))) pa_nil)) pa_nil)))) (pg_name (i := 7) scRefused.nd rfl (Or.inr rfl))
        (pss_cons (ps_setLc (i := 8) (te := (tLam [(Pt, qLam)] (TTmet K CP CS CO CU) (fun E => tCallX 12 (AskS K C CP CO CS CU fJ fZ) E (tCons (tVar 3) (tCons (tOp (rIxL K) (tVar 5) (L2.tC (.int 0))) (tCons (tVar 4) (tCons (tOp (rIxL K) (tVar 5) (L2.tC (.int 1))) (tCons (tVar 7) tNil)))))))) (own := [("ask", 12)]) (g := gName 12) (tt := tYes) rfl scRefused.nd rfl rfl (by rfl) (pi_tup (pe_tup (pa_cons (pe_glob (v := .ref fJ) (by rfl) gJ rfl) (pa_cons (pe_glob (v := .ref fZ) (by rfl) gZ rfl) pa_nil)))) (blkOk_by (N := ["spring", "mine", "theirs", "first", "second", "stands", "sums", "odd", "found", "both", "odds", "one", "ask"]) (sc := defScope sRefused) (by decide +kernel))
        (fun _ _ _ _ _ => pg_name (i := 12) scRefused.nd rfl (Or.inr rfl)) (fun _ _ _ _ _ => pts_nil) (fun _ _ _ _ _ => (by exact (pe_met (T := [(Pt, qLam)]) FM bM gM kM TP TS TO TU (by rfl) TB rfl (by exact List.mem_cons_self) (fun p hp _ => by rw [List.mem_singleton.mp hp]; rfl) hr8 (lamS_by (sc := (relS { kind := .function, names := [(".0", .local), ("ask", .cell), ("_law_met", .globalImplicit), ("first", .free), ("odd", .free), ("second", .free), ("stands", .free)], isGenerator := false, isCoroutine := false, more := [] } (defScope sRefused))) (by decide +kernel)) (by rfl) (fun _ _ _ _ _ => by rfl) (fun A outer s H E f c' hr2 => by exact (pe_callX held hr2 rfl (.inr (.inr rfl)) (passes_call (takes_of rfl rfl rfl rfl) fun _ _ _ _ h => h) (pa_cons (pv 3) (pa_cons (pe_ix ix_list (pv 5) pe_int (fun _ _ => rfl)) (pa_cons (pv 4) (pa_cons (pe_ix ix_list (pv 5) pe_int (fun _ _ => rfl)) (pa_cons (pv 7) pa_nil)))))))))))
      (pss_cons (ps_if (pt_val (pe_callB call_isiZ (by rfl) B.isi (by decide +kernel) (pa_cons (pv 7) (pa_cons (pe_bltn (v := .ty "dict") (by rfl) B.dict (by decide +kernel) rfl) pa_nil)))) (pss_one (ps_asg pe_int (pg_sub (pv 7) pe_str (set_dict hu)))) (pss_nil))
      (pss_one (ps_if (pt_not (pt_val (pe_call GQ hr7 (by rfl) gQ kQ9 bQ .nil pass0 (pa_cons (pv 8) (pa_cons (pe_op op_rep (pe_lst (pa_cons (pe_tup (pa_cons pe_str (pa_cons (pv 7) pa_nil))) pa_nil)) pe_int) pa_nil))))) (pss_one (ps_ret pe_bl)) (pss_nil))))))
      (pss_one (ps_ret pe_bl)))))))))))))), ?_⟩
    have Mnd := (List.nodup_append.mp hnd).1
    have Ond := (List.nodup_append.mp hnd).2.1
    have dis : ∀ x ∈ O, x ∉ M := fun x hx q => (List.nodup_append.mp hnd).2.2 x q x hx rfl
    have hZl : (M ++ O).length = M.length + O.length := List.length_append
    have pM : ∀ z ∈ M, z ∈ pool := fun z hz => hpool z (List.mem_append_left _ hz)
    have pO : ∀ z ∈ O, z ∈ pool := fun z hz => hpool z (List.mem_append_right _ hz)
    have zM : ∀ z ∈ M, z.length ≤ 1000 := fun z hz => pool_len z (pM z hz)
    have zO : ∀ z ∈ O, z.length ≤ 1000 := fun z hz => pool_len z (pO z hz)
    have nmM : Nm M := fun z hz => pool_names z (pM z hz)
    have nmO : Nm O := fun z hz => pool_names z (pO z hz)
    -- first, second
    refine ⟨_, rfl, fun p1 dx nx ndx nex => init_good (zs := M) nx ndx (.inl ⟨hn, rfl⟩) Mnd nmM zM h2M (by omega) fun t1 G1 hp1 s1 => ⟨rfl, ?_⟩⟩
    refine ⟨_, rfl, fun p2 dx2 nx2 ndx2 nex2 => init_good (zs := O) nx2 ndx2 (.inl ⟨s1 _ _ ho, rfl⟩) Ond nmO zO h2O (by omega) fun t2 G2 hp2 s2 => ⟨rfl, ?_⟩⟩
    refine ⟨by show 2 ≤ sizeLine; decide, fun U hU => ?_⟩
    generalize hE : upd G2 U _ = G3
    have sG3 : Same G2 G3 := hE ▸ same_upd hU
    have eU := congrFun hE.symm U
    rw [upd_same] at eU
    clear hE
    refine ⟨U, _, rfl, SqT.of eU, rfl, _, _, rfl, _, _, rfl, rfl, ?_⟩
    have s03 : Same H G3 := (s1.trans s2).trans sG3
    have hp1_3 := (hp1.same s2).same sG3
    have hp2_3 := hp2.same sG3
    -- stands, sums
    obtain ⟨osp, hosp, xsp, ysp, csp, eosp, _⟩ := id hsp
    subst eosp
    have sp3 : SpAt G3 a m := hsp.same s03
    refine ⟨_, rfl, _, rfl, a, n, M, m, rfl, han, sp3, by omega, s03 _ _ hn, Mnd, h2M, by omega, fun d1 k1 G4 ed1 st1 bd1 d1a sp4 b4 => ?_⟩
    have hna : n ≠ a := Ne.symm han
    have hoa : o ≠ a := Ne.symm hao
    refine ⟨_, rfl, _, rfl, a, o, O, _, rfl, hao, sp4, by omega, b4 _ _ hoa (s03 _ _ ho), Ond, h2O, by omega, fun d2 k2 G5 ed2 st2 bd2 d2a sp5 b5 => ?_⟩
    refine ⟨by show 2 ≤ sizeLine; decide, fun SL hSL => ?_⟩
    generalize hE : upd G5 SL _ = G6
    have sG6 : Same G5 G6 := hE ▸ same_upd hSL
    have eSL := congrFun hE.symm SL
    rw [upd_same] at eSL
    clear hE
    have b36 : But a G3 G6 := (b4.trans b5).trans (Same.but sG6)
    have hn6 := b36 _ _ hna (s03 _ _ hn)
    refine ⟨_, rfl, n, rfl, ⟨_, SqL.of hn6⟩, fun D hD => dictA_it (f := fun z => .int 0) hn6 hD (by omega) (fun _ => rfl) (fun _ _ _ h => ⟨_, rfl, h⟩) (fun z hz G Q' s q' => q' G (Same.refl G)) fun G7 ts s67 eD pD => ⟨D, ts, _, rfl, SqL.of eD, Paired.mono (fun _ _ h => SqT.of h) pD, fun su hsu => ?_⟩⟩
    rw [merge_kvV Mnd, kvV_int]
    generalize hE : upd G7 su _ = G8
    have sG8 : Same G7 G8 := hE ▸ same_upd hsu
    have esu := congrFun hE.symm su
    rw [upd_same] at esu
    clear hE
    refine ⟨by show 2 ≤ sizeLine; decide, fun U2 hU2 => ?_⟩
    generalize hE : upd G8 U2 _ = G9
    have sG9 : Same G8 G9 := hE ▸ same_upd hU2
    have eU2 := congrFun hE.symm U2
    rw [upd_same] at eU2
    clear hE
    refine ⟨U2, _, rfl, SqT.of eU2, rfl, _, _, rfl, _, _, rfl, rfl, ?_⟩
    have s69 : Same G6 G9 := (s67.trans sG8).trans sG9
    have b39 : But a G3 G9 := b36.trans (Same.but s69)
    have b09 : But a H G9 := (Same.but s03).trans b39
    have sp9 : SpAt G9 a (m + 2020) := by
      obtain ⟨o', ho', hok'⟩ := (sp5.same sG6).same s69
      exact ⟨o', ho', hok'.mono (by omega)⟩
    have a3 := s03 _ _ hosp
    have pne : ∀ {p t zs}, PathAt C G3 p t zs → PathAt C G9 p t zs := fun hp => by
      obtain ⟨dx, e⟩ := hp.ob
      have e2 := hp.tu
      exact ⟨⟨dx, b39 _ _ (fun z => by rw [z, a3] at e; cases e) e⟩, b39 _ _ (fun z => by rw [z, a3] at e2; cases e2) e2⟩
    have ed1_9 := s69 _ _ (sG6 _ _ (b5 _ _ d1a ed1))
    have ed2_9 := s69 _ _ (sG6 _ _ ed2)
    have rf : RefAt C n o p1 t1 p2 t2 SL d1 d2 su M O k1 k2 G9 := ⟨b39 _ _ hna (s03 _ _ hn), b39 _ _ hoa (s03 _ _ ho), pne hp1_3, pne hp2_3, s69 _ _ eSL, ed1_9, ed2_9, sG9 _ _ esu⟩
    have hT9 : Tabs [(Pt, qLam)] G9 := tabs_keep hT fun b u n1 _ e => b09 b u (fun z => by rw [z, hosp] at e; cases e; exact n1 _ rfl) e
    have bT9 : ButT a H G9 := fun b u h1 _ e => b09 b u h1 e
    obtain ⟨os9, hos9, xs9, ys9, cs9, eos9, _⟩ := id sp9
    subst eos9
    have keepR : ∀ {G : Hp}, ButT a G9 G → RefAt C n o p1 t1 p2 t2 SL d1 d2 su M O k1 k2 G := fun b => rf.keep ⟨_, _, _, hos9⟩ b
    generalize hW : G9 = W at *
    -- no paths
    refine ⟨_, rfl, n, M, rfl, rf.n, fun l b0 c0 G10 hl0 hl hb0 hc0 s10 => ?_⟩
    have hwP : ∀ (Q : VK) d H', Says CP "thing" "path" Q (.ref CP) d H' → metW K CP CS CO CU Q (.ref CP) d H' := fun Q d H' s => ⟨true, TP.x.te, fun _ => s, fun z => nomatch z⟩
    have hwS : ∀ (Q : VK) d H', Says CS "stand" "stand" Q (.ref CS) d H' → metW K CP CS CO CU Q (.ref CS) d H' := fun Q d H' s => ⟨false, x1, (fun z => nomatch z), fun _ => ⟨true, TS.x.te, fun _ => s, fun z => nomatch z⟩⟩
    have hwO : ∀ (Q : VK) d H', Says CO "name" "common" Q (.ref CO) d H' → metW K CP CS CO CU Q (.ref CO) d H' := fun Q d H' s => ⟨false, x2, (fun z => nomatch z), fun _ => ⟨false, x3, (fun z => nomatch z), fun _ => ⟨true, TO.x.te, fun _ => s, fun z => nomatch z⟩⟩⟩
    have hwU : ∀ (Q : VK) d H', Says CU "sums" "sums" Q (.ref CU) d H' → metW K CP CS CO CU Q (.ref CU) d H' := fun Q d H' s => ⟨false, x4, (fun z => nomatch z), fun _ => ⟨false, x5, (fun z => nomatch z), fun _ => ⟨false, x6, (fun z => nomatch z), fun _ => ⟨true, TU.x.te, fun _ => s, fun z => nomatch z⟩⟩⟩⟩
    have la : l ≠ a := fun e => by rw [e, hos9] at hl0; cases hl0
    have bT10 : ButT a W G10 := fun b u _ _ e => s10 _ _ e
    have hT10 := hT9.ext s10
    have sp10 := sp9.same s10
    refine ⟨l, rfl, ⟨_, SqL.of hl⟩, for_list (xs := [.non, .int 5, .str "ab", .ref b0, .ref c0, .bl true]) (fun i σ G => ∃ w7 w8, σ = [some (.ref a), some (.ref n), some (.ref o), some (.ref p1), some (.ref p2), some (.ref SL), some (.ref su), w7, w8, none, none, none, none] ∧ SpAt G a (m + 2020) ∧ ButT a W G ∧ (G l = some (.lst [.non, .int 5, .str "ab", .ref b0, .ref c0, .bl true]) ∧ G b0 = some (.lst (M.map V.str)) ∧ G c0 = some (.dK [])) ∧ Tabs [(Pt, qLam)] G)
      ⟨none, none, rfl, sp10, bT10, ⟨hl, hb0, hc0⟩, hT10⟩ (fun i σ G _ ⟨_, _, _, _, _, e, _⟩ => SqL.of e.1) ?_ ?_⟩
    · rintro i v σ G hv ⟨w7, w8, rfl, spG, bG, ⟨hlG, hbG, hcG⟩, tG⟩
      have rG := keepR bG
      obtain ⟨kv, hth, hsame⟩ : ∃ kv, Th K G v kv ∧ SameD G 4 v v := by
        have hm := List.mem_of_getElem? hv
        simp only [List.mem_cons, List.not_mem_nil, or_false] at hm
        rcases hm with rfl | rfl | rfl | rfl | rfl | rfl
        · exact ⟨_, .non, .non⟩
        · exact ⟨_, .int _, .int _⟩
        · exact ⟨_, .str (by decide), .str (by decide)⟩
        · exact ⟨_, .lst hbG, (same_strs (n := 3) hbG hbG (by omega) zM)⟩
        · exact ⟨_, .dict hcG, .dict (n := 1) hcG hcG rfl (by simp) (fun i p q e1 e2 => by simp at e1) fun i p q e1 e2 => by simp at e1⟩
        · exact ⟨_, .bl _, .bl _⟩
      refine st_name (one_met (σ := [some (.ref a), some (.ref n), some (.ref o), some (.ref p1), some (.ref p2), some (.ref SL), some (.ref su), some v, w8, none, none, none, none]) (H := G) (K := K) (CP := CP) (CS := CS) (CO := CO) (CU := CU) (Cx := CP) (fld := "thing") (word := "path") (v := v) tG hwP (fun G8 Q' E' en8 hE => ?_) ?_)
      · exact ⟨_, rfl, _, _, rfl, .inl ⟨kv, hth.extN en8, hE⟩⟩
      intro q1 A1 en1 tA1 eq1
      refine ⟨by show 1 ≤ sizeLine; decide, fun FL hFL => ?_⟩
      generalize hE : upd A1 FL _ = A2
      have sA2 : Same A1 A2 := hE ▸ same_upd hFL
      have eFL := congrFun hE.symm FL
      rw [upd_same] at eFL
      clear hE
      replace en1 : ExtN G A1 := en1
      have nF : NewN G FL := RK.ExtN.new en1 hFL
      have en2 : ExtN G A2 := RK.ExtN.same en1 sA2
      have tA2 := tA1.ext sA2
      have eq1' := sA2 _ _ eq1
      refine ⟨_, rfl, .inl ⟨rfl, _, SqL.of eFL⟩, ?_⟩
      refine one_met (σ := [some (.ref a), some (.ref n), some (.ref o), some (.ref p1), some (.ref p2), some (.ref SL), some (.ref su), some v, some (.ref FL), none, none, none, none]) (H := A2) (K := K) (CP := CP) (CS := CS) (CO := CO) (CU := CU) (Cx := CP) (fld := "thing") (word := "path") (v := v) tA2 hwP (fun G8 Q' E' en8 hE => ?_) ?_
      · have rG8 : RefAt C n o p1 t1 p2 t2 SL d1 d2 su M O k1 k2 G8 := keepR (bG.ext (en2.trans en8))
        exact ⟨_, rfl, _, rfl, _, _, rfl, .inr ⟨p1, t1, M, rfl, rG8.p1, Mnd, nmM, zM, h2M, by omega, .inl ⟨kv, hth.extN (en2.trans en8), hE⟩⟩⟩
      intro q2 A3 en3 tA3 eq2
      replace en3 : ExtN A2 A3 := en3
      have eF3 := en3 _ _ eFL (fun _ z => nomatch z)
      refine ⟨FL, _, .ref q2, rfl, rfl, eF3, by show 1 < sizeLine; decide, ?_⟩
      have en4 : ExtN G (upd A3 FL (.lst ([V.ref q1] ++ [V.ref q2]))) := ext_put (en2.trans en3) nF
      have tA4 : Tabs [(Pt, qLam)] (upd A3 FL (.lst ([V.ref q1] ++ [V.ref q2]))) := tabs_put tA3 eF3
      have eF4 : (upd A3 FL (.lst ([V.ref q1] ++ [V.ref q2]))) FL = some (.lst [.ref q1, .ref q2]) := upd_same
      have tk4 : ∀ {r : Addr} {xs : List V}, A3 r = some (.tup xs) → (upd A3 FL (.lst ([V.ref q1] ++ [V.ref q2]))) r = some (.tup xs) := fun {r xs} e => by rw [upd_ne (fun z => by rw [z, eF3] at e; cases e)]; exact e
      have eq1_4 := tk4 (en3 _ _ eq1' (fun _ z => nomatch z))
      have eq2_4 := tk4 eq2
      generalize upd A3 FL (.lst ([V.ref q1] ++ [V.ref q2])) = A4 at en4 tA4 eF4 eq1_4 eq2_4
      clear tk4
      refine ⟨_, rfl, .inl ⟨rfl, _, SqL.of eF4⟩, ?_⟩
      refine ask_two (σ := [some (.ref a), some (.ref n), some (.ref o), some (.ref p1), some (.ref p2), some (.ref SL), some (.ref su), some v, some (.ref FL), none, none, none, none]) (H := A4) (C := C) (CP := CP) (CS := CS) (CO := CO) (CU := CU) (Cx := CP) (fld := "thing") (word := "path") (v := v) tA4 rfl hwP ?_ ?_
      · intro f1 sp G8 Q' E' hS en8 tG8 hE
        have rG8 : RefAt C n o p1 t1 p2 t2 SL d1 d2 su M O k1 k2 G8 := keepR (bG.ext (en4.trans en8))
        refine ⟨_, rfl, ?_⟩
        rcases hS with ⟨rfl, rfl⟩ | ⟨rfl, rfl⟩
        · exact ⟨_, _, _, _, _, rfl, .inl ⟨kv, hth.extN (en4.trans en8), hE⟩⟩
        · exact ⟨_, _, _, _, _, rfl, .inl ⟨kv, hth.extN (en4.trans en8), hE⟩⟩
      intro D4 r4a r4b A5 hDn4 en5 tA5 gD4 gr4a gr4b
      replace en5 : ExtN A4 A5 := en5
      have eF5 := en5 _ _ eF4 (fun _ z => nomatch z)
      refine ⟨FL, D4, _, _, rfl, rfl, eF5, gD4, by show 2 + 2 ≤ sizeLine; decide, ?_⟩
      have en6 : ExtN G (upd A5 FL (.lst ([V.ref q1, V.ref q2] ++ [V.ref r4a, V.ref r4b]))) := ext_put (en4.trans en5) nF
      have tA6 : Tabs [(Pt, qLam)] (upd A5 FL (.lst ([V.ref q1, V.ref q2] ++ [V.ref r4a, V.ref r4b]))) := tabs_put tA5 eF5
      have eF6 : (upd A5 FL (.lst ([V.ref q1, V.ref q2] ++ [V.ref r4a, V.ref r4b]))) FL = some (.lst [.ref q1, .ref q2, .ref r4a, .ref r4b]) := upd_same
      have tk4 : ∀ {r : Addr} {xs : List V}, A5 r = some (.tup xs) → (upd A5 FL (.lst ([V.ref q1, V.ref q2] ++ [V.ref r4a, V.ref r4b]))) r = some (.tup xs) := fun {r xs} e => by rw [upd_ne (fun z => by rw [z, eF5] at e; cases e)]; exact e
      have eq1_6 := tk4 (en5 _ _ eq1_4 (fun _ z => nomatch z))
      have eq2_6 := tk4 (en5 _ _ eq2_4 (fun _ z => nomatch z))
      have er4a_6 := tk4 gr4a
      have er4b_6 := tk4 gr4b
      generalize upd A5 FL (.lst ([V.ref q1, V.ref q2] ++ [V.ref r4a, V.ref r4b])) = A6 at en6 tA6 eF6 eq1_6 eq2_6 er4a_6 er4b_6
      clear tk4
      refine ⟨_, rfl, .inl ⟨rfl, _, SqL.of eF6⟩, ?_⟩
      refine ask_two (σ := [some (.ref a), some (.ref n), some (.ref o), some (.ref p1), some (.ref p2), some (.ref SL), some (.ref su), some v, some (.ref FL), none, none, none, none]) (H := A6) (C := C) (CP := CP) (CS := CS) (CO := CO) (CU := CU) (Cx := CP) (fld := "thing") (word := "path") (v := v) tA6 rfl hwP ?_ ?_
      · intro f1 sp G8 Q' E' hS en8 tG8 hE
        have rG8 : RefAt C n o p1 t1 p2 t2 SL d1 d2 su M O k1 k2 G8 := keepR (bG.ext (en6.trans en8))
        refine ⟨_, rfl, _, rfl, ?_⟩
        rcases hS with ⟨rfl, rfl⟩ | ⟨rfl, rfl⟩
        · exact ⟨_, _, _, _, _, rfl, .inr ⟨p1, t1, M, rfl, rG8.p1, Mnd, nmM, zM, h2M, by omega, .inl ⟨kv, hth.extN (en6.trans en8), hE⟩⟩⟩
        · exact ⟨_, _, _, _, _, rfl, .inr ⟨p1, t1, M, rfl, rG8.p1, Mnd, nmM, zM, h2M, by omega, .inl ⟨kv, hth.extN (en6.trans en8), hE⟩⟩⟩
      intro D6 r6a r6b A7 hDn6 en7 tA7 gD6 gr6a gr6b
      replace en7 : ExtN A6 A7 := en7
      have eF7 := en7 _ _ eF6 (fun _ z => nomatch z)
      refine ⟨FL, D6, _, _, rfl, rfl, eF7, gD6, by show 4 + 2 ≤ sizeLine; decide, ?_⟩
      have en8 : ExtN G (upd A7 FL (.lst ([V.ref q1, V.ref q2, V.ref r4a, V.ref r4b] ++ [V.ref r6a, V.ref r6b]))) := ext_put (en6.trans en7) nF
      have tA8 : Tabs [(Pt, qLam)] (upd A7 FL (.lst ([V.ref q1, V.ref q2, V.ref r4a, V.ref r4b] ++ [V.ref r6a, V.ref r6b]))) := tabs_put tA7 eF7
      have eF8 : (upd A7 FL (.lst ([V.ref q1, V.ref q2, V.ref r4a, V.ref r4b] ++ [V.ref r6a, V.ref r6b]))) FL = some (.lst [.ref q1, .ref q2, .ref r4a, .ref r4b, .ref r6a, .ref r6b]) := upd_same
      have tk6 : ∀ {r : Addr} {xs : List V}, A7 r = some (.tup xs) → (upd A7 FL (.lst ([V.ref q1, V.ref q2, V.ref r4a, V.ref r4b] ++ [V.ref r6a, V.ref r6b]))) r = some (.tup xs) := fun {r xs} e => by rw [upd_ne (fun z => by rw [z, eF7] at e; cases e)]; exact e
      have eq1_8 := tk6 (en7 _ _ eq1_6 (fun _ z => nomatch z))
      have eq2_8 := tk6 (en7 _ _ eq2_6 (fun _ z => nomatch z))
      have er4a_8 := tk6 (en7 _ _ er4a_6 (fun _ z => nomatch z))
      have er4b_8 := tk6 (en7 _ _ er4b_6 (fun _ z => nomatch z))
      have er6a_8 := tk6 gr6a
      have er6b_8 := tk6 gr6b
      generalize upd A7 FL (.lst ([V.ref q1, V.ref q2, V.ref r4a, V.ref r4b] ++ [V.ref r6a, V.ref r6b])) = A8 at en8 tA8 eF8 eq1_8 eq2_8 er4a_8 er4b_8 er6a_8 er6b_8
      clear tk6
      have hth8 := hth.extN en8
      have hsame8 := hsame.extN en8
      -- same
      refine ⟨_, rfl, _, rfl, by show 2 ≤ sizeLine; decide, fun T8 hT8 => ?_⟩
      generalize hE : upd A8 T8 _ = A9
      have sA9 : Same A8 A9 := hE ▸ same_upd hT8
      have eT8 := congrFun hE.symm T8
      rw [upd_same] at eT8
      clear hE
      refine ⟨by show 1 ≤ sizeLine; decide, fun R9 hR9 => ?_⟩
      generalize hE : upd A9 R9 _ = A10
      have sA10 : Same A9 A10 := hE ▸ same_upd hR9
      have eR9 := congrFun hE.symm R9
      rw [upd_same] at eR9
      clear hE
      refine ⟨R9, 6, _, rfl, rfl, eR9, by decide, by decide, by show 1 * 6 ≤ sizeLine; decide, fun R10 hR10 => ?_⟩
      generalize hE : upd A10 R10 _ = A11
      have sA11 : Same A10 A11 := hE ▸ same_upd hR10
      have eR10 := congrFun hE.symm R10
      rw [upd_same] at eR10
      clear hE
      have s811 := (sA9.trans sA10).trans sA11
      have sd : SameD A11 6 (.ref FL) (.ref R10) := rows_same (qs := [q1, q2, r4a, r4b, r6a, r6b]) (s811 _ _ eF8) eR10 (fun q hq => by
        simp only [List.mem_cons, List.not_mem_nil, or_false] at hq
        rcases hq with rfl | rfl | rfl | rfl | rfl | rfl <;> exact s811 _ _ (by assumption)) (sA11 _ _ (sA10 _ _ eT8)) (by decide) (by simp) (hsame8.mono s811)
      refine ⟨_, _, rfl, sd, fun A12 s12 => ⟨true, rfl, iteF ?_⟩⟩
      have en12 : ExtN G A12 := RK.ExtN.same en8 (s811.trans s12)
      have spE : SpAt A12 a (m + 2020) := by
        obtain ⟨o', ho', hok'⟩ := spG
        refine ⟨o', en12 _ _ ho' ?_, hok'⟩
        obtain ⟨x', y', c', rfl, _⟩ := hok'
        exact fun _ z => nomatch z
      exact ⟨_, _, rfl, spE, bG.ext en12, ⟨en12 _ _ hlG (fun _ z => nomatch z), en12 _ _ hbG (fun _ z => nomatch z), en12 _ _ hcG (fun _ z => nomatch z)⟩, (tA8.ext s811).ext s12⟩
    rintro σ G ⟨w7, w8, rfl, spG, bG, _, tG⟩
    obtain ⟨o0, O', rfl⟩ : ∃ o0 O', O = o0 :: O' := by
      match O, h2O with
      | x :: r, _ => exact ⟨_, _, rfl⟩
    have rG := keepR bG
    refine ⟨_, rfl, _, rfl, o, _, rfl, SqL.of rG.o, fun S1 hS1 => ?_⟩
    have ecut : cutV ((o0 :: O').map V.str) none (some 1) = [V.str o0] := by
      rw [show (some 1 : Option Int) = some ((1 : Nat) : Int) from rfl, cut_to]
      rfl
    rw [ecut]
    generalize hE : upd G S1 _ = B1
    have sB1 : Same G B1 := hE ▸ same_upd hS1
    have eS1 := congrFun hE.symm S1
    rw [upd_same] at eS1
    clear hE
    refine ⟨_, rfl, n, _, rfl, SqL.of (sB1 _ _ rG.n), fun S2 hS2 => ?_⟩
    generalize hE : upd B1 S2 _ = B2
    have sB2 : Same B1 B2 := hE ▸ same_upd hS2
    have eS2 := congrFun hE.symm S2
    rw [upd_same] at eS2
    clear hE
    refine ⟨S1, S2, _, _, rfl, rfl, sB2 _ _ eS1, eS2, ?_, fun R1 hR1 => ?_⟩
    · rw [List.length_reverse, List.length_map]
      exact Nat.le_of_lt (Nat.lt_of_le_of_lt (show 1 + M.length ≤ 30 by omega) (by decide))
    have eR0 : [V.str o0] ++ (M.map V.str).reverse = (o0 :: M.reverse).map V.str := by rw [List.map_cons, List.map_reverse]; rfl
    rw [eR0]
    generalize hE : upd B2 R1 _ = B3
    have sB3 : Same B2 B3 := hE ▸ same_upd hR1
    have eR1 := congrFun hE.symm R1
    rw [upd_same] at eR1
    clear hE
    have o0M : o0 ∉ M := dis o0 List.mem_cons_self
    have ndB : (o0 :: M.reverse).Nodup := List.nodup_cons.mpr ⟨fun h => o0M (List.mem_reverse.mp h), (List.reverse_perm M).nodup_iff.mpr Mnd⟩
    have inB : ∀ z ∈ o0 :: M.reverse, z ∈ M ++ (o0 :: O') := fun z hz => by
      rcases List.mem_cons.mp hz with rfl | h
      · exact List.mem_append_right _ List.mem_cons_self
      · exact List.mem_append_left _ (List.mem_reverse.mp h)
    have lB : (o0 :: M.reverse).length = M.length + 1 := by rw [List.length_cons, List.length_reverse]
    have nmB : Nm (o0 :: M.reverse) := fun z hz => pool_names z (hpool z (inB z hz))
    have zB : ∀ z ∈ o0 :: M.reverse, z.length ≤ 1000 := fun z hz => pool_len z (hpool z (inB z hz))
    refine fun bp dxb nxb ndxb nexb => init_good (zs := o0 :: M.reverse) nxb ndxb (.inl ⟨eR1, rfl⟩) ndB nmB zB (by omega) (by omega) fun tb B4 hpb sB4 => ⟨rfl, ?_⟩
    have sGB : Same G B4 := ((sB1.trans sB2).trans sB3).trans sB4
    obtain ⟨m0, M', hMe⟩ : ∃ m0 M', M = m0 :: M' := by
      match M, h2M with
      | x :: r, _ => exact ⟨_, _, rfl⟩
    have m0M : m0 ∈ M := by rw [hMe]; exact List.mem_cons_self
    have hcommon : firstIn M (o0 :: M.reverse) = some m0 := by
      unfold firstIn
      rw [hMe, List.find?_cons, decide_eq_true (show m0 ∈ o0 :: (m0 :: M').reverse from List.mem_cons_of_mem _ (List.mem_reverse.mpr List.mem_cons_self))]
    have bB : ButT a W B4 := fun b u h1 h2 e => sGB _ _ (bG b u h1 h2 e)
    have tB4 := tG.ext sGB
    have rB := keepR bB
    have pathX : ∀ {p t zs} {A A' : Hp}, ExtN A A' → PathAt C A p t zs → PathAt C A' p t zs := fun en hp => ⟨let ⟨dx, e⟩ := hp.ob; ⟨dx, en _ _ e (fun _ z => nomatch z)⟩, en _ _ hp.tu (fun _ z => nomatch z)⟩
    refine st_name (st_seq (st_asg (ask_two (σ := [some (.ref a), some (.ref n), some (.ref o), some (.ref p1), some (.ref p2), some (.ref SL), some (.ref su), w7, w8, some (.ref bp), none, none, none]) (H := B4) (C := C) (CP := CP) (CS := CS) (CO := CO) (CU := CU) (Cx := CO) (fld := "name") (word := "common") (v := .str m0) tB4 rfl hwO ?_ ?_)))
    · intro f1 sp G8 Q' E' hS en8 tG8 hE
      have rG8 := keepR (bB.ext en8)
      have hb8 := pathX en8 hpb
      refine ⟨_, rfl, _, rfl, ?_⟩
      rcases hS with ⟨rfl, rfl⟩ | ⟨rfl, rfl⟩
      · exact ⟨_, _, _, _, _, rfl, .inr ⟨p1, t1, M, rfl, rG8.p1, Mnd, nmM, zM, h2M, by omega, .inr ⟨bp, tb, _, rfl, hb8, ndB, nmB, zB, by omega, by omega, fun z hz => by rw [hcommon] at hz; cases hz; exact hE, fun hz => absurd (hcommon.symm.trans hz) (fun q => nomatch q)⟩⟩⟩
      · exact ⟨_, _, _, _, _, rfl, .inr ⟨p1, t1, M, rfl, rG8.p1, Mnd, nmM, zM, h2M, by omega, .inr ⟨bp, tb, _, rfl, hb8, ndB, nmB, zB, by omega, by omega, fun z hz => by rw [hcommon] at hz; cases hz; exact hE, fun hz => absurd (hcommon.symm.trans hz) (fun q => nomatch q)⟩⟩⟩
    intro FD q1 q2 B5 hFD en5 tB5 gFD gq1 gq2
    replace en5 : ExtN B4 B5 := en5
    refine st_name ?_
    refine ⟨_, rfl, .inl ⟨rfl, _, SqL.of gFD⟩, ?_⟩
    refine one_met (σ := [some (.ref a), some (.ref n), some (.ref o), some (.ref p1), some (.ref p2), some (.ref SL), some (.ref su), w7, some (.ref FD), some (.ref bp), none, none, none]) (H := B5) (K := K) (CP := CP) (CS := CS) (CO := CO) (CU := CU) (Cx := CO) (fld := "name") (word := "common") (v := .str m0) tB5 hwO (fun G8 Q' E' en8 hE => ?_) ?_
    · have rG8 := keepR (bB.ext (en5.trans en8))
      have hb8 := pathX (en5.trans en8) hpb
      refine ⟨_, rfl, _, rfl, ?_⟩
      exact st_nil ⟨rfl, rfl, _, _, rfl, .inr ⟨p1, t1, M, rfl, rG8.p1, Mnd, nmM, zM, h2M, by omega, .inr ⟨bp, tb, _, rfl, hb8, ndB, nmB, zB, by omega, by omega, fun z hz => by rw [hcommon] at hz; cases hz; exact hE, fun hz => absurd (hcommon.symm.trans hz) (fun q => nomatch q)⟩⟩⟩
    intro q3 B6 en6 tB6 eq3
    replace en6 : ExtN B5 B6 := en6
    have eF6 := en6 _ _ gFD (fun _ z => nomatch z)
    refine ⟨FD, _, .ref q3, rfl, rfl, eF6, by show 2 < sizeLine; decide, ?_⟩
    have nF : NewN B4 FD := fun o' e => by rw [hFD] at e; cases e
    have en7 : ExtN B4 (upd B6 FD (.lst ([V.ref q1, V.ref q2] ++ [V.ref q3]))) := ext_put (en5.trans en6) nF
    have tB7 : Tabs [(Pt, qLam)] (upd B6 FD (.lst ([V.ref q1, V.ref q2] ++ [V.ref q3]))) := tabs_put tB6 eF6
    have eF7 : (upd B6 FD (.lst ([V.ref q1, V.ref q2] ++ [V.ref q3]))) FD = some (.lst [.ref q1, .ref q2, .ref q3]) := upd_same
    have tk7 : ∀ {r : Addr} {xs : List V}, B6 r = some (.tup xs) → (upd B6 FD (.lst ([V.ref q1, V.ref q2] ++ [V.ref q3]))) r = some (.tup xs) := fun {r xs} e => by rw [upd_ne (fun z => by rw [z, eF6] at e; cases e)]; exact e
    have eq1_7 := tk7 (en6 _ _ gq1 (fun _ z => nomatch z))
    have eq2_7 := tk7 (en6 _ _ gq2 (fun _ z => nomatch z))
    have eq3_7 := tk7 eq3
    generalize upd B6 FD (.lst ([V.ref q1, V.ref q2] ++ [V.ref q3])) = B7 at en7 tB7 eF7 eq1_7 eq2_7 eq3_7
    clear tk7
    have bB7 := bB.ext en7
    have rB7 := keepR bB7
    refine ⟨_, rfl, _, rfl, n, _, 0, .str m0, rfl, rfl, SqL.of rB7.n, by rw [hMe]; unfold atI ixN; simp, by show 2 ≤ sizeLine; decide, fun T8 hT8 => ?_⟩
    generalize hE : upd B7 T8 _ = B8
    have sB8 : Same B7 B8 := hE ▸ same_upd hT8
    have eT8 := congrFun hE.symm T8
    rw [upd_same] at eT8
    clear hE
    refine ⟨by show 1 ≤ sizeLine; decide, fun R9 hR9 => ?_⟩
    generalize hE : upd B8 R9 _ = B9
    have sB9 : Same B8 B9 := hE ▸ same_upd hR9
    have eR9 := congrFun hE.symm R9
    rw [upd_same] at eR9
    clear hE
    refine ⟨R9, 3, _, rfl, rfl, eR9, by decide, by decide, by show 1 * 3 ≤ sizeLine; decide, fun R10 hR10 => ?_⟩
    generalize hE : upd B9 R10 _ = B10
    have sB10 : Same B9 B10 := hE ▸ same_upd hR10
    have eR10 := congrFun hE.symm R10
    rw [upd_same] at eR10
    clear hE
    have s710 := (sB8.trans sB9).trans sB10
    have sd : SameD B10 6 (.ref FD) (.ref R10) := SameD.up (n := 3) (rows_same (n := 1) (qs := [q1, q2, q3]) (s710 _ _ eF7) eR10 (fun q hq => by
      simp only [List.mem_cons, List.not_mem_nil, or_false] at hq
      rcases hq with rfl | rfl | rfl <;> exact s710 _ _ (by assumption)) (sB10 _ _ (sB9 _ _ eT8)) (by decide) (by simp) (.str (zM _ m0M))) 3
    refine ⟨_, _, rfl, sd, fun B11 s11 => ⟨true, rfl, iteF ?_⟩⟩
    have bB11 : ButT a W B11 := bB7.ext (ExtN.of (s710.trans s11))
    have tB11 := (tB7.ext s710).ext s11
    have rB11 := keepR bB11
    have toEx : ExtN G B11 := ((ExtN.of sGB).trans en7).trans (ExtN.of (s710.trans s11))
    have spB11 : SpAt B11 a (m + 2020) := by
      obtain ⟨o', ho', hok'⟩ := spG
      refine ⟨o', toEx _ _ ho' ?_, hok'⟩
      obtain ⟨x', y', c', rfl, _⟩ := hok'
      exact fun _ z => nomatch z
    have d1a' : d1 ≠ a := d1a
    refine ⟨_, rfl, _, rfl, _, rfl, SL, _, 0, .ref d1, rfl, rfl, SqL.of rB11.SL, rfl, a, n, d1, M, M, k1, _, rfl, han, Ne.symm d1a, spB11, by omega, rB11.n, rB11.d1, st1, Mnd, zM, h2M, by omega, fun l1 os C1 hl10 hl1 hlen1 hos1 spC1 bC1 => ?_⟩
    have bT1 : ButT a W C1 := bB11.trans fun b u h1 _ e => bC1 b u h1 e
    obtain ⟨oB, hoB, xB, yB, cB, eoB, _⟩ := id spB11
    subst eoB
    have tC1 : Tabs [(Pt, qLam)] C1 := tabs_keep tB11 fun b u n1 _ e => bC1 b u (fun z => by rw [z, hoB] at e; cases e; exact n1 _ rfl) e
    replace spC1 : SpAt C1 a (m + 3020) := by
      obtain ⟨o', ho', hok'⟩ := spC1
      exact ⟨o', ho', hok'.mono (by omega)⟩
    refine ⟨l1, rfl, ⟨_, SqL.of hl1⟩, for_list (xs := os) (fun i σ G => ∃ w7 w8, σ = [some (.ref a), some (.ref n), some (.ref o), some (.ref p1), some (.ref p2), some (.ref SL), some (.ref su), w7, w8, some (.ref bp), none, none, none] ∧ SpAt G a (m + 3020) ∧ ButT a W G ∧ G l1 = some (.lst os) ∧ Tabs [(Pt, qLam)] G ∧ Odds K M B11 G 40 os)
      ⟨_, _, rfl, spC1, bT1, hl1, tC1, hos1⟩ (fun i σ G _ ⟨_, _, _, _, _, e, _⟩ => SqL.of e) ?_ ?_⟩
    · rintro i v σ G' hv ⟨w7, w8, rfl, spG', bG', hlG', tG', hosG⟩
      obtain ⟨hO, hno⟩ := hosG v (List.mem_of_getElem? hv)
      refine st_name (st_seq (st_asg (ask_two (σ := [some (.ref a), some (.ref n), some (.ref o), some (.ref p1), some (.ref p2), some (.ref SL), some (.ref su), some v, w8, some (.ref bp), none, none, none]) (H := G') (C := C) (CP := CP) (CS := CS) (CO := CO) (CU := CU) (Cx := CS) (fld := "stand") (word := "stand") (v := v) tG' rfl hwS ?_ ?_)))
      · intro f1 sp G8 Q' E' hS en8 tG8 hE
        have rG8 := keepR (bG'.ext en8)
        have hO8 := hO.extN en8
        obtain ⟨k, hth, hdct⟩ := hO8.th
        have hst8 : StandT K CS M v G8 E' fun _ _ => False := ⟨k, hth, fun _ => hE, fun hk => by
          obtain ⟨dd, kv, rfl, h0, hdd, _, hkv⟩ := hdct hk
          have h0G := (Odds.extN hosG en8 _ (List.mem_of_getElem? hv)).2 dd kv rfl hdd
          exact ⟨dd, kv, rfl, hdd, fun x hx => (hkv x hx).2.th, fun _ => hE, fun q => absurd (h0G.symm.trans q) (fun z => nomatch z)⟩⟩
        have nofirst : firstIn M (o0 :: O') = none := List.find?_eq_none.mpr fun x hx q => dis x (of_decide_eq_true q) hx
        refine ⟨_, rfl, _, rfl, _, rfl, ?_⟩
        rcases hS with ⟨rfl, rfl⟩ | ⟨rfl, rfl⟩
        · exact ⟨_, _, _, _, _, rfl, .inr ⟨p1, t1, M, rfl, rG8.p1, Mnd, nmM, zM, h2M, by omega, .inr ⟨p2, t2, _, rfl, rG8.p2, Ond, nmO, zO, h2O, by omega, fun z hz => absurd (nofirst.symm.trans hz) (fun q => nomatch q), fun _ => hst8.same (Same.refl _) fun _ _ _ _ _ q => q.elim⟩⟩⟩
        · exact ⟨_, _, _, _, _, rfl, .inr ⟨p1, t1, M, rfl, rG8.p1, Mnd, nmM, zM, h2M, by omega, .inr ⟨p2, t2, _, rfl, rG8.p2, Ond, nmO, zO, h2O, by omega, fun z hz => absurd (nofirst.symm.trans hz) (fun q => nomatch q), fun _ => hst8.same (Same.refl _) fun _ _ _ _ _ q => q.elim⟩⟩⟩
      intro FD q1 q2 D5 hFD en5 tD5 gFD gq1 gq2
      replace en5 : ExtN G' D5 := en5
      refine st_name ?_
      refine ⟨_, rfl, _, rfl, by show 2 ≤ sizeLine; decide, fun T8 hT8 => ?_⟩
      generalize hE : upd D5 T8 _ = D6
      have sD6 : Same D5 D6 := hE ▸ same_upd hT8
      have eT8 := congrFun hE.symm T8
      rw [upd_same] at eT8
      clear hE
      refine ⟨by show 1 ≤ sizeLine; decide, fun R9 hR9 => ?_⟩
      generalize hE : upd D6 R9 _ = D7
      have sD7 : Same D6 D7 := hE ▸ same_upd hR9
      have eR9 := congrFun hE.symm R9
      rw [upd_same] at eR9
      clear hE
      refine ⟨R9, 2, _, rfl, rfl, eR9, by decide, by decide, by show 1 * 2 ≤ sizeLine; decide, fun R10 hR10 => ?_⟩
      generalize hE : upd D7 R10 _ = D8
      have sD8 : Same D7 D8 := hE ▸ same_upd hR10
      have eR10 := congrFun hE.symm R10
      rw [upd_same] at eR10
      clear hE
      have s58 := (sD6.trans sD7).trans sD8
      have sv : SameD D8 4 v v := ((hO.sameD (by decide) (fun h k => SameD.up h k)).extN en5).mono s58
      have sd : SameD D8 6 (.ref FD) (.ref R10) := rows_same (qs := [q1, q2]) (s58 _ _ gFD) eR10 (fun q hq => by
        simp only [List.mem_cons, List.not_mem_nil, or_false] at hq
        rcases hq with rfl | rfl <;> exact s58 _ _ (by assumption)) (sD8 _ _ (sD7 _ _ eT8)) (by decide) (by simp) sv
      refine ⟨_, _, rfl, sd, fun D9 s9 => ⟨true, rfl, iteF ?_⟩⟩
      have en9 : ExtN G' D9 := en5.trans (ExtN.of (s58.trans s9))
      have spE : SpAt D9 a (m + 3020) := by
        obtain ⟨o', ho', hok'⟩ := spG'
        refine ⟨o', en9 _ _ ho' ?_, hok'⟩
        obtain ⟨x', y', c', rfl, _⟩ := hok'
        exact fun _ z => nomatch z
      exact ⟨_, _, rfl, spE, bG'.ext en9, en9 _ _ hlG' (fun _ z => nomatch z), (tD5.ext s58).ext s9, Odds.extN hosG en9⟩
    clear hos1 bT1 tC1
    rintro σ G ⟨w7, w8, rfl, spG, bG, _, tG, _⟩
    have rG2 := keepR bG
    generalize hG2 : G = G2 at spG bG tG rG2
    refine ⟨_, rfl, _, rfl, _, rfl, SL, _, 1, .ref d2, rfl, rfl, SqL.of rG2.SL, rfl, a, o, d2, o0 :: O', o0 :: O', k2, _, rfl, hao, Ne.symm d2a, spG, by omega, rG2.o, rG2.d2, st2, Ond, zO, h2O, by omega, fun l1 os C1 hl10 hl1 hlen1 hos1 spC1 bC1 => ?_⟩
    have bT1 : ButT a W C1 := bG.trans fun b u h1 _ e => bC1 b u h1 e
    obtain ⟨oB, hoB, xB, yB, cB, eoB, _⟩ := id spG
    subst eoB
    have tC1 : Tabs [(Pt, qLam)] C1 := tabs_keep tG fun b u n1 _ e => bC1 b u (fun z => by rw [z, hoB] at e; cases e; exact n1 _ rfl) e
    replace spC1 : SpAt C1 a (m + 4020) := by
      obtain ⟨o', ho', hok'⟩ := spC1
      exact ⟨o', ho', hok'.mono (by omega)⟩
    refine ⟨l1, rfl, ⟨_, SqL.of hl1⟩, for_list (xs := os) (fun i σ G => ∃ w7 w8, σ = [some (.ref a), some (.ref n), some (.ref o), some (.ref p1), some (.ref p2), some (.ref SL), some (.ref su), w7, w8, some (.ref bp), none, none, none] ∧ SpAt G a (m + 4020) ∧ ButT a W G ∧ G l1 = some (.lst os) ∧ Tabs [(Pt, qLam)] G ∧ Odds K (o0 :: O') G2 G 40 os)
      ⟨_, _, rfl, spC1, bT1, hl1, tC1, hos1⟩ (fun i σ G _ ⟨_, _, _, _, _, e, _⟩ => SqL.of e) ?_ ?_⟩
    · rintro i v σ G' hv ⟨w7, w8, rfl, spG', bG', hlG', tG', hosG⟩
      obtain ⟨hO, hno⟩ := hosG v (List.mem_of_getElem? hv)
      refine st_name (st_seq (st_asg (ask_two (σ := [some (.ref a), some (.ref n), some (.ref o), some (.ref p1), some (.ref p2), some (.ref SL), some (.ref su), some v, w8, some (.ref bp), none, none, none]) (H := G') (C := C) (CP := CP) (CS := CS) (CO := CO) (CU := CU) (Cx := CS) (fld := "stand") (word := "stand") (v := v) tG' rfl hwS ?_ ?_)))
      · intro f1 sp G8 Q' E' hS en8 tG8 hE
        have rG8 := keepR (bG'.ext en8)
        have hO8 := hO.extN en8
        obtain ⟨k, hth, hdct⟩ := hO8.th
        have hst8 : StandT K CS (o0 :: O') v G8 E' fun _ _ => False := ⟨k, hth, fun _ => hE, fun hk => by
          obtain ⟨dd, kv, rfl, h0, hdd, _, hkv⟩ := hdct hk
          have h0G := (Odds.extN hosG en8 _ (List.mem_of_getElem? hv)).2 dd kv rfl hdd
          exact ⟨dd, kv, rfl, hdd, fun x hx => (hkv x hx).2.th, fun _ => hE, fun q => absurd (h0G.symm.trans q) (fun z => nomatch z)⟩⟩
        have nofirst : firstIn M (o0 :: O') = none := List.find?_eq_none.mpr fun x hx q => dis x (of_decide_eq_true q) hx
        refine ⟨_, rfl, _, rfl, SL, _, 0, .ref d1, rfl, rfl, SqL.of rG8.SL, rfl, _, rfl, _, rfl, ?_⟩
        have hM8 : ∀ {next : Addr → List (Key × V) → Prop}, (∀ d k, next d k) → StandT K CS M (.ref d1) G8 E' next := fun h => ⟨.dict, .dict rG8.d1, (fun z => nomatch z), fun _ => ⟨d1, k1, rfl, rG8.d1, by rw [st1.kv]; exact kv_th, fun q => absurd (st1.ok.symm.trans q) (fun z => nomatch z), fun _ => h _ _⟩⟩
        rcases hS with ⟨rfl, rfl⟩ | ⟨rfl, rfl⟩
        · exact ⟨_, _, _, _, _, rfl, .inr ⟨p1, t1, M, rfl, rG8.p1, Mnd, nmM, zM, h2M, by omega, .inr ⟨p2, t2, _, rfl, rG8.p2, Ond, nmO, zO, h2O, by omega, fun z hz => absurd (nofirst.symm.trans hz) (fun q => nomatch q), fun _ => hM8 fun _ _ => hst8.same (Same.refl _) fun _ _ _ _ _ q => q.elim⟩⟩⟩
        · exact ⟨_, _, _, _, _, rfl, .inr ⟨p1, t1, M, rfl, rG8.p1, Mnd, nmM, zM, h2M, by omega, .inr ⟨p2, t2, _, rfl, rG8.p2, Ond, nmO, zO, h2O, by omega, fun z hz => absurd (nofirst.symm.trans hz) (fun q => nomatch q), fun _ => hM8 fun _ _ => hst8.same (Same.refl _) fun _ _ _ _ _ q => q.elim⟩⟩⟩
      intro FD q1 q2 D5 hFD en5 tD5 gFD gq1 gq2
      replace en5 : ExtN G' D5 := en5
      refine st_name ?_
      refine ⟨_, rfl, _, rfl, by show 2 ≤ sizeLine; decide, fun T8 hT8 => ?_⟩
      generalize hE : upd D5 T8 _ = D6
      have sD6 : Same D5 D6 := hE ▸ same_upd hT8
      have eT8 := congrFun hE.symm T8
      rw [upd_same] at eT8
      clear hE
      refine ⟨by show 1 ≤ sizeLine; decide, fun R9 hR9 => ?_⟩
      generalize hE : upd D6 R9 _ = D7
      have sD7 : Same D6 D7 := hE ▸ same_upd hR9
      have eR9 := congrFun hE.symm R9
      rw [upd_same] at eR9
      clear hE
      refine ⟨R9, 2, _, rfl, rfl, eR9, by decide, by decide, by show 1 * 2 ≤ sizeLine; decide, fun R10 hR10 => ?_⟩
      generalize hE : upd D7 R10 _ = D8
      have sD8 : Same D7 D8 := hE ▸ same_upd hR10
      have eR10 := congrFun hE.symm R10
      rw [upd_same] at eR10
      clear hE
      have s58 := (sD6.trans sD7).trans sD8
      have sv : SameD D8 4 v v := ((hO.sameD (by decide) (fun h k => SameD.up h k)).extN en5).mono s58
      have sd : SameD D8 6 (.ref FD) (.ref R10) := rows_same (qs := [q1, q2]) (s58 _ _ gFD) eR10 (fun q hq => by
        simp only [List.mem_cons, List.not_mem_nil, or_false] at hq
        rcases hq with rfl | rfl <;> exact s58 _ _ (by assumption)) (sD8 _ _ (sD7 _ _ eT8)) (by decide) (by simp) sv
      refine ⟨_, _, rfl, sd, fun D9 s9 => ⟨true, rfl, iteF ?_⟩⟩
      have en9 : ExtN G' D9 := en5.trans (ExtN.of (s58.trans s9))
      have spE : SpAt D9 a (m + 4020) := by
        obtain ⟨o', ho', hok'⟩ := spG'
        refine ⟨o', en9 _ _ ho' ?_, hok'⟩
        obtain ⟨x', y', c', rfl, _⟩ := hok'
        exact fun _ z => nomatch z
      exact ⟨_, _, rfl, spE, bG'.ext en9, en9 _ _ hlG' (fun _ z => nomatch z), (tD5.ext s58).ext s9, Odds.extN hosG en9⟩
    clear hos1 bT1 tC1
    rintro σ G ⟨w7, w8, rfl, spG, bG, _, tG, _⟩
    obtain ⟨m0', M'', hMe2⟩ : ∃ m0 M', M = m0 :: M' := ⟨m0, M', hMe⟩
    have rG3 := keepR bG
    generalize hG3 : G = G3 at spG bG tG rG3
    have M'nd : M'.Nodup := by rw [hMe] at Mnd; exact (List.nodup_cons.mp Mnd).2
    have hM'l : M.length = M'.length + 1 := by rw [hMe]; rfl
    refine ⟨by show 0 ≤ sizeLine; decide, fun E1 hE1 => ?_⟩
    generalize hE : upd G3 E1 _ = F1
    have sF1 : Same G3 F1 := hE ▸ same_upd hE1
    have eE1 := congrFun hE.symm E1
    rw [upd_same] at eE1
    clear hE
    refine fun E2 hE2 => ?_
    generalize hE : upd F1 E2 _ = F2
    have sF2 : Same F1 F2 := hE ▸ same_upd hE2
    have eE2 := congrFun hE.symm E2
    rw [upd_same] at eE2
    clear hE
    refine ⟨_, rfl, _, rfl, n, _, rfl, SqL.of (sF2 _ _ (sF1 _ _ rG3.n)), fun S hS => ?_⟩
    have ecut2 : cutV (M.map V.str) (some 1) none = M'.map V.str := by
      rw [show (some 1 : Option Int) = some ((1 : Nat) : Int) from rfl, cut_from, hMe]
      rfl
    rw [ecut2]
    generalize hE : upd F2 S _ = F3
    have sF3 : Same F2 F3 := hE ▸ same_upd hS
    have eS := congrFun hE.symm S
    rw [upd_same] at eS
    clear hE
    refine ⟨S, rfl, ⟨_, SqL.of eS⟩, fun D hD => dictA_it (f := fun z => .int 0) eS hD (by omega) (fun _ => rfl) (fun _ _ _ h => ⟨_, rfl, h⟩) (fun z hz G Q' s q' => q' G (Same.refl G)) fun F4 ts s34 eD pD => ⟨D, ts, _, rfl, SqL.of eD, Paired.mono (fun _ _ h => SqT.of h) pD, fun E3 hE3 => ?_⟩⟩
    rw [merge_kvV M'nd, kvV_int]
    replace s34 : Same F3 F4 := s34
    generalize hE : upd F4 E3 _ = F5
    have sF5 : Same F4 F5 := hE ▸ same_upd hE3
    have eE3 := congrFun hE.symm E3
    rw [upd_same] at eE3
    clear hE
    refine ⟨by show 7 ≤ sizeLine; decide, fun OL hOL => ?_⟩
    generalize hE : upd F5 OL _ = F6
    have sF6 : Same F5 F6 := hE ▸ same_upd hOL
    have eOL := congrFun hE.symm OL
    rw [upd_same] at eOL
    clear hE
    have s36 : Same G3 F6 := ((((sF1.trans sF2).trans sF3).trans s34).trans sF5).trans sF6
    refine ⟨_, rfl, .inl ⟨rfl, _, SqL.of eOL⟩, ?_⟩
    refine ⟨by show 1 ≤ sizeLine; decide, fun T1 hT1 => ?_⟩
    generalize hE : upd F6 T1 _ = F7
    have sF7 : Same F6 F7 := hE ▸ same_upd hT1
    have eT1 := congrFun hE.symm T1
    rw [upd_same] at eT1
    clear hE
    refine ⟨by show 4 ≤ sizeLine; decide, fun TT hTT => ?_⟩
    generalize hE : upd F7 TT _ = F8
    have sF8 : Same F7 F8 := hE ▸ same_upd hTT
    have eTT := congrFun hE.symm TT
    rw [upd_same] at eTT
    clear hE
    refine ⟨TT, rfl, ⟨_, SqT.of eTT⟩, fun D2 hD2 => ?_⟩
    have s38 : Same G3 F8 := (s36.trans sF7).trans sF8
    have E10 : G3 E1 = none := hE1
    have E20 : G3 E2 = none := sF1.free hE2
    have E30 : G3 E3 = none := ((((sF1.trans sF2).trans sF3).trans s34).free hE3)
    obtain ⟨ml, Mi, hMl⟩ : ∃ ml Mi, M = Mi ++ [ml] := ⟨M.getLast (by rw [hMe]; exact fun z => nomatch z), M.dropLast, (List.dropLast_concat_getLast _).symm⟩
    have mlM : ml ∈ M := by rw [hMl]; exact List.mem_append_right _ List.mem_cons_self
    have TTD2 : TT ≠ D2 := ne_of_none eTT hD2
    refine lc_it (walk_tup (K := K) (a := TT) (xs := [V.non, .bl true, .str "1", .ref T1])) (fun j A => Same F8 A ∧ ∃ es : List Addr, es.length = j ∧ A D2 = some (.lst (es.map V.ref)) ∧ ∀ e ∈ es, e ≠ D2 ∧ G3 e = none ∧ ∃ kvs, A e = some (.dK kvs) ∧ kvs.length ≤ 40 ∧ (∀ kv ∈ kvs, keyOk kv.1 ∧ Val1 F8 kv.2) ∧ dictB M kvs = false)
      ⟨same_upd hD2, [], rfl, upd_same, fun _ z => nomatch z⟩ (fun j A _ p => SqT.of (p.1 _ _ eTT)) ?_ ?_
    · rintro j x A0 A hj ⟨sA, es, hel, eDA, hes⟩ ⟨rfl, hx⟩
      obtain ⟨hv1, hni⟩ : Val1 F8 x ∧ ∀ i, x ≠ .int i := by
        match j, hx with
        | 0, hx => cases hx; exact ⟨.non, fun _ z => nomatch z⟩
        | 1, hx => cases hx; exact ⟨.bl _, fun _ z => nomatch z⟩
        | 2, hx => cases hx; exact ⟨.str (by decide), fun _ z => nomatch z⟩
        | 3, hx => cases hx; exact ⟨.tup (i := 1) (sF8 _ _ eT1), fun _ z => nomatch z⟩
      refine ⟨rfl, tyes ?_⟩
      have suA := sA _ _ (s38 _ _ rG3.su)
      refine ⟨_, rfl, su, kvOf M (fun _ => 0), rfl, suA, fun B1 p ts2 sB1 hp hts2 hpt ep tp => ?_⟩
      replace sB1 : Same A B1 := sB1
      have mlat : atI (M.map V.str) (-1) = some (V.str ml) := by rw [hMl, List.map_append]; exact atI_last _ _
      refine ⟨_, rfl, _, rfl, n, _, -1, .str ml, rfl, rfl, SqL.of (sB1 _ _ (sA _ _ (s38 _ _ rG3.n))), mlat, _, rfl, by show 2 ≤ sizeLine; decide, fun U hU => ?_⟩
      generalize hE : upd B1 U _ = B2
      have sB2 : Same B1 B2 := hE ▸ same_upd hU
      have eU := congrFun hE.symm U
      rw [upd_same] at eU
      clear hE
      refine ⟨by show 1 ≤ sizeLine; decide, fun L1 hL1 => ?_⟩
      generalize hE : upd B2 L1 _ = B3
      have sB3 : Same B2 B3 := hE ▸ same_upd hL1
      have eL1 := congrFun hE.symm L1
      rw [upd_same] at eL1
      clear hE
      have ep3 := sB3 _ _ (sB2 _ _ ep)
      have tl2 : ts2.length = M.length := by rw [Paired.length tp]; exact List.length_map _
      refine ⟨p, L1, _, _, rfl, rfl, ep3, eL1, ?_, fun R hR => ?_⟩
      · rw [List.length_map, tl2]
        exact Nat.le_of_lt (Nat.lt_of_le_of_lt (show M.length + 1 ≤ 30 by omega) (by decide))
      generalize hE : upd B3 R _ = B4
      have sB4 : Same B3 B4 := hE ▸ same_upd hR
      have eR := congrFun hE.symm R
      rw [upd_same] at eR
      clear hE
      have eR' : B4 R = some (.lst ((ts2 ++ [U]).map V.ref)) := by rw [eR, List.map_append]; rfl
      have tp4 : Paired (fun (t : Addr) (kv : Key × V) => SqT K B4 t [kV kv.1, kv.2]) (ts2 ++ [U]) (kvOf M (fun _ => 0) ++ [((Sum.inr ml : Key), x)]) :=
        Paired.snoc (Paired.mono (fun t kv h => SqT.of (sB4 _ _ (sB3 _ _ (sB2 _ _ h)))) tp) (SqT.of (sB4 _ _ (sB3 _ _ eU)))
      refine ⟨R, ts2 ++ [U], _, rfl, SqL.of eR', tp4, fun e he => ?_⟩
      rw [merge_put Mnd]
      have sAB : Same A B4 := ((sB1.trans sB2).trans sB3).trans sB4
      have se := same_upd (o := .dK (putK (kvOf M fun _ => 0) (Sum.inr ml : Key) x)) he
      have eDB := sAB _ _ eDA
      have eD2' : e ≠ D2 := Ne.symm (ne_of_none eDB he)
      have lenp := length_putK (kvOf M fun _ => 0) (Sum.inr ml : Key) x
      have lenk : (kvOf M fun _ => (0 : Int)).length = M.length := List.length_map _
      refine ⟨_, se _ _ eDB, by rw [List.length_map, hel]; exact Nat.lt_of_lt_of_le hj (by show 4 ≤ sizeLine; decide), fun b u hb => ?_, es ++ [e], by rw [List.length_append, hel]; rfl, by rw [upd_same, List.map_append]; rfl, fun e' he' => ?_⟩
      · rw [upd_ne (ne_of_none hb hD2)]
        exact se _ _ (sAB _ _ (sA _ _ hb))
      · rcases List.mem_append.mp he' with h | h
        · obtain ⟨q1, q2, kvs, q3, q4⟩ := hes e' h
          exact ⟨q1, q2, kvs, by rw [upd_ne q1]; exact se _ _ (sAB _ _ q3), q4⟩
        · rw [List.mem_singleton.mp h]
          refine ⟨eD2', s38.free (sA.free (sAB.free he)), _, by rw [upd_ne eD2', upd_same], by omega, put_key zM (zM _ mlM) hv1, put_bad mlM hni⟩
    rintro A ⟨sA, es, hel, eDA, hes⟩
    obtain ⟨x1', x2', x3', x4', rfl⟩ : ∃ a b c d, es = [a, b, c, d] := by
      match es, hel with
      | [a, b, c, d], _ => exact ⟨_, _, _, _, rfl⟩
    have s3A : Same G3 A := s38.trans sA
    have eOLA := sA _ _ (sF8 _ _ (sF7 _ _ eOL))
    have OL0 : G3 OL = none := (((((sF1.trans sF2).trans sF3).trans s34).trans sF5).free hOL)
    refine ⟨OL, D2, _, _, rfl, rfl, eOLA, eDA, by show 7 + 4 ≤ sizeLine; decide, ?_⟩
    have bA7 : But OL A (upd A OL (.lst ([V.non, .int 5, .ref E1, .str "ab", .ref E2, .bl true, .ref E3] ++ List.map V.ref [x1', x2', x3', x4']))) := But.upd
    have eOL7 : (upd A OL (.lst ([V.non, .int 5, .ref E1, .str "ab", .ref E2, .bl true, .ref E3] ++ List.map V.ref [x1', x2', x3', x4']))) OL = some (.lst [V.non, .int 5, .ref E1, .str "ab", .ref E2, .bl true, .ref E3, .ref x1', .ref x2', .ref x3', .ref x4']) := upd_same
    generalize upd A OL (.lst ([V.non, .int 5, .ref E1, .str "ab", .ref E2, .bl true, .ref E3] ++ List.map V.ref [x1', x2', x3', x4'])) = A7 at bA7 eOL7
    have s37 : Same G3 A7 := fun b u e => bA7 _ _ (ne_of_none e OL0) (s3A _ _ e)
    have toA7 : ∀ {b u}, b ≠ OL → A b = some u → A7 b = some u := fun h e => bA7 _ _ h e
    -- the last one
    refine ⟨_, rfl, _, rfl, su, kvOf M (fun _ => 0), rfl, s37 _ _ rG3.su, fun B1 p ts2 sB1 hp hts2 hpt ep tp => ?_⟩
    replace sB1 : Same A7 B1 := sB1
    refine ⟨_, rfl, o, _, 0, .str o0, rfl, rfl, SqL.of (sB1 _ _ (s37 _ _ rG3.o)), atI_nat (j := 0) rfl, by show 2 ≤ sizeLine; decide, fun U hU => ?_⟩
    generalize hE : upd B1 U _ = B2
    have sB2 : Same B1 B2 := hE ▸ same_upd hU
    have eU := congrFun hE.symm U
    rw [upd_same] at eU
    clear hE
    refine ⟨by show 1 ≤ sizeLine; decide, fun L1 hL1 => ?_⟩
    generalize hE : upd B2 L1 _ = B3
    have sB3 : Same B2 B3 := hE ▸ same_upd hL1
    have eL1 := congrFun hE.symm L1
    rw [upd_same] at eL1
    clear hE
    have tl2 : ts2.length = M.length := by rw [Paired.length tp]; exact List.length_map _
    refine ⟨p, L1, _, _, rfl, rfl, sB3 _ _ (sB2 _ _ ep), eL1, ?_, fun R hR => ?_⟩
    · rw [List.length_map, tl2]
      exact Nat.le_of_lt (Nat.lt_of_le_of_lt (show M.length + 1 ≤ 30 by omega) (by decide))
    generalize hE : upd B3 R _ = B4
    have sB4 : Same B3 B4 := hE ▸ same_upd hR
    have eR := congrFun hE.symm R
    rw [upd_same] at eR
    clear hE
    have eR' : B4 R = some (.lst ((ts2 ++ [U]).map V.ref)) := by rw [eR, List.map_append]; rfl
    have tp4 : Paired (fun (t : Addr) (kv : Key × V) => SqT K B4 t [kV kv.1, kv.2]) (ts2 ++ [U]) (kvOf M (fun _ => 0) ++ [((Sum.inr o0 : Key), V.int 0)]) :=
      Paired.snoc (Paired.mono (fun t kv h => SqT.of (sB4 _ _ (sB3 _ _ (sB2 _ _ h)))) tp) (SqT.of (sB4 _ _ (sB3 _ _ eU)))
    refine ⟨R, ts2 ++ [U], _, rfl, SqL.of eR', tp4, fun E4 hE4 => ?_⟩
    rw [merge_put Mnd]
    generalize hE : upd B4 E4 _ = B5
    have sB5 : Same B4 B5 := hE ▸ same_upd hE4
    have eE4 := congrFun hE.symm E4
    rw [upd_same] at eE4
    clear hE
    have s75 : Same A7 B5 := (((sB1.trans sB2).trans sB3).trans sB4).trans sB5
    have E40 : G3 E4 = none := s37.free ((((sB1.trans sB2).trans sB3).trans sB4).free hE4)
    refine ⟨by show 1 ≤ sizeLine; decide, fun L5 hL5 => ?_⟩
    generalize hE : upd B5 L5 _ = B6
    have sB6 : Same B5 B6 := hE ▸ same_upd hL5
    have eL5 := congrFun hE.symm L5
    rw [upd_same] at eL5
    clear hE
    refine ⟨OL, L5, _, _, rfl, rfl, sB6 _ _ (s75 _ _ eOL7), eL5, by show 11 + 1 ≤ sizeLine; decide, fun R5 hR5 => ?_⟩
    generalize hE : upd B6 R5 _ = B7
    have sB7 : Same B6 B7 := hE ▸ same_upd hR5
    have eR5 := congrFun hE.symm R5
    rw [upd_same] at eR5
    clear hE
    replace eR5 : B7 R5 = some (.lst [V.non, .int 5, .ref E1, .str "ab", .ref E2, .bl true, .ref E3, .ref x1', .ref x2', .ref x3', .ref x4', .ref E4]) := eR5
    have s7B : Same A7 B7 := (s75.trans sB6).trans sB7
    have s3B : Same G3 B7 := s37.trans s7B
    have lenk : (kvOf M fun _ => (0 : Int)).length = M.length := List.length_map _
    have neOL : ∀ {b u}, A b = some (.dK u) → b ≠ OL := fun e z => by rw [z, eOLA] at e; cases e
    have F6E1 : A E1 = some (.lst []) := sA _ _ (sF8 _ _ (sF7 _ _ (sF6 _ _ (sF5 _ _ (s34 _ _ (sF3 _ _ (sF2 _ _ eE1)))))))
    have F6E2 : A E2 = some (.dK []) := sA _ _ (sF8 _ _ (sF7 _ _ (sF6 _ _ (sF5 _ _ (s34 _ _ (sF3 _ _ eE2))))))
    have F6E3 : A E3 = some (.dK (kvOf M' fun _ => 0)) := sA _ _ (sF8 _ _ (sF7 _ _ (sF6 _ _ eE3)))
    have neE1 : E1 ≠ OL := fun z => by rw [z, eOLA] at F6E1; cases F6E1
    have eE1B := s7B _ _ (toA7 neE1 F6E1)
    have eE2B := s7B _ _ (toA7 (neOL F6E2) F6E2)
    have eE3B := s7B _ _ (toA7 (neOL F6E3) F6E3)
    have eOL8 := sF8 _ _ (sF7 _ _ eOL)
    have v1B : ∀ {v}, Val1 F8 v → Val1 B7 v := fun h => by
      cases h with
      | non => exact .non
      | int i => exact .int i
      | bl b => exact .bl b
      | str h => exact .str h
      | lst e => exact .lst (s7B _ _ (toA7 (fun z => by rw [z, eOL8] at e; cases e) (sA _ _ e)))
      | tup e => exact .tup (s7B _ _ (toA7 (fun z => by rw [z, eOL8] at e; cases e) (sA _ _ e)))
    have o0z : o0.length ≤ 1000 := zO o0 List.mem_cons_self
    have newD : ∀ e, e ∈ [x1', x2', x3', x4'] → OddP K G3 B7 40 (.ref e) ∧ ∀ dd kv, V.ref e = .ref dd → B7 dd = some (.dK kv) → dictB M kv = false := fun e he => by
      obtain ⟨q1, q2, kvs, q3, q4, q5, q6⟩ := hes e he
      have q7 := s7B _ _ (toA7 (neOL q3) q3)
      refine ⟨.inr ⟨e, kvs, rfl, q2, q7, q4, fun kv hkv => ⟨(q5 kv hkv).1, v1B (q5 kv hkv).2⟩⟩, fun dd kv e2 hd => ?_⟩
      cases e2
      rw [q7] at hd
      cases hd
      exact q6
    have hosB : OddS K M G3 B7 40 [V.non, .int 5, .ref E1, .str "ab", .ref E2, .bl true, .ref E3, .ref x1', .ref x2', .ref x3', .ref x4', .ref E4] := fun v hv => by
      simp only [List.mem_cons, List.not_mem_nil, or_false] at hv
      rcases hv with rfl | rfl | rfl | rfl | rfl | rfl | rfl | rfl | rfl | rfl | rfl | rfl
      · exact ⟨.inl ⟨.non, .non, rfl, .non⟩, fun _ _ e => nomatch e⟩
      · exact ⟨.inl ⟨.int, .int _, rfl, .int _⟩, fun _ _ e => nomatch e⟩
      · refine ⟨.inl ⟨.list, .lst eE1B, rfl, .lst (n := 1) eE1B eE1B rfl (by simp) fun i x y e1 e2 => by simp at e1⟩, fun dd kv e hd => ?_⟩
        cases e
        rw [eE1B] at hd
        cases hd
      · exact ⟨.inl ⟨.str, .str (by decide), rfl, .str (by decide)⟩, fun _ _ e => nomatch e⟩
      · refine ⟨.inr ⟨E2, [], rfl, E20, eE2B, by simp, fun kv h => nomatch h⟩, fun dd kv e hd => ?_⟩
        cases e
        rw [eE2B] at hd
        cases hd
        unfold dictB
        rw [decide_eq_false (show ¬ (([] : List (Key × V)).length = M.length) by simp only [List.length_nil]; omega)]
        rfl
      · exact ⟨.inl ⟨.bool, .bl _, rfl, .bl _⟩, fun _ _ e => nomatch e⟩
      · have l3 : (kvOf M' fun _ => (0 : Int)).length = M'.length := List.length_map _
        refine ⟨.inr ⟨E3, _, rfl, E30, eE3B, by omega, fun kv hkv => ?_⟩, fun dd kv e hd => ?_⟩
        · obtain ⟨y, hy, e⟩ := List.mem_map.mp hkv
          subst e
          exact ⟨zM y (by rw [hMe]; exact List.mem_cons_of_mem _ hy), .int 0⟩
        · cases e
          rw [eE3B] at hd
          cases hd
          unfold dictB
          rw [decide_eq_false (show ¬ ((kvOf M' fun _ => (0 : Int)).length = M.length) by omega)]
          rfl
      · exact newD _ (by simp)
      · exact newD _ (by simp)
      · exact newD _ (by simp)
      · exact newD _ (by simp)
      · have e4B := sB7 _ _ (sB6 _ _ eE4)
        have l4 := length_putK (kvOf M fun _ => (0 : Int)) (Sum.inr o0 : Key) (.int 0)
        refine ⟨.inr ⟨E4, _, rfl, E40, e4B, by omega, put_key zM o0z (.int 0)⟩, fun dd kv e hd => ?_⟩
        cases e
        rw [e4B] at hd
        cases hd
        exact dict_none Mnd o0M (by rw [valV_put, if_pos rfl])
    have bTB : ButT a W B7 := fun b u h1 h2 e => s3B _ _ (bG b u h1 h2 e)
    have tB := tG.ext s3B
    have spB := spG.same s3B
    generalize hvs : [V.non, .int 5, .ref E1, .str "ab", .ref E2, .bl true, .ref E3, .ref x1', .ref x2', .ref x3', .ref x4', .ref E4] = vs at eR5 hosB
    have vsl : vs.length = 12 := by rw [← hvs]; rfl
    have R50 : G3 R5 = none := s37.free (((s75.trans sB6).free hR5))
    have fresh : ∀ {d u}, G3 d = none → W d = some u → d ≠ a → ∃ ps, u = .tbl ps := fun {d u} h e ha => Classical.byContradiction fun nt => by
      have := bG d u ha (fun ps z => nt ⟨ps, z⟩) e
      rw [h] at this
      cases this
    refine ⟨R5, rfl, ⟨_, SqL.of eR5⟩, for_list (xs := vs) (fun i σ G => ∃ w7 w8, σ = [some (.ref a), some (.ref n), some (.ref o), some (.ref p1), some (.ref p2), some (.ref SL), some (.ref su), w7, w8, some (.ref bp), some (.ref OL), none, none] ∧ SpAt G a (m + 4020) ∧ ButT a W G ∧ G R5 = some (.lst vs) ∧ Tabs [(Pt, qLam)] G ∧ OddS K M G3 G (40 + i) vs)
      ⟨_, _, rfl, spB, bTB, eR5, tB, hosB⟩ (fun i σ G _ ⟨_, _, _, _, _, e, _⟩ => SqL.of e) ?_ ?_⟩
    · rintro i v σ G' hv ⟨w7, w8, rfl, spG', bG', hlG', tG', hosG⟩
      obtain ⟨hO, hno⟩ := hosG v (List.mem_of_getElem? hv)
      have hi : i < 12 := by rw [← vsl]; exact (List.getElem?_eq_some_iff.mp hv).1
      refine st_name (st_seq (st_asg (ask_two (σ := [some (.ref a), some (.ref n), some (.ref o), some (.ref p1), some (.ref p2), some (.ref SL), some (.ref su), some v, w8, some (.ref bp), some (.ref OL), none, none]) (H := G') (C := C) (CP := CP) (CS := CS) (CO := CO) (CU := CU) (Cx := CU) (fld := "sums") (word := "sums") (v := v) tG' rfl hwU ?_ ?_)))
      · intro f1 sp G8 Q' E' hS en8 tG8 hE
        have rG8 := keepR (bG'.ext en8)
        have hO8 := hO.extN en8
        obtain ⟨k, hth, hdct⟩ := hO8.th
        have hsu8 : ∀ {next : Addr → List (Key × V) → Prop}, SumT K CU M v G8 E' next := fun {next} => ⟨k, hth, fun _ => hE, fun hk => by
          obtain ⟨dd, kv, rfl, h0, hdd, _, hkv⟩ := hdct hk
          have h0G := (OddS.extN hosG en8 _ (List.mem_of_getElem? hv)).2 dd kv rfl hdd
          exact ⟨dd, kv, rfl, hdd, fun x hx => (hkv x hx).2.th, fun _ => hE, fun q => absurd (h0G.symm.trans q) (fun z => nomatch z)⟩⟩
        have nofirst : firstIn M (o0 :: O') = none := List.find?_eq_none.mpr fun x hx q => dis x (of_decide_eq_true q) hx
        have hM8 : ∀ {next : Addr → List (Key × V) → Prop}, (∀ d k, next d k) → StandT K CS M (.ref d1) G8 E' next := fun h => ⟨.dict, .dict rG8.d1, (fun z => nomatch z), fun _ => ⟨d1, k1, rfl, rG8.d1, by rw [st1.kv]; exact kv_th, fun q => absurd (st1.ok.symm.trans q) (fun z => nomatch z), fun _ => h _ _⟩⟩
        have hN8 : ∀ {next : Addr → List (Key × V) → Prop}, (∀ d k, next d k) → StandT K CS (o0 :: O') (.ref d2) G8 E' next := fun h => ⟨.dict, .dict rG8.d2, (fun z => nomatch z), fun _ => ⟨d2, k2, rfl, rG8.d2, by rw [st2.kv]; exact kv_th, fun q => absurd (st2.ok.symm.trans q) (fun z => nomatch z), fun _ => h _ _⟩⟩
        refine ⟨_, rfl, _, rfl, SL, _, 0, .ref d1, rfl, rfl, SqL.of rG8.SL, rfl, _, rfl, _, rfl, SL, _, 1, .ref d2, rfl, rfl, SqL.of rG8.SL, rfl, _, rfl, ?_⟩
        rcases hS with ⟨rfl, rfl⟩ | ⟨rfl, rfl⟩
        · exact ⟨_, _, _, _, _, rfl, .inr ⟨p1, t1, M, rfl, rG8.p1, Mnd, nmM, zM, h2M, by omega, .inr ⟨p2, t2, _, rfl, rG8.p2, Ond, nmO, zO, h2O, by omega, fun z hz => absurd (nofirst.symm.trans hz) (fun q => nomatch q), fun _ => hM8 fun _ _ => hN8 fun _ _ => hsu8⟩⟩⟩
        · exact ⟨_, _, _, _, _, rfl, .inr ⟨p1, t1, M, rfl, rG8.p1, Mnd, nmM, zM, h2M, by omega, .inr ⟨p2, t2, _, rfl, rG8.p2, Ond, nmO, zO, h2O, by omega, fun z hz => absurd (nofirst.symm.trans hz) (fun q => nomatch q), fun _ => hM8 fun _ _ => hN8 fun _ _ => hsu8⟩⟩⟩
      intro FD q1 q2 D4 hFD en4 tD4 gFD gq1 gq2
      replace en4 : ExtN G' D4 := en4
      refine st_name ?_
      have os4 : OddS K M G3 D4 (40 + i) vs := OddS.extN hosG en4
      have bT4 := bG'.ext en4
      have hl4 := en4 _ _ hlG' (fun _ z => nomatch z)
      have sp4' : SpAt D4 a (m + 4020) := by
        obtain ⟨o', ho', hok'⟩ := spG'
        refine ⟨o', en4 _ _ ho' ?_, hok'⟩
        obtain ⟨x', y', c', rfl, _⟩ := hok'
        exact fun _ z => nomatch z
      obtain ⟨k, hth2, hdct⟩ := (os4 v (List.mem_of_getElem? hv)).1.th
      refine ⟨_, rfl, v, .ty "dict", _, .type "dict", k.isDict, rfl, .ty _, hth2.ty, kit_dict k, k.isDict, rfl, ?_⟩
      cases hk : k.isDict with
      | true =>
        obtain ⟨dd, kv, rfl, h0, hdd, hkl, hkv⟩ := hdct hk
        refine iteT ?_
        refine ⟨_, rfl, dd, _, rfl, DPut.k (k := (Sum.inr "late" : Key)) hdd (Nat.lt_of_le_of_lt (Nat.le_trans hkl (show 40 + i ≤ 100 by omega)) (by decide)), ?_⟩
        have keep : ∀ c o, (∀ kvs, o ≠ .dK kvs) → D4 c = some o → (upd D4 dd (.dK (putK kv (Sum.inr "late" : Key) (.int 1)))) c = some o := fun c o n e => by
          by_cases z : c = dd
          · rw [z, hdd] at e; cases e; exact absurd rfl (n _)
          · rw [upd_ne z]; exact e
        have h5 : OddS K M G3 (upd D4 dd (.dK (putK kv (Sum.inr "late" : Key) (.int 1)))) (40 + (i + 1)) vs := os4.put hdd h0 Mnd pM
        have b5 : ButT a W (upd D4 dd (.dK (putK kv (Sum.inr "late" : Key) (.int 1)))) := fun b u h1 h2 e => by
          by_cases z : b = dd
          · subst z
            obtain ⟨ps, z⟩ := fresh h0 e h1
            exact absurd z (h2 ps)
          · rw [upd_ne z]; exact bT4 b u h1 h2 e
        have t5 : Tabs [(Pt, qLam)] (upd D4 dd (.dK (putK kv (Sum.inr "late" : Key) (.int 1)))) := tabs_keep tD4 fun b o n1 n2 e => keep b o n2 e
        generalize upd D4 dd (.dK (putK kv (Sum.inr "late" : Key) (.int 1))) = D5 at keep h5 b5 t5
        have sp5 : SpAt D5 a (m + 4020) := by
          obtain ⟨o', ho', x', y', c', rfl, r'⟩ := sp4'
          exact ⟨_, keep _ _ (by intro _ z; cases z) ho', x', y', c', rfl, r'⟩
        have hl5 := keep _ _ (by intro _ z; cases z) hl4
        have gFD5 := keep _ _ (by intro _ z; cases z) gFD
        have gq15 := keep _ _ (by intro _ z; cases z) gq1
        have gq25 := keep _ _ (by intro _ z; cases z) gq2
        refine ⟨_, rfl, _, rfl, by show 2 ≤ sizeLine; decide, fun T8 hT8 => ?_⟩
        generalize hE : upd D5 T8 _ = D6
        have sD6 : Same D5 D6 := hE ▸ same_upd hT8
        have eT8 := congrFun hE.symm T8
        rw [upd_same] at eT8
        clear hE
        refine ⟨by show 1 ≤ sizeLine; decide, fun R9 hR9 => ?_⟩
        generalize hE : upd D6 R9 _ = D7
        have sD7 : Same D6 D7 := hE ▸ same_upd hR9
        have eR9 := congrFun hE.symm R9
        rw [upd_same] at eR9
        clear hE
        refine ⟨R9, 2, _, rfl, rfl, eR9, by decide, by decide, by show 1 * 2 ≤ sizeLine; decide, fun R10 hR10 => ?_⟩
        generalize hE : upd D7 R10 _ = D8
        have sD8 : Same D7 D8 := hE ▸ same_upd hR10
        have eR10 := congrFun hE.symm R10
        rw [upd_same] at eR10
        clear hE
        have s58 := (sD6.trans sD7).trans sD8
        have sv : SameD D8 4 (V.ref dd) (V.ref dd) := (((h5 _ (List.mem_of_getElem? hv)).1.sameD (by omega) (fun h k => SameD.up h k))).mono s58
        have sd : SameD D8 6 (.ref FD) (.ref R10) := rows_same (qs := [q1, q2]) (s58 _ _ gFD5) eR10 (fun q hq => by
          simp only [List.mem_cons, List.not_mem_nil, or_false] at hq
          rcases hq with rfl | rfl <;> exact s58 _ _ (by assumption)) (sD8 _ _ (sD7 _ _ eT8)) (by decide) (by simp) sv
        refine ⟨_, _, rfl, sd, fun D9 s9 => ⟨true, rfl, iteF ?_⟩⟩
        have s59 := s58.trans s9
        exact ⟨_, _, rfl, sp5.same s59, b5.ext (ExtN.of s59), s59 _ _ hl5, (t5.ext s59), OddS.extN h5 (ExtN.of s59)⟩
      | false =>
        refine iteF ?_
        have h5 : OddS K M G3 D4 (40 + (i + 1)) vs := fun v' hv' => ⟨((os4 v' hv').1.wide), (os4 v' hv').2⟩
        have gFD5 := gFD
        have hl5 := hl4
        have sp5 := sp4'
        have b5 := bT4
        have t5 := tD4
        generalize D4 = D5 at *
        refine ⟨_, rfl, _, rfl, by show 2 ≤ sizeLine; decide, fun T8 hT8 => ?_⟩
        generalize hE : upd D5 T8 _ = D6
        have sD6 : Same D5 D6 := hE ▸ same_upd hT8
        have eT8 := congrFun hE.symm T8
        rw [upd_same] at eT8
        clear hE
        refine ⟨by show 1 ≤ sizeLine; decide, fun R9 hR9 => ?_⟩
        generalize hE : upd D6 R9 _ = D7
        have sD7 : Same D6 D7 := hE ▸ same_upd hR9
        have eR9 := congrFun hE.symm R9
        rw [upd_same] at eR9
        clear hE
        refine ⟨R9, 2, _, rfl, rfl, eR9, by decide, by decide, by show 1 * 2 ≤ sizeLine; decide, fun R10 hR10 => ?_⟩
        generalize hE : upd D7 R10 _ = D8
        have sD8 : Same D7 D8 := hE ▸ same_upd hR10
        have eR10 := congrFun hE.symm R10
        rw [upd_same] at eR10
        clear hE
        have s58 := (sD6.trans sD7).trans sD8
        have sv : SameD D8 4 v v := (((h5 v (List.mem_of_getElem? hv)).1.sameD (by omega) (fun h k => SameD.up h k))).mono s58
        have sd : SameD D8 6 (.ref FD) (.ref R10) := rows_same (qs := [q1, q2]) (s58 _ _ gFD5) eR10 (fun q hq => by
          simp only [List.mem_cons, List.not_mem_nil, or_false] at hq
          rcases hq with rfl | rfl <;> exact s58 _ _ (by assumption)) (sD8 _ _ (sD7 _ _ eT8)) (by decide) (by simp) sv
        refine ⟨_, _, rfl, sd, fun D9 s9 => ⟨true, rfl, iteF ?_⟩⟩
        have s59 := s58.trans s9
        exact ⟨_, _, rfl, sp5.same s59, b5.ext (ExtN.of s59), s59 _ _ hl5, (t5.ext s59), OddS.extN h5 (ExtN.of s59)⟩
    · rintro σ G ⟨w7, w8, rfl, spE, bE, _, tE, _⟩
      obtain ⟨o', ho', hok'⟩ := spE
      exact q G ⟨o', ho', hok'.mono (by omega)⟩ (bT9.trans bE) tE

end
end RK

/-! the end of a law whose promise speaks of calls from where no repr runs (FnG), with tables of code objects; where sys.modules stands is told, too -/
namespace LamX
open PySem PySem.Spec PyProof.Rows L2
/-- what is tracked at first: the tables, and the script where it is not the module's own -/
def hpEnd (K : PySem.W.Frag) (sc : Addr) (items : List Value) (ns : List Int) (ts : List Addr) : Hp := fun b =>
  if b ∈ ts then some (.tbl #[]) else if b = sc ∧ (K.lookup sc).isNone = true then some (.frz { cls := .type "list", data := .seq items.toArray } (.lst (ns.map V.int))) else none
theorem hpEnd_tab {K : PySem.W.Frag} {sc b : Addr} {items : List Value} {ns : List Int} {ts : List Addr} (h : b ∈ ts) : hpEnd K sc items ns ts b = some (.tbl #[]) := if_pos h
theorem hpEnd_sc {K : PySem.W.Frag} {sc : Addr} {items : List Value} {ns : List Int} {ts : List Addr} (h : sc ∉ ts) (e : K.lookup sc = none) : hpEnd K sc items ns ts sc = some (.frz { cls := .type "list", data := .seq items.toArray } (.lst (ns.map V.int))) :=
  (if_neg h).trans (if_pos ⟨rfl, by rw [e]; rfl⟩)
theorem hpEnd_of {K : PySem.W.Frag} {sc b : Addr} {items : List Value} {ns : List Int} {ts : List Addr} {o : HO} (h : hpEnd K sc items ns ts b = some o) :
    (b ∈ ts ∧ o = .tbl #[]) ∨ (b ∉ ts ∧ b = sc ∧ K.lookup sc = none ∧ o = .frz { cls := .type "list", data := .seq items.toArray } (.lst (ns.map V.int))) := by
  by_cases hb : b ∈ ts
  · rw [hpEnd_tab hb] at h
    exact .inl ⟨hb, (Option.some.inj h).symm⟩
  · have h1 := (if_neg hb).symm.trans h
    by_cases hs : b = sc ∧ (K.lookup sc).isNone = true
    · have h2 := (if_pos hs).symm.trans h1
      exact .inr ⟨hb, hs.1, Option.isNone_iff_eq_none.mp hs.2, (Option.some.inj h2).symm⟩
    · have h2 := (if_neg hs).symm.trans h1
      cases h2
theorem call_guarded {P : Program} {w : World} {K : PySem.W.Frag} {mg mb : Str → Option Value} {CX : CXT} {k : Nat} {fa sc : Addr} {tabs : List (Addr × Addr)} {fd : FuncData} {x : Str} {sp : Sp} {u : Shared} {items : List Value} {ns : List Int}
    (kin : K.In u.heap) (nsG : u.heap.Ns mainGlobals mg) (nsB : u.heap.Ns builtinsNs mb) (bb : ∀ y : Str, y ≠ "__name__" → mb y = bootBuiltins y) (nolim : u.heap.NoLimit) (nogen : u.gens = #[])
    (tab : ∀ q ∈ tabs, u.heap.get? q.2 = some { cls := .none, data := .fields #[] }) (tabK : ∀ q ∈ tabs, K.lookup q.2 = none) (code : ∀ q ∈ tabs, PySem.W.CodeHd u.heap q.1 q.2)
    (main : ∃ (bm : Addr) (ob : Obj), mg "__builtins__" = some (.ref bm) ∧ bm ≠ builtinsNs ∧ u.heap.get? bm = some ob ∧ ob.cls = .type "module" ∧ ob.dict = some builtinsNs ∧ ob.data = .plain)
    (hsc : u.heap.get? sc = some { cls := .type "list", data := .seq items.toArray }) (hints : IntsAre items ns) (small : ns.length ≤ sizeLine) (room : Room k callerA) (quiet : callerA.guards = some [])
    (mods : ∃ mm, u.heap.Ns sysModules mm)
    (F : ∀ base : Heap, K.In base → base.Ns mainGlobals mg → (∃ mm, base.Ns sysModules mm) → (∀ q ∈ tabs, TabB base mg q.1 q.2) → FnG P w K mg base CX k fa fd [x] sp) (binds : ∀ (s : Shared) (v : Value), BindsTo s fd ⟨[v], []⟩ [(x, v)])
    (promise : ∀ H : Hp, (∀ q ∈ tabs, H q.2 = some (.tbl #[])) → SqL K H sc (ns.map V.int) → sp [.ref sc] H (fun v _ => v = .bl true) fun _ _ _ => False)
    (never : ∀ H e s', CX [] H u (fun _ _ _ => False) e s' → False) :
    codeAny (model P w) callerA (.call (.ref fa) ⟨[.ref sc], []⟩) (fun r s' => r = .ok (.ret (.bool true)) ∧ OldK u.heap s'.heap ∧ s'.os = u.os ∧ AllBare s'.gens) u := by
  have rel := vals_ints hints
  have count := hints.length
  have memT : ∀ q ∈ tabs, q.2 ∈ tabs.map (·.2) := fun q hq => List.mem_map_of_mem hq
  have atT : ∀ b : Addr, b ∈ tabs.map (·.2) → u.heap.get? b = some { cls := .none, data := .fields #[] } ∧ K.lookup b = none := fun b hb => by
    obtain ⟨q, hq, rfl⟩ := List.mem_map.mp hb
    exact ⟨tab q hq, tabK q hq⟩
  have scT : sc ∉ tabs.map (·.2) := fun z => by
    have q := (atT sc z).1
    rw [hsc] at q
    exact absurd (congrArg Obj.data (Option.some.inj q)) (fun y => by cases (show Data.seq items.toArray _ = Data.fields #[] from y))
  generalize hH : hpEnd K sc items ns (tabs.map (·.2)) = H
  have tk : ∀ q ∈ tabs, H q.2 = some (.tbl #[]) := fun q hq => by rw [← hH]; exact hpEnd_tab (memT q hq)
  have ofH : ∀ {b : Addr} {o : HO}, H b = some o → (b ∈ tabs.map (·.2) ∧ o = .tbl #[]) ∨ (b ∉ tabs.map (·.2) ∧ b = sc ∧ K.lookup sc = none ∧ o = .frz { cls := .type "list", data := .seq items.toArray } (.lst (ns.map V.int))) := fun {b o} e => by
    rw [← hH] at e
    exact hpEnd_of e
  have hS : SqL K H sc (ns.map V.int) := by
    cases hk : K.lookup sc with
    | none => exact .inl (.inr ⟨_, by rw [← hH]; exact hpEnd_sc scT hk⟩)
    | some o =>
      have e := kin sc o hk
      rw [hsc] at e
      cases e
      exact .inr ⟨_, items.toArray, _, hk, rfl, rfl, rfl, by rw [List.size_toArray, count]; exact small, by simpa using rel⟩
  have hok : HOk P w H u.heap := fun b o z => by
    rcases ofH z with ⟨hb, rfl⟩ | ⟨_, rfl, _, rfl⟩
    · exact (atT b hb).1
    · exact ⟨hsc, by rw [List.length_map]; exact small, items, _, rel, hsc⟩
  -- what is untracked
  have free : ∀ {b : Addr} {o : Obj}, u.heap.get? b = some o → (∀ vs n, o.data ≠ .seq vs n) → o.data ≠ .fields #[] → H b = none := fun {b o} e h1 h2 => by
    cases q : H b with
    | none => rfl
    | some ho =>
      rcases ofH q with ⟨hb, _⟩ | ⟨_, hb, _, _⟩
      · rw [(atT b hb).1] at e
        cases e
        exact (h2 rfl).elim
      · rw [hb, hsc] at e
        cases e
        exact (h1 _ _ rfl).elim
  have kept : ∀ {b : Addr} {o : Obj}, u.heap.get? b = some o → H b = none → (hidT u.heap H).get? b = some o := fun e n => hidT_get e n
  have isD : ∀ {b : Addr} {o : Obj} {es : Array DictEntry} {ep : Nat}, u.heap.get? b = some o → o.data = .dict es ep → H b = none := fun {b o es ep} e d =>
    free e (fun vs n z => by rw [d] at z; cases z) fun z => by rw [d] at z; cases z
  have ns2 : ∀ {b : Addr} {m : Str → Option Value}, u.heap.Ns b m → (hidT u.heap H).Ns b m := fun {b m} ⟨o, es, ep, e, d, r⟩ => ⟨o, es, ep, kept e (isD e d), d, r⟩
  have kin2 : K.In (hidT u.heap H) := fun b o e => kept (kin b o e) (by
    cases q : H b with
    | none => rfl
    | some ho =>
      rcases ofH q with ⟨hb, _⟩ | ⟨_, hb, hk, _⟩
      · rw [(atT b hb).2] at e; cases e
      · rw [hb, hk] at e; cases e)
  have mod2 : L2.Mod K mg (hidT u.heap H) := ⟨kin2, ns2 nsG, ⟨mb, ns2 nsB, bb⟩, let ⟨mc, m1, m2⟩ := nolim; ⟨mc, ns2 m1, m2⟩⟩
  have tabs2 : ∀ q ∈ tabs, TabB (hidT u.heap H) mg q.1 q.2 := fun q hq => by
    have at2 := tab q hq
    refine ⟨?_, ?_, fun z => ?_⟩
    · obtain ⟨o, us, file, tf, flags, tg, inF, text, tt, e1, r1, r2, r3, r⟩ := code q hq
      exact ⟨o, us, file, tf, flags, tg, inF, text, tt, kept e1 (free e1 (fun vs n z => by rw [r2] at z; cases z) fun z => by rw [r2] at z; cases z; simp at r3), r1, r2, r3, r⟩
    · obtain ⟨bm, ob, b1, b2, b3, b4, b5, b6⟩ := main
      refine ⟨bm, ob, b1, b2, fun z => ?_, fun z => ?_, kept b3 (free b3 (fun vs n z => by rw [b6] at z; cases z) fun z => by rw [b6] at z; cases z), b4, b5, b6⟩
      · obtain ⟨o, es, ep, e, d, _⟩ := nsG
        rw [z, e] at b3; cases b3
        rw [d] at b6; cases b6
      · rw [z, at2] at b3; cases b3; cases b6
    · obtain ⟨o, es, ep, e, d, _⟩ := nsG
      rw [z, at2] at e; cases e; cases d
  have env : Env0 P w K mg (hidT u.heap H) callerA [] u H := ⟨rfl, mod2, fun b o e => of_hidT e, Nat.le_of_eq (hidT_size _ _), trivial, fun b hb => absurd (show b ∈ ([] : List Addr) from hb) List.not_mem_nil, hok, .of_eq nogen⟩
  refine codeAny_mono ((F _ kin2 (ns2 nsG) (let ⟨mm, h⟩ := mods; ⟨mm, ns2 h⟩) tabs2).run callerA [] u H ⟨[.ref sc], []⟩ [.ref sc] [.ref sc] _ _ room quiet env (binds u (.ref sc)) (.cons rfl .nil) (promise H tk hS)) fun r s' h => ?_
  match r, h with
  | .error e, h => exact (never H e s' h).elim
  | .ok .next, h => exact False.elim h
  | .ok .brk, h => exact False.elim h
  | .ok .cont, h => exact False.elim h
  | .ok (.ret z), ⟨v, H', os, bare, un, hok', r', q⟩ =>
    have q' : v = .bl true := q
    subst q'
    obtain rfl : z = Value.bool true := r'
    have stays : ∀ b o, b ∉ tabs.map (·.2) → u.heap.get? b = some o → s'.heap.get? b = some o := fun b o nb e => by
      cases q : H b with
      | none => exact un.keep b o e q (fun z => absurd (show b ∈ ([] : List Addr) from z) List.not_mem_nil) (by simp)
      | some ho =>
        rcases ofH q with ⟨hb, _⟩ | ⟨_, rfl, _, rfl⟩
        · exact absurd hb nb
        · rw [hsc] at e
          cases e
          exact (hok' b _ (un.frzs b _ _ q)).1
    have grown : ∀ b, b ∈ tabs.map (·.2) → ∃ more : Array Value, s'.heap.get? b = some { cls := .none, data := .fields more } := fun b hb => by
      obtain ⟨more, z⟩ := un.tbls b #[] (by rw [← hH]; exact hpEnd_tab hb)
      exact ⟨_, hok' b _ z⟩
    refine ⟨rfl, ⟨fun b o e => ?_, fun b o e => ?_⟩, os, bare⟩
    · by_cases hb : b ∈ tabs.map (·.2)
      · obtain ⟨more, hm⟩ := grown b hb
        obtain ⟨q, hq, rfl⟩ := List.mem_map.mp hb
        rw [tab q hq] at e; cases e
        exact .inr (.inl ⟨((code q hq).tab (tab q hq)).isCodeTable, rfl, #[], more, rfl, by rw [Array.empty_append]; exact hm⟩)
      · exact .inl (stays b o hb e)
    · by_cases hb : b ∈ tabs.map (·.2)
      · obtain ⟨more, hm⟩ := grown b hb
        exact ⟨_, hm⟩
      · exact ⟨o, stays b o hb e⟩
/-- what the law's promise gives at the heap behind the top -/
def LawAtG (l : PySem.W.OpenLaw) (w : World) (K : PySem.W.Frag) (CX : CXT) (k n : Nat) (x : Str) (mg : Str → Option Value) (fa : Addr) (h : Heap) : Prop :=
  ∃ (fd : FuncData) (tabs : List (Addr × Addr)) (sp : Sp), (∀ q ∈ tabs, h.get? q.2 = some { cls := .none, data := .fields #[] }) ∧ (∀ q ∈ tabs, K.lookup q.2 = none) ∧ (∀ q ∈ tabs, PySem.W.CodeHd h q.1 q.2) ∧ (∀ (s : Shared) (v : Value), BindsTo s fd ⟨[v], []⟩ [(x, v)]) ∧
    (∀ (H : Hp) (a : Addr) (ns : List Int), ns.length ≤ n → (∀ z ∈ ns, Builtin.Int.intBits z ≤ 1048576) → (∀ q ∈ tabs, H q.2 = some (.tbl #[])) → SqL K H a (ns.map V.int) → sp [.ref a] H (fun v _ => v = .bl true) fun _ _ _ => False) ∧
    ∀ base : Heap, K.In base → base.Ns mainGlobals mg → (∃ mm, base.Ns sysModules mm) → (∀ q ∈ tabs, TabB base mg q.1 q.2) → FnG l.prog w K mg base CX k fa fd [x] sp
theorem walk_guarded {l : PySem.W.OpenLaw} {n k : Nat} {q : Program} {loose : List Str} {XP : (Str → Option Value) → Heap → Prop} {YP : World → Heap → Prop} {d : DefRec} {K : Params → PySem.W.Frag} {CX : World → CXT} {x : Str}
    (imp : importsNone q = true) (most : l.most = some n) (fits : n ≤ sizeLine) (plain : d.params.defaults = []) (room : Room k callerA) (quiet : callerA.guards = some []) (kin : ∀ (w : World) (h : Heap), YP w h → (K w.params).In h)
    (F : ∀ (w : World) (mg : Str → Option Value) (fa : Addr) (h : Heap), YP w h → (K w.params).In h → h.Ns mainGlobals mg → mg d.name = some (.ref fa) →
      (∀ (y : Str) (c Pt : Addr), ((recsOf q).any fun e => e.name == y) = true → PySem.W.tabIn (K w.params) y = some (c, Pt) → PySem.W.CodeHd h c Pt ∧ h.get? Pt = some { cls := .none, data := .fields #[] }) → LawAtG l w (K w.params) (CX w) k n x mg fa h)
    (never : ∀ (w : World) (H : Hp) (s : Shared) (e : Value) (s' : Shared), CX w [] H s (fun _ _ _ => False) e s' → False) :
    PySem.W.WalkO q loose XP YP l.row.toRowW d [] (fun f vs => PySem.call f vs) := by
  refine Att.attach_callB most plain fun w s₀ s₁ mg mb fa o pm cd doc a vs ns G Y ho hd hcd hmg hobj hints hlen hbits hg => ?_
  have KX := kin w _ Y
  have tb : ∀ (y : Str) (c Pt : Addr), ((recsOf q).any fun e => e.name == y) = true → PySem.W.tabIn (K w.params) y = some (c, Pt) → PySem.W.CodeHd s₁.heap c Pt ∧ s₁.heap.get? Pt = some { cls := .none, data := .fields #[] } := fun y c Pt hy ht => by
    cases hf : (recsOf q).find? (fun e => e.name == y) with
    | none =>
      obtain ⟨e, he, h2⟩ := List.any_eq_true.mp hy
      exact absurd h2 (List.find?_eq_none.mp hf e he)
    | some dd => exact PySem.W.tab_of G.T KX hf ht
  obtain ⟨fd, tabs, sp, h1, h2, h3, h4, h5, h6⟩ := F w mg fa _ Y KX G.T.g hmg tb
  exact call_guarded KX G.T.g G.T.b G.T.builtins G.T.nolimit hg h1 h2 h3 G.T.bmain hobj hints (Nat.le_trans hlen fits) room quiet (let ⟨mm, h, _⟩ := (G.T.seer imp).mods; ⟨mm, h⟩) h6 h4 (fun H t s => h5 H a ns hlen hbits t s) fun H e s' => never w H s₁ e s'
end LamX

namespace RK
open PySem L2 LamX
/-! ### the law -/
def spLaw (K : PySem.W.Frag) (Pt : Addr) : Sp := fun vs H Q _ => ∃ (a : Addr) (ns : List Int), vs = [.ref a] ∧ SqL K H a (ns.map V.int) ∧ ns.length ≤ 63 ∧ Tabs [(Pt, qLam)] H ∧ ∀ H', Q (.bl true) H'
theorem SqL.extN {K : PySem.W.Frag} {H H' : Hp} {a : Addr} {xs : List V} (h : SqL K H a xs) (s : ExtN H H') : SqL K H' a xs := by
  rcases h with (h | ⟨o, h⟩) | h
  · exact .inl (.inl (s _ _ h (fun _ z => nomatch z)))
  · exact .inl (.inr ⟨o, s _ _ h (fun _ z => nomatch z)⟩)
  · exact .inr h
theorem five_good2 {K : PySem.W.Frag} {C CP CC CS CU p1 t1 p2 t2 d e s : Addr} {M O ks1 ks2 ks3 : List Str} {gM gO gT : Str → Int} {Good : List Str → List Str → Addr → List (Key × V) → Addr → List (Key × V) → List (Key × V) → Hp → VK → Prop} {H : Hp} {Q : VK} {E : XK}
    (hp1 : PathAt C H p1 t1 M) (hp2 : PathAt C H p2 t2 O) (nd : (M ++ O).Nodup) (nm : Nm (M ++ O)) (zl : ∀ z ∈ M ++ O, z.length ≤ 1000) (h2M : 2 ≤ M.length) (h2O : 2 ≤ O.length) (hl : (M ++ O).length ≤ 20)
    (hd : H d = some (.dK (kvOf ks1 gM))) (he : H e = some (.dK (kvOf ks2 gO))) (hs : H s = some (.dK (kvOf ks3 gT))) (pm1 : ks1.Perm M) (pm2 : ks2.Perm O) (pm3 : ks3.Perm M) (sM : Sta M M (kvOf M gM)) (sO : Sta O O (kvOf O gO))
    (good : Good M O d (kvOf ks1 gM) e (kvOf ks2 gO) (kvOf ks3 gT) H Q) : sp5G K C CP CC CS CU Good [.ref p1, .ref d, .ref p2, .ref e, .ref s] H Q E := by
  have Mnd := (List.nodup_append.mp nd).1
  have Ond := (List.nodup_append.mp nd).2.1
  have dis : ∀ x ∈ O, x ∉ M := fun x hx q => (List.nodup_append.mp nd).2.2 x q x hx rfl
  have hZl : (M ++ O).length = M.length + O.length := List.length_append
  have no : firstIn M O = none := List.find?_eq_none.mpr fun x hx q => dis x (of_decide_eq_true q) hx
  refine ⟨_, _, _, _, _, rfl, .inr ⟨p1, t1, M, rfl, hp1, Mnd, fun z hz => nm z (List.mem_append_left _ hz), fun z hz => zl z (List.mem_append_left _ hz), h2M, by omega, .inr ⟨p2, t2, O, rfl, hp2, Ond, fun z hz => nm z (List.mem_append_right _ hz), fun z hz => zl z (List.mem_append_right _ hz), h2O, by omega, fun z hz => absurd (no.symm.trans hz) (fun q => nomatch q), fun _ => ?_⟩⟩⟩
  refine ⟨.dict, .dict hd, (fun q => nomatch q), fun _ => ⟨d, _, rfl, hd, kv_th, fun q => absurd ((hand_stand sM Mnd pm1).symm.trans q) (fun q => nomatch q), fun _ => ?_⟩⟩
  refine ⟨.dict, .dict he, (fun q => nomatch q), fun _ => ⟨e, _, rfl, he, kv_th, fun q => absurd ((hand_stand sO Ond pm2).symm.trans q) (fun q => nomatch q), fun _ => ?_⟩⟩
  exact ⟨.dict, .dict hs, (fun q => nomatch q), fun _ => ⟨s, _, rfl, hs, kv_th, fun q => absurd ((kv_dict pm3).symm.trans q) (fun q => nomatch q), fun _ => good⟩⟩
def exM : List Str := ["a", "b", "c"]
def exO : List Str := ["x", "y"]
def exG (x y z : Int) (s : Str) : Int := if s = "a" then x else if s = "b" then y else z
def exS (s : Str) : Int := if s = "x" then 0 else 1
theorem exM_kv (x y z : Int) : kvOf exM (exG x y z) = [((Sum.inr "a" : Key), V.int x), ((Sum.inr "b" : Key), V.int y), ((Sum.inr "c" : Key), V.int z)] := rfl
theorem exO_kv : kvOf exO exS = [((Sum.inr "x" : Key), V.int 0), ((Sum.inr "y" : Key), V.int 1)] := rfl
theorem exM_sta : Sta exM exM (kvOf exM (exG 2 1 0)) := Sta.mk' (List.Perm.refl _) (by decide +kernel) (by decide +kernel)
theorem exO_sta : Sta exO exO (kvOf exO exS) := Sta.mk' (List.Perm.refl _) (by decide +kernel) (by decide +kernel)
theorem ex_bar : joinBar exM (kvOf exM (exG 2 1 0)) exO.length (kvOf exM (exG 3 4 4)) = some (("a" : Str), ("b" : Str)) := by decide +kernel
theorem ex_none : joinBar exM (kvOf exM (exG 2 1 0)) exO.length (kvOf exM (exG 5 4 4)) = none := by decide +kernel
theorem disp_heap {G : Hp} {p : Addr} {l l2 : List (Key × V)} (e : mergeK [] l = l2) : upd (upd G p (.dK [])) p (.dK (mergeK [] l)) = upd G p (.dK l2) := by
  rw [e]
  funext b
  by_cases h : b = p
  · subst h
    rw [upd_same, upd_same]
  · rw [upd_ne h, upd_ne h, upd_ne h]
theorem exO_merge : mergeK [] [((Sum.inr "x" : Key), V.int 0), ((Sum.inr "y" : Key), V.int 1)] = kvOf exO exS := by
  rw [← exO_kv]
  exact merge_self (by rw [keys_kv]; exact nodup_keys (by decide +kernel))
theorem exM_merge (x y z : Int) : mergeK [] [((Sum.inr "a" : Key), V.int x), ((Sum.inr "b" : Key), V.int y), ((Sum.inr "c" : Key), V.int z)] = kvOf exM (exG x y z) := by
  rw [← exM_kv]
  exact merge_self (by rw [keys_kv]; exact nodup_keys (by decide +kernel))
section
variable {P : Program} {w : World} {K : PySem.W.Frag} {mg : Str → Option Value} {base : Heap} {C CB fB CP CO CS CU Pt : Addr}
theorem scLaw : FnScope ["script", "turn", "spring", "names", "at", "mine", "theirs", "first", "second", "some", "whole", "start", "stand", "sums"] ["script"] (defScope sLaw) := ⟨rfl, rfl, rfl, by decide +kernel, rfl, by decide +kernel, by decide +kernel⟩
theorem ok_law {f fI fE fJ fZ fX fY fR fG fD fN fS : Addr} {fd fdI fdE fdJ fdZ fdX fdY fdR fdG fdD fdN fdS : FuncData} (F : Fun K "law" "law" sLaw f fd) (B : B0 K mg) (T : PT0 P K mg C CB fB) (TE : PT1 K C fE)
    (GI : FnOk P w K mg base (L2.CX P w) 2 fI fdI ["self", "walkers"] (spInit K C CB)) (bI : Binds K fdI ["self", "walkers"] []) (M : Mk K C fI)
    (GE : FnOk P w K mg base CX0 1 fE fdE ["self", "other"] (spEq K C)) (bE : Binds K fdE ["self", "other"] [])
    (GJ : FnOk P w K mg base (L2.CX P w) 6 fJ fdJ ["first", "stand", "second", "other_stand", "sums"] (sp5G K C CP CO CS CU GoodK)) (bJ : Binds K fdJ ["first", "stand", "second", "other_stand", "sums"] []) (gJ : mg "joined" = some (.ref fJ)) (kJ9 : PySem.W.keepIn K (.ref fJ) = true)
    (GZ : FnOk P w K mg base (L2.CX P w) 6 fZ fdZ ["first", "stand", "second", "other_stand", "sums"] (sp5G K C CP CO CS CU GoodC)) (bZ : Binds K fdZ ["first", "stand", "second", "other_stand", "sums"] []) (gZ : mg "joint_clash" = some (.ref fZ)) (kZ9 : PySem.W.keepIn K (.ref fZ) = true)
    (GX : FnG P w K mg base CX0 8 fX fdX ["spring", "first", "second", "whole", "mine", "theirs"] (spBack C)) (bX : Binds K fdX ["spring", "first", "second", "whole", "mine", "theirs"] []) (gX : mg "_law_back_right" = some (.ref fX)) (kX9 : PySem.W.keepIn K (.ref fX) = true)
    (GY : FnOk P w K mg base CX0 6 fY fdY ["spring", "names"] spWAny) (bY : Binds K fdY ["spring", "names"] []) (gY : mg "_law_w_any" = some (.ref fY)) (kY9 : PySem.W.keepIn K (.ref fY) = true)
    (GR : FnOk P w K mg base CX0 10 fR fdR ["spring", "mine", "theirs"] (spRefused C Pt)) (bR : Binds K fdR ["spring", "mine", "theirs"] []) (gR : mg "_law_refused_right" = some (.ref fR)) (kR9 : PySem.W.keepIn K (.ref fR) = true)
    (GG : FnOk P w K mg base (L2.CX P w) 4 fG fdG ["first", "second"] (spBothG K C CP CO (GoodJ C))) (bG : Binds K fdG ["first", "second"] []) (gG : mg "joint_path" = some (.ref fG)) (kG9 : PySem.W.keepIn K (.ref fG) = true)
    (GD : FnOk P w K mg base CX0 1 fD fdD ["spring", "many"] spDraw) (bD : Binds K fdD ["spring", "many"] []) (gD : mg "_law_draw" = some (.ref fD)) (kD9 : PySem.W.keepIn K (.ref fD) = true)
    (GN : FnOk P w K mg base CX0 3 fN fdN ["spring", "least", "most"] spNames) (bN : Binds K fdN ["spring", "least", "most"] []) (gN : mg "_law_w_names" = some (.ref fN)) (kN9 : PySem.W.keepIn K (.ref fN) = true)
    (GS : FnOk P w K mg base CX0 1 fS fdS ["script", "turn"] (spSpring K)) (bS : Binds K fdS ["script", "turn"] []) (gS : mg "_law_spring" = some (.ref fS)) (kS9 : PySem.W.keepIn K (.ref fS) = true) :
    FnG P w K mg base CX0 11 f fd ["script"] (spLaw K Pt) := by
  refine F.okG scLaw (fun vs H Q E h => ?_) (fun cdv A outer s H vs Q E hr quiet h => ?_)
  · obtain ⟨sc, ns, rfl, _⟩ := h
    rfl
  · obtain ⟨sc, ns, rfl, hsc, hns, hT, k⟩ := h
    have hu := hu_of hr
    have hr1 : Room 1 _ := hr.mono (by decide)
    have hr3 : Room 3 _ := hr.mono (by decide)
    have hr4 : Room 4 _ := hr.mono (by decide)
    have hr6 : Room 6 _ := hr.mono (by decide)
    have hr8 : Room 8 _ := hr.mono (by decide)
    have hr10 : Room 10 _ := hr.mono (by decide)
    refine ⟨_, pss_cons (ps_for PassesOwn.never rfl (pi_range1 (by rfl) B.range (pa_cons pe_int pa_nil)) (pg_name (i := 1) scLaw.nd rfl (Or.inl rfl))
        (pss_cons (ps_set (i := 2) scLaw.nd rfl (Or.inl rfl) (pe_call GS hr1 (by rfl) gS kS9 bS .nil pass0 (pa_cons (pv 0) (pa_cons (pv 1) pa_nil))))
      (pss_cons (ps_set (i := 3) scLaw.nd rfl (Or.inl rfl) (pe_call GN hr3 (by rfl) gN kN9 bN .nil pass0 (pa_cons (pv 2) (pa_cons pe_int (pa_cons pe_int pa_nil)))))
      (pss_cons (ps_set (i := 4) scLaw.nd rfl (Or.inl rfl) (pe_op op_add pe_int (pe_call GD hr1 (by rfl) gD kD9 bD .nil pass0 (pa_cons (pv 2) (pa_cons (pe_op op_sub (pe_callB call_len_seq (by rfl) B.len PySem.boot_len (pa_cons (pv 3) pa_nil)) pe_int) pa_nil)))))
      (pss_cons (ps_par (i := 5) (j := 6) rfl scLaw.nd rfl rfl (by decide) rfl rfl (pa_cons (pe_slice sl_list (pv 3) po_none (po_some (pv 4))) (pa_cons (pe_slice sl_list (pv 3) (po_some (pv 4)) po_none) pa_nil)) (by rfl))
      (pss_cons (ps_par (i := 7) (j := 8) rfl scLaw.nd rfl rfl (by decide) rfl rfl (pa_cons (pe_make M GI hr3 (by rfl) T.mgC bI .nil passL (pa_cons (pv 5) pa_nil)) (pa_cons (pe_make M GI hr3 (by rfl) T.mgC bI .nil passL (pa_cons (pv 6) pa_nil)) pa_nil)) (by rfl))
      (pss_cons (ps_if (PW.pt (pw_or (pt_not (pt_cmpR (op_eqO (C := C) GE hr1 bE pass0 TE.eqF TE.eqI) (pe_call GG hr4 (by rfl) gG kG9 bG .nil passL (pa_cons (pv 7) (pa_cons (pv 8) pa_nil))) (pe_make M GI hr3 (by rfl) T.mgC bI .nil passL (pa_cons (pv 3) pa_nil)) (nomark _))) (pw_or1 (pt_not (pt_val (pe_call GR hr10 (by rfl) gR kR9 bR .nil pass0 (pa_cons (pv 2) (pa_cons (pv 5) (pa_cons (pv 6) pa_nil))))))))) (pss_one (ps_ret pe_bl)) (pss_nil))
      (pss_cons (ps_set (i := 9) scLaw.nd rfl (Or.inl rfl) (pe_lst (pa_cons (pe_call GY hr6 (by rfl) gY kY9 bY .nil pass0 (pa_cons (pv 2) (pa_cons (pv 3) pa_nil))) (pa_cons (pe_call GY hr6 (by rfl) gY kY9 bY .nil pass0 (pa_cons (pv 2) (pa_cons (pv 3) pa_nil))) pa_nil))))
      (pss_one (ps_for PassesOwn.never rfl (pi_list (pe_op op_cat (pv 9) (pe_slice sl_list (pv 9) po_none (po_some pe_int)))) (pg_name (i := 10) scLaw.nd rfl (Or.inl rfl))
        (pss_one (ps_if (pt_not (pt_val (pe_callG GX hr8 quiet (by rfl) gX kX9 bX .nil pass0 (pa_cons (pv 2) (pa_cons (pv 7) (pa_cons (pv 8) (pa_cons (pv 10) (pa_cons (pv 5) (pa_cons (pv 6) pa_nil))))))))) (pss_one (ps_ret pe_bl)) (pss_nil)))))))))))))
      (pss_cons (ps_par3 (i := 7) (j := 8) (l := 11) rfl scLaw.nd rfl rfl rfl (by decide) (by decide) (by decide) rfl rfl rfl (pa_cons (pe_make M GI hr3 (by rfl) T.mgC bI .nil passL (pa_cons (pe_lst (pa_cons pe_str (pa_cons pe_str (pa_cons pe_str pa_nil)))) pa_nil)) (pa_cons (pe_make M GI hr3 (by rfl) T.mgC bI .nil passL (pa_cons (pe_lst (pa_cons pe_str (pa_cons pe_str pa_nil))) pa_nil)) (pa_cons (pe_disp (pps_cons pe_str pe_int (pps_cons pe_str pe_int pps_nil)) (by rfl) (by rfl) (fun z => by cases z) (by decide)) pa_nil))) (by rfl))
      (pss_cons (ps_par (i := 12) (j := 13) rfl scLaw.nd rfl rfl (by decide) rfl rfl (pa_cons (pe_disp (pps_cons pe_str pe_int (pps_cons pe_str pe_int (pps_cons pe_str pe_int pps_nil))) (by rfl) (by rfl) (fun z => by cases z) (by decide)) (pa_cons (pe_disp (pps_cons pe_str pe_int (pps_cons pe_str pe_int (pps_cons pe_str pe_int pps_nil))) (by rfl) (by rfl) (fun z => by cases z) (by decide)) pa_nil)) (by rfl))
      (pss_cons (ps_if (pt_cmpR (op_neD hr.units) (pe_call GZ hr6 (by rfl) gZ kZ9 bZ .nil passL (pa_cons (pv 7) (pa_cons (pv 12) (pa_cons (pv 8) (pa_cons (pv 11) (pa_cons (pv 13) pa_nil)))))) (pe_tup (pa_cons pe_str (pa_cons pe_str pa_nil))) (nomark _)) (pss_one (ps_ret pe_bl)) (pss_nil))
      (pss_one (ps_ret (pe_cmpR op_notN (pe_call GJ hr6 (by rfl) gJ kJ9 bJ .nil passL (pa_cons (pv 7) (pa_cons (pv 12) (pa_cons (pv 8) (pa_cons (pv 11) (pa_cons (pe_disp (pps_cons pe_str pe_int (pps_cons pe_str pe_int (pps_cons pe_str pe_int pps_nil))) (by rfl) (by rfl) (fun z => by cases z) (by decide)) pa_nil)))))) pe_non (nomark _))))))), ?_⟩
    refine ⟨3, rfl, by decide, by decide, for_range (n := 3) (fun i σ G => ∃ w1 w2 w3 w4 w5 w6 w7 w8 w9 w10, σ = [some (.ref sc), w1, w2, w3, w4, w5, w6, w7, w8, w9, w10, none, none, none] ∧ ExtN H G ∧ Tabs [(Pt, qLam)] G) ⟨none, none, none, none, none, none, none, none, none, none, rfl, ExtN.refl H, hT⟩ ?_ ?_⟩
    · rintro i σ G hi ⟨w1, w2, w3, w4, w5, w6, w7, w8, w9, w10, rfl, eG, tG⟩
      refine ⟨_, rfl, _, rfl, sc, ns, i, by rw [Int.zero_add]; rfl, SqL.extN hsc eG, hns, by omega, fun a oa G1 ha0 ha1 hoa s1 => ?_⟩
      have sp1 : SpAt G1 a 0 := ⟨oa, ha1, hoa⟩
      refine ⟨_, rfl, a, 4, 20, 0, rfl, by decide, by decide, by decide, sp1, by decide, fun n zs G2 hnd hpool hhi hlo hn0 hn2 sp2 b2 => ?_⟩
      have hzl : (zs.map V.str).length = zs.length := List.length_map _
      refine ⟨_, rfl, _, rfl, n, _, rfl, .inl (SqL.of hn2), ?_⟩
      rw [hzl]
      refine ⟨_, _, rfl, rfl, a, (zs.length : Int) - 3, 21, rfl, by omega, by omega, sp2, by decide, fun r0 o0 hr0 hr1' ho0 => ⟨_, _, rfl, rfl, ?_⟩⟩
      have sp3 : SpAt (upd G2 a o0) a 22 := ⟨o0, upd_same, ho0⟩
      have b3 : But a G2 (upd G2 a o0) := But.upd
      generalize upd G2 a o0 = G3 at sp3 b3
      obtain ⟨rn, rfl⟩ := Int.eq_ofNat_of_zero_le hr0
      have han : a ≠ n := fun e => by
        obtain ⟨o', ho', _⟩ := sp2
        rw [e, hn2] at ho'
        obtain ⟨x', y', c', rfl, _⟩ := ‹SpOk _ o'›
        match zs, ho' with
        | [], q => cases q
        | z :: r, q => cases q
      have hna : n ≠ a := Ne.symm han
      have hn3 := b3 _ _ hna hn2
      have ek : ((2 : Int) + ((rn : Nat) : Int)) = ((2 + rn : Nat) : Int) := by omega
      refine ⟨_, rfl, _, rfl, _, rfl, n, _, rfl, SqL.of hn3, fun S1 hS1 => ?_⟩
      rw [ek, cut_to, ← List.map_take]
      generalize hE : upd G3 S1 _ = G4
      have sG4 : Same G3 G4 := hE ▸ same_upd hS1
      have eS1 := congrFun hE.symm S1
      rw [upd_same] at eS1
      clear hE
      refine ⟨_, rfl, _, rfl, _, rfl, n, _, rfl, SqL.of (sG4 _ _ hn3), fun S2 hS2 => ⟨_, _, rfl, ?_⟩⟩
      rw [ek, cut_from, ← List.map_drop]
      generalize hE : upd G4 S2 _ = G5
      have sG5 : Same G4 G5 := hE ▸ same_upd hS2
      have eS2 := congrFun hE.symm S2
      rw [upd_same] at eS2
      clear hE
      have eMO : zs.take (2 + rn) ++ zs.drop (2 + rn) = zs := List.take_append_drop _ _
      generalize hM : zs.take (2 + rn) = M at *
      generalize hO : zs.drop (2 + rn) = O at *
      have lM : M.length = 2 + rn := by rw [← hM, List.length_take]; omega
      have lO : O.length + (2 + rn) = zs.length := by rw [← hO, List.length_drop]; omega
      have h2M : 2 ≤ M.length := by omega
      have h2O : 2 ≤ O.length := by omega
      have nd : (M ++ O).Nodup := by rw [eMO]; exact hnd
      have hpl : ∀ z ∈ M ++ O, z ∈ pool := by rw [eMO]; exact hpool
      have l20 : (M ++ O).length ≤ 20 := by rw [eMO]; omega
      have Mnd := (List.nodup_append.mp nd).1
      have Ond := (List.nodup_append.mp nd).2.1
      have dis : ∀ x ∈ O, x ∉ M := fun x hx q => (List.nodup_append.mp nd).2.2 x q x hx rfl
      have hZl : (M ++ O).length = M.length + O.length := List.length_append
      have pM : ∀ z ∈ M, z ∈ pool := fun z hz => hpl z (List.mem_append_left _ hz)
      have pO : ∀ z ∈ O, z ∈ pool := fun z hz => hpl z (List.mem_append_right _ hz)
      have zM : ∀ z ∈ M, z.length ≤ 1000 := fun z hz => pool_len z (pM z hz)
      have zO : ∀ z ∈ O, z.length ≤ 1000 := fun z hz => pool_len z (pO z hz)
      have nmM : Nm M := fun z hz => pool_names z (pM z hz)
      have nmO : Nm O := fun z hz => pool_names z (pO z hz)
      have nofirst : firstIn M O = none := List.find?_eq_none.mpr fun x hx q => dis x (of_decide_eq_true q) hx
      refine ⟨_, rfl, fun p1 dx nx ndx nex => init_good (zs := M) nx ndx (.inl ⟨sG5 _ _ eS1, rfl⟩) Mnd nmM zM h2M (by omega) fun t1 G6 hp1 s6 => ⟨rfl, ?_⟩⟩
      refine ⟨_, rfl, fun p2 dx2 nx2 ndx2 nex2 => init_good (zs := O) nx2 ndx2 (.inl ⟨s6 _ _ eS2, rfl⟩) Ond nmO zO h2O (by omega) fun t2 G7 hp2 s7 => ⟨rfl, _, _, rfl, ?_⟩⟩
      have s57 := s6.trans s7
      have hp1_7 := hp1.same s7
      -- joint_path
      refine ⟨_, rfl, _, rfl, _, _, rfl, .inr ⟨p1, t1, M, rfl, hp1_7, Mnd, nmM, zM, h2M, by omega, .inr ⟨p2, t2, O, rfl, hp2, Ond, nmO, zO, h2O, by omega, fun z hz => absurd (nofirst.symm.trans hz) (fun q => nomatch q), fun _ pj tj G8 hpj s8 => ?_⟩⟩⟩
      have hn8 := s8 _ _ (s57 _ _ (sG5 _ _ (sG4 _ _ hn3)))
      refine ⟨_, rfl, fun pn dx3 nx3 ndx3 nex3 => init_good (zs := zs) nx3 ndx3 (.inl ⟨hn8, rfl⟩) hnd (fun z hz => pool_names z (hpool z hz)) (fun z hz => pool_len z (hpool z hz)) (by omega) (by omega) fun tn G9 hpn s9 => ⟨rfl, ?_⟩⟩
      have hpj9 := hpj.same s9
      obtain ⟨dx0, hob0⟩ := hpj9.ob
      have nmZ : Nm zs := fun z hz => pool_names z (hpool z hz)
      have nmMO : Nm (M ++ O) := by rw [eMO]; exact nmZ
      refine ⟨pj, dx0, _, .ref C, rfl, hob0, hpn.ty T TE, notFirst_own, pj, tj, M ++ O, .ref pn, rfl, hpj9, nmMO, .inr ⟨pn, tn, zs, rfl, hpn, nmZ, ?_⟩⟩
      rw [decide_eq_true eMO]
      refine ⟨true, rfl, true, rfl, iteF ?_⟩
      have s59 := (s57.trans s8).trans s9
      have b19 : But a G1 G9 := (b2.trans b3).trans (Same.but ((sG4.trans sG5).trans s59))
      have sp9 : SpAt G9 a 22 := (sp3.same (sG4.trans sG5)).same s59
      have toN : ∀ {A : Hp}, ButT a G1 A → ExtN H A := fun bt b u e nt => bt b u (fun z => by have := eG b u e nt; rw [z, ha0] at this; cases this) nt (s1 _ _ (eG b u e nt))
      have a3 : ∃ u, G3 a = some u := let ⟨o', h, _⟩ := sp3; ⟨o', h⟩
      have nS1 : a ≠ S1 := fun e => by obtain ⟨u, h⟩ := a3; rw [e, hS1] at h; cases h
      have nS2 : a ≠ S2 := fun e => by obtain ⟨u, h⟩ := a3; rw [e] at h; rw [sG4 _ _ h] at hS2; cases hS2
      have eS19 := s59 _ _ (sG5 _ _ eS1)
      have eS29 := s59 _ _ eS2
      have tG1 : Tabs [(Pt, qLam)] G1 := tG.ext s1
      have tG9 : Tabs [(Pt, qLam)] G9 := tabs_keep tG1 fun b u n1 _ e => b19 b u (fun z => by
        obtain ⟨x', y', c', rfl, _⟩ := hoa
        rw [z, ha1] at e; cases e; exact n1 _ rfl) e
      refine ⟨_, rfl, _, rfl, _, rfl, a, S1, S2, M, O, 22, rfl, nS1, nS2, sp9, by decide, eS19, eS29, nd, hpl, h2M, h2O, l20, tG9, fun G10 sp10 bT10 tT10 => ⟨true, rfl, iteF ?_⟩⟩
      have a9 : ∃ x' y' c' : Int, G9 a = some (.lst [.int x', .int y', .int c']) := by
        obtain ⟨o', h, x', y', c', rfl, _⟩ := sp9
        exact ⟨x', y', c', h⟩
      obtain ⟨xa, ya, ca, ea9⟩ := a9
      have kp : ∀ {p t : Addr} {ys : List Str} {A : Hp}, ButT a G9 A → PathAt C G9 p t ys → PathAt C A p t ys := fun {p t ys A} bt hp => by
        obtain ⟨dz, e⟩ := hp.ob
        have e2 := hp.tu
        exact ⟨⟨dz, bt _ _ (fun z => by rw [z, ea9] at e; cases e) (fun _ z => nomatch z) e⟩, bt _ _ (fun z => by rw [z, ea9] at e2; cases e2) (fun _ z => nomatch z) e2⟩
      have hp1_9 : PathAt C G9 p1 t1 M := (hp1_7.same s8).same s9
      have hp2_9 : PathAt C G9 p2 t2 O := (hp2.same s8).same s9
      have hn9 : G9 n = some (.lst (zs.map V.str)) := s9 _ _ hn8
      have lN : ∀ ps, HO.lst (zs.map V.str) ≠ .tbl ps := fun _ z => nomatch z
      have hn10 := bT10 _ _ hna lN hn9
      have stz : ∀ {k : List (Key × V)}, Sta zs zs k → Sta (M ++ O) (M ++ O) k := fun h => by rw [eMO]; exact h
      refine ⟨_, rfl, _, rfl, a, n, zs, _, rfl, han, sp10, by decide, hn10, hnd, by omega, by omega, fun d1 k1 G11 ed1 st1 bd1 d1a sp11 b11 => ?_⟩
      refine ⟨_, rfl, _, rfl, a, n, zs, _, rfl, han, sp11, by decide, b11 _ _ hna hn10, hnd, by omega, by omega, fun d2 k2 G12 ed2 st2 bd2 d2a sp12 b12 => ?_⟩
      refine ⟨by show 2 ≤ sizeLine; decide, fun RW hRW => ?_⟩
      generalize hE : upd G12 RW _ = G13
      have sG13 : Same G12 G13 := hE ▸ same_upd hRW
      have eRW := congrFun hE.symm RW
      rw [upd_same] at eRW
      clear hE
      refine ⟨_, rfl, _, rfl, _, rfl, RW, _, rfl, SqL.of eRW, fun S hS => ?_⟩
      have ecut : cutV [V.ref d1, V.ref d2] none (some 1) = [V.ref d1] := by
        rw [show (some 1 : Option Int) = some ((1 : Nat) : Int) from rfl, cut_to]
        rfl
      rw [ecut]
      generalize hE : upd G13 S _ = G14
      have sG14 : Same G13 G14 := hE ▸ same_upd hS
      have eS := congrFun hE.symm S
      rw [upd_same] at eS
      clear hE
      refine ⟨RW, S, _, _, rfl, rfl, sG14 _ _ eRW, eS, by show 2 + 1 ≤ sizeLine; decide, fun R2 hR2 => ?_⟩
      generalize hE : upd G14 R2 _ = G15
      have sG15 : Same G14 G15 := hE ▸ same_upd hR2
      have eR2 := congrFun hE.symm R2
      rw [upd_same] at eR2
      clear hE
      replace eR2 : G15 R2 = some (.lst [.ref d1, .ref d2, .ref d1]) := eR2
      have s1215 := (sG13.trans sG14).trans sG15
      have b1015 : But a G10 G15 := (b11.trans b12).trans (Same.but s1215)
      have bT15 : ButT a G9 G15 := bT10.trans fun b u h1 _ e => b1015 b u h1 e
      have sp15 := sp12.same s1215
      have R2a : R2 ≠ a := fun e => by
        obtain ⟨o', ho', _⟩ := (sp12.same sG13).same sG14
        rw [e, ho'] at hR2; cases hR2
      have tG15 : Tabs [(Pt, qLam)] G15 := tabs_keep tT10 fun b u n1 _ e => b1015 b u (fun z => by
        obtain ⟨o', ho', x', y', c', rfl, _⟩ := sp10
        rw [z, ho'] at e; cases e; exact n1 _ rfl) e
      have ed1_15 := s1215 _ _ (b12 _ _ d1a ed1)
      have ed2_15 := s1215 _ _ ed2
      obtain ⟨oq, hoq, xq, yq, cq, eoq, _⟩ := id sp15
      subst eoq
      refine ⟨R2, rfl, ⟨_, SqL.of eR2⟩, for_list (xs := [V.ref d1, .ref d2, .ref d1]) (fun j σ G' => ∃ w10', σ = [some (.ref sc), some (.int (0 + (i : Int))), some (.ref a), some (.ref n), some ((fun i j => V.int (i + j)) 2 (rn : Int)), some (.ref S1), some (.ref S2), some (.ref p1), some (.ref p2), some (.ref RW), w10', none, none, none] ∧ SpAt G' a (8042 + 10000 * j) ∧ But a G15 G')
        ⟨_, rfl, sp15, Same.but (Same.refl G15)⟩ (fun j σ G' _ ⟨_, _, _, b⟩ => SqL.of (b _ _ R2a eR2)) ?_ ?_⟩
      · rintro j v σ G16 hv ⟨w10', rfl, sp16, b16⟩
        have hj : j < 3 := (List.getElem?_eq_some_iff.mp hv).1
        obtain ⟨dv, kv, rfl, dva, edv, stv, bdv⟩ : ∃ dv kv, v = .ref dv ∧ dv ≠ a ∧ G15 dv = some (.dK kv) ∧ Sta zs zs kv ∧ ∀ z ∈ zs, (placeOf kv z).natAbs < 2 ^ 100 := by
          have hm := List.mem_of_getElem? hv
          simp only [List.mem_cons, List.not_mem_nil, or_false] at hm
          rcases hm with rfl | rfl | rfl
          · exact ⟨_, _, rfl, d1a, ed1_15, st1, bd1⟩
          · exact ⟨_, _, rfl, d2a, ed2_15, st2, bd2⟩
          · exact ⟨_, _, rfl, d1a, ed1_15, st1, bd1⟩
        have bT16 : ButT a G9 G16 := bT15.trans fun b u h1 _ e => b16 b u h1 e
        have eS1_16 := bT16 _ _ (Ne.symm nS1) (fun ps (z : HO.lst (M.map V.str) = .tbl ps) => nomatch z) eS19
        have eS2_16 := bT16 _ _ (Ne.symm nS2) (fun ps (z : HO.lst (O.map V.str) = .tbl ps) => nomatch z) eS29
        refine ⟨_, rfl, _, rfl, _, rfl, _, rfl, _, rfl, _, rfl, a, p1, t1, p2, t2, dv, S1, S2, M, O, kv, _, rfl, Ne.symm dva, nS1, nS2, sp16, by omega, kp bT16 hp1_9, kp bT16 hp2_9, b16 _ _ dva edv, stz stv, eS1_16, eS2_16, nd, hpl, h2M, h2O, l20, by rw [eMO]; exact bdv, fun G17 sp17 b17 => ⟨true, rfl, iteF ?_⟩⟩
        obtain ⟨o3, ho3, hok3⟩ := sp17
        exact ⟨_, rfl, ⟨o3, ho3, hok3.mono (by omega)⟩, b16.trans b17⟩
      · rintro σ G16 ⟨w10', rfl, sp16, b16⟩
        have bTe : ButT a G1 G16 := ButT.trans (fun b u h1 _ e => b19 b u h1 e) (bT15.trans fun b u h1 _ e => b16 b u h1 e)
        exact ⟨_, _, _, _, _, _, _, _, _, _, rfl, toN bTe, tabs_keep tG15 fun b u n1 _ e => b16 b u (fun z => by rw [z, hoq] at e; cases e; exact n1 _ rfl) e⟩
    · rintro σ G ⟨w1, w2, w3, w4, w5, w6, w7, w8, w9, w10, rfl, eG, tG⟩
      -- the document's own
      refine ⟨by show 3 ≤ sizeLine; decide, fun L1 hL1 => ?_⟩
      generalize hE : upd G L1 _ = G1
      have sG1 : Same G G1 := hE ▸ same_upd hL1
      have eL1 := congrFun hE.symm L1
      rw [upd_same] at eL1
      clear hE
      replace eL1 : G1 L1 = some (.lst ((["a", "b", "c"] : List Str).map V.str)) := eL1
      refine fun p1 dx nx ndx nex => init_good (zs := ["a", "b", "c"]) nx ndx (.inl ⟨eL1, rfl⟩) (by decide +kernel) (by unfold Nm; decide +kernel) (by decide +kernel) (by decide) (by decide) fun t1 G2 hp1 s2 => ⟨rfl, ?_⟩
      refine ⟨by show 2 ≤ sizeLine; decide, fun L2x hL2x => ?_⟩
      generalize hE : upd G2 L2x _ = G3
      have sG3 : Same G2 G3 := hE ▸ same_upd hL2x
      have eL2x := congrFun hE.symm L2x
      rw [upd_same] at eL2x
      clear hE
      replace eL2x : G3 L2x = some (.lst ((["x", "y"] : List Str).map V.str)) := eL2x
      refine fun p2 dx2 nx2 ndx2 nex2 => init_good (zs := ["x", "y"]) nx2 ndx2 (.inl ⟨eL2x, rfl⟩) (by decide +kernel) (by unfold Nm; decide +kernel) (by decide +kernel) (by decide) (by decide) fun t2 G4 hp2 s4 => ⟨rfl, ?_⟩
      refine fun dS hdS => ⟨upd_same, [((Sum.inr "x" : Key), V.int 0), ((Sum.inr "y" : Key), V.int 1)], rfl, by decide, ?_⟩
      rw [disp_heap exO_merge]
      refine ⟨_, _, _, rfl, ?_⟩
      generalize hE : upd G4 dS _ = G5
      have sG5 : Same G4 G5 := hE ▸ same_upd hdS
      have edS := congrFun hE.symm dS
      rw [upd_same] at edS
      clear hE
      refine fun dM hdM => ⟨upd_same, [((Sum.inr "a" : Key), V.int 2), ((Sum.inr "b" : Key), V.int 1), ((Sum.inr "c" : Key), V.int 0)], rfl, by decide, ?_⟩
      rw [disp_heap (exM_merge 2 1 0)]
      generalize hE : upd G5 dM _ = G6
      have sG6 : Same G5 G6 := hE ▸ same_upd hdM
      have edM := congrFun hE.symm dM
      rw [upd_same] at edM
      clear hE
      refine fun dT hdT => ⟨upd_same, [((Sum.inr "a" : Key), V.int 3), ((Sum.inr "b" : Key), V.int 4), ((Sum.inr "c" : Key), V.int 4)], rfl, by decide, ?_⟩
      rw [disp_heap (exM_merge 3 4 4)]
      refine ⟨_, _, rfl, ?_⟩
      generalize hE : upd G6 dT _ = G7
      have sG7 : Same G6 G7 := hE ▸ same_upd hdT
      have edT := congrFun hE.symm dT
      rw [upd_same] at edT
      clear hE
      have hp1_7 : PathAt C G7 p1 t1 exM := ((((hp1.same sG3).same s4).same sG5).same sG6).same sG7
      have hp2_7 : PathAt C G7 p2 t2 exO := ((hp2.same sG5).same sG6).same sG7
      have exn : (exM ++ exO).Nodup := by decide +kernel
      have exm : Nm (exM ++ exO) := by unfold Nm; decide +kernel
      have exz : ∀ z ∈ exM ++ exO, z.length ≤ 1000 := by decide +kernel
      refine ⟨_, rfl, _, rfl, _, rfl, _, rfl, _, rfl, ?_⟩
      refine st_nil (five_good2 hp1_7 hp2_7 exn exm exz (by decide) (by decide) (by decide) (sG7 _ _ edM) (sG7 _ _ (sG6 _ _ edS)) edT (List.Perm.refl _) (List.Perm.refl _) (List.Perm.refl _) exM_sta exO_sta fun w G8 hw s8 => ?_)
      rw [ex_bar] at hw
      obtain ⟨U, rfl, hU⟩ := hw
      refine ⟨by show 2 ≤ sizeLine; decide, fun U2 hU2 => ?_⟩
      generalize hE : upd G8 U2 _ = G9
      have sG9 : Same G8 G9 := hE ▸ same_upd hU2
      have eU2 := congrFun hE.symm U2
      rw [upd_same] at eU2
      clear hE
      have dpU : ∀ {q : Addr}, G9 q = some (.tup [.str "a", .str "b"]) → Dp K G9 (.ref q) (.tuple [.str "a", .str "b"]) := fun e => .tup (SqT.of e) (.cons (.str "a") (.cons (.str "b") .nil))
      refine ⟨.tuple [.str "a", .str "b"], .tuple [.str "a", .str "b"], dpU (sG9 _ _ hU), dpU eU2, by decide +kernel, by decide +kernel, false, by decide +kernel, iteF ?_⟩
      have s79 := s8.trans sG9
      refine ⟨_, rfl, _, rfl, _, rfl, _, rfl, ?_⟩
      refine fun dQ hdQ => ⟨upd_same, [((Sum.inr "a" : Key), V.int 5), ((Sum.inr "b" : Key), V.int 4), ((Sum.inr "c" : Key), V.int 4)], rfl, by decide, ?_⟩
      rw [disp_heap (exM_merge 5 4 4)]
      generalize hE : upd G9 dQ _ = G10
      have sG10 : Same G9 G10 := hE ▸ same_upd hdQ
      have edQ := congrFun hE.symm dQ
      rw [upd_same] at edQ
      clear hE
      have s710 := s79.trans sG10
      refine st_nil (five_good2 (hp1_7.same s710) (hp2_7.same s710) exn exm exz (by decide) (by decide) (by decide) (s710 _ _ (sG7 _ _ edM)) (s710 _ _ (sG7 _ _ (sG6 _ _ edS))) edQ (List.Perm.refl _) (List.Perm.refl _) (List.Perm.refl _) exM_sta exO_sta ⟨fun q => absurd ex_none q, fun _ e G11 he0 he s11 => ?_⟩)
      exact ⟨rfl, k _⟩

end
end RK

namespace RK
open PySem L2
/-! ### calls by name in any order -/
theorem vals_snoc {zs : List V} {us : List Value} (h : Vals zs us) {zs2 : List V} {us2 : List Value} (h2 : Vals zs2 us2) : Vals (zs ++ zs2) (us ++ us2) := by
  induction h with
  | nil => exact h2
  | cons a _ ih => exact .cons a ih
theorem vals_rev {zs : List V} {us : List Value} (h : Vals zs us) : Vals zs.reverse us.reverse := by
  induction h with
  | nil => exact .nil
  | cons a _ ih => rw [List.reverse_cons, List.reverse_cons]; exact vals_snoc ih (.cons a .nil)
theorem kb_jointPath {K : PySem.W.Frag} {f : Addr} {fd : FuncData} (F : Fun K "joint_path" "joint_path" sJointPath f fd) : KBn K fd ["first", "second"] 0 ["second", "first"] (fun us ws => ws.reverse) (fun vs zs => zs.reverse) := by
  obtain ⟨oc, od, kV, doc, pm, an, cdv, ct, osl, rfl, lk, hcd⟩ := F.ex
  refine ⟨fun s us ws X l1 l2 => ?_, fun _ r2 => vals_rev r2⟩
  match us, ws, l1, l2 with
  | [], [w1, w2], _, _ => exact .of_eq rfl
theorem kb_joined {K : PySem.W.Frag} {f : Addr} {fd : FuncData} (F : Fun K "joined" "joined" sJoined f fd) : KBn K fd ["first", "stand", "second", "other_stand", "sums"] 0 ["sums", "other_stand", "second", "stand", "first"] (fun us ws => rev5 ws) (fun vs zs => rev5 zs) := by
  obtain ⟨oc, od, kV, doc, pm, an, cdv, ct, osl, rfl, lk, hcd⟩ := F.ex
  refine ⟨fun s us ws X l1 l2 => ?_, fun _ r2 => rel5 r2⟩
  match us, ws, l1, l2 with
  | [], [w1, w2, w3, w4, w5], _, _ => exact .of_eq rfl
theorem kb_jointClash {K : PySem.W.Frag} {f : Addr} {fd : FuncData} (F : Fun K "joint_clash" "joint_clash" sJointClash f fd) : KBn K fd ["first", "stand", "second", "other_stand", "sums"] 0 ["sums", "other_stand", "second", "stand", "first"] (fun us ws => rev5 ws) (fun vs zs => rev5 zs) := by
  obtain ⟨oc, od, kV, doc, pm, an, cdv, ct, osl, rfl, lk, hcd⟩ := F.ex
  refine ⟨fun s us ws X l1 l2 => ?_, fun _ r2 => rel5 r2⟩
  match us, ws, l1, l2 with
  | [], [w1, w2, w3, w4, w5], _, _ => exact .of_eq rfl
end RK

namespace RK
open PySem L2 LamX
theorem exm_self {K : PySem.W.Frag} {S : Addr} (h1 : PySem.W.subIn K (.ref S) (.type "BaseException") = some true) (h2 : PySem.W.isClsIn K S = true) (h3 : PySem.W.typeIn K (.ref S) = some (.type "type")) (h4 : PySem.W.subIn K (.ref S) (.ref S) = some true) :
    PySem.W.exmOne K (.ref S) (.ref S) = some true := by
  have e1 : (PySem.W.subIn K (.ref S) (.type "BaseException") == some true) = true := by rw [h1] <;> rfl
  have e2 : ((PySem.W.clsIn K S).isSome && PySem.W.typeIn K (.ref S) == some (.type "type")) = true := by
    have h2' : (PySem.W.clsIn K S).isSome = true := h2
    rw [h2', h3] <;> rfl
  show (if (PySem.W.subIn K (.ref S) (.type "BaseException") == some true) = true then (if ((PySem.W.clsIn K S).isSome && PySem.W.typeIn K (.ref S) == some (.type "type")) = true then PySem.W.subIn K (.ref S) (.ref S) else none) else none) = some true
  rw [if_pos e1, if_pos e2]
  exact h4
theorem isC_of {K : PySem.W.Frag} {S : Addr} (h2 : PySem.W.isClsIn K S = true) (h3 : PySem.W.typeIn K (.ref S) = some (.type "type")) : ((PySem.W.clsIn K S).isSome && PySem.W.typeIn K (.ref S) == some (.type "type")) = true := by
  have h2' : (PySem.W.clsIn K S).isSome = true := h2
  rw [h2', h3] <;> rfl
theorem cls_fn {K : PySem.W.Frag} {a : Addr} {o : Obj} (h : K.lookup a = some o) (t : o.cls = .type "function") : ∃ o, K.lookup a = some o ∧ o.cls = .type "function" := ⟨o, h, t⟩


theorem all_mk {P : Program} {w : World} {K : PySem.W.Frag} {h : Heap} {mg : Str → Option Value} {fa C f101 f102 f103 f104 f105 f106 f107 f108 f109 f110 f111 f112 f113 f114 f115 f116 f117 f118 f119 f120 f121 f122 f123 f124 f125 f126 f127 f128 f129 f130 f131 f132 f133 f134 f135 f136 f137 f138 f139 f140 f141 f142 f143 f144 f145 f146 f147 f148 f149 f150 f151 f152 f153 f154 C50 C51 C52 C53 C54 e50 e51 e52 e53 e54 cda50 cc50 N50 cda51 cc51 N51 cda52 cc52 N52 cda53 cc53 N53 cda54 cc54 N54 ct Pt : Addr} (X : K.In h) (G : h.Ns mainGlobals mg) (hfa : mg "law" = some (.ref fa))
    {od101 an101 od102 an102 od103 an103 od104 an104 od105 an105 od106 an106 od107 an107 od108 an108 od109 an109 od110 an110 od111 an111 od112 an112 od113 an113 od114 an114 od115 an115 od116 an116 od117 an117 od118 an118 od119 an119 od120 an120 od121 an121 od122 an122 od123 an123 od124 an124 od125 an125 od126 an126 od127 an127 od128 an128 od129 an129 od130 an130 od131 an131 od132 an132 od133 an133 od134 an134 od135 an135 od136 an136 od137 an137 od138 an138 od139 an139 od140 an140 od141 an141 od142 an142 od143 an143 od144 an144 od145 an145 od146 an146 od147 an147 od148 an148 od149 an149 od150 an150 od151 an151 od152 an152 od153 an153 od154 an154 odct ode50 ane50 cld50 cdd50 dd50 ode51 ane51 cld51 cdd51 dd51 ode52 ane52 cld52 cdd52 dd52 ode53 ane53 cld53 cdd53 dd53 ode54 ane54 cld54 cdd54 dd54 : Option Addr} {sl101 sl102 sl103 sl104 sl105 sl106 sl107 sl108 sl109 sl110 sl111 sl112 sl113 sl114 sl115 sl116 sl117 sl118 sl119 sl120 sl121 sl122 sl123 sl124 sl125 sl126 sl127 sl128 sl129 sl130 sl131 sl132 sl133 sl134 sl135 sl136 sl137 sl138 sl139 sl140 sl141 sl142 sl143 sl144 sl145 sl146 sl147 sl148 sl149 sl150 sl151 sl152 sl153 sl154 slct sle50 csl50 ccs50 sle51 csl51 ccs51 sle52 csl52 ccs52 sle53 csl53 ccs53 sle54 csl54 ccs54 : Array (Option Value)} {oc101 kV101 dc101 pm101 cd101 ct101 oc102 kV102 dc102 pm102 cd102 ct102 oc103 kV103 dc103 pm103 cd103 ct103 oc104 kV104 dc104 pm104 cd104 ct104 oc105 kV105 dc105 pm105 cd105 ct105 oc106 kV106 dc106 pm106 cd106 ct106 oc107 kV107 dc107 pm107 cd107 ct107 oc108 kV108 dc108 pm108 cd108 ct108 oc109 kV109 dc109 pm109 cd109 ct109 oc110 kV110 dc110 pm110 cd110 ct110 oc111 kV111 dc111 pm111 cd111 ct111 oc112 kV112 dc112 pm112 cd112 ct112 oc113 kV113 dc113 pm113 cd113 ct113 oc114 kV114 dc114 pm114 cd114 ct114 oc115 kV115 dc115 pm115 cd115 ct115 oc116 kV116 dc116 pm116 cd116 ct116 oc117 kV117 dc117 pm117 cd117 ct117 oc118 kV118 dc118 pm118 cd118 ct118 oc119 kV119 dc119 pm119 cd119 ct119 oc120 kV120 dc120 pm120 cd120 ct120 oc121 kV121 dc121 pm121 cd121 ct121 oc122 kV122 dc122 pm122 cd122 ct122 oc123 kV123 dc123 pm123 cd123 ct123 oc124 kV124 dc124 pm124 cd124 ct124 oc125 kV125 dc125 pm125 cd125 ct125 oc126 kV126 dc126 pm126 cd126 ct126 oc127 kV127 dc127 pm127 cd127 ct127 oc128 kV128 dc128 pm128 cd128 ct128 oc129 kV129 dc129 pm129 cd129 ct129 oc130 kV130 dc130 pm130 cd130 ct130 oc131 kV131 dc131 pm131 cd131 ct131 oc132 kV132 dc132 pm132 cd132 ct132 oc133 kV133 dc133 pm133 cd133 ct133 oc134 kV134 dc134 pm134 cd134 ct134 oc135 kV135 dc135 pm135 cd135 ct135 oc136 kV136 dc136 pm136 cd136 ct136 oc137 kV137 dc137 pm137 cd137 ct137 oc138 kV138 dc138 pm138 cd138 ct138 oc139 kV139 dc139 pm139 cd139 ct139 oc140 kV140 dc140 pm140 cd140 ct140 oc141 kV141 dc141 pm141 cd141 ct141 oc142 kV142 dc142 pm142 cd142 ct142 oc143 kV143 dc143 pm143 cd143 ct143 oc144 kV144 dc144 pm144 cd144 ct144 oc145 kV145 dc145 pm145 cd145 ct145 oc146 kV146 dc146 pm146 cd146 ct146 oc147 kV147 dc147 pm147 cd147 ct147 oc148 kV148 dc148 pm148 cd148 ct148 oc149 kV149 dc149 pm149 cd149 ct149 oc150 kV150 dc150 pm150 cd150 ct150 oc151 kV151 dc151 pm151 cd151 ct151 oc152 kV152 dc152 pm152 cd152 ct152 oc153 kV153 dc153 pm153 ct153 oc154 kV154 dc154 pm154 cd154 ct154 occt oce50 dce50 pme50 cte50 cl50 ccl50 oce51 dce51 pme51 cte51 cl51 ccl51 oce52 dce52 pme52 cte52 cl52 ccl52 oce53 dce53 pme53 cte53 cl53 ccl53 oce54 dce54 pme54 cte54 cl54 ccl54 : Value} {t1 t2 t3 : Tok}
    {vsct : Array Value}
    {vs50 : Array Value} {file50 nm50 q50 : Str} {tf50 : Tok} {bs50 bm50 sub50 : List Value} {sn50 : List Str} {ab50 : Bool} {col50 : Option Bool} {m050 m150 m250 m350 m550 : Option Value}
    {vs51 : Array Value} {file51 nm51 q51 : Str} {tf51 : Tok} {bs51 bm51 sub51 : List Value} {sn51 : List Str} {ab51 : Bool} {col51 : Option Bool} {m051 m151 m251 m351 m551 : Option Value}
    {vs52 : Array Value} {file52 nm52 q52 : Str} {tf52 : Tok} {bs52 bm52 sub52 : List Value} {sn52 : List Str} {ab52 : Bool} {col52 : Option Bool} {m052 m152 m252 m352 m552 : Option Value}
    {vs53 : Array Value} {file53 nm53 q53 : Str} {tf53 : Tok} {bs53 bm53 sub53 : List Value} {sn53 : List Str} {ab53 : Bool} {col53 : Option Bool} {m053 m153 m253 m353 m553 : Option Value}
    {vs54 : Array Value} {file54 nm54 q54 : Str} {tf54 : Tok} {bs54 bm54 sub54 : List Value} {sn54 : List Str} {ab54 : Bool} {col54 : Option Bool} {m054 m154 m254 m354 m554 : Option Value}
    (aC : PySem.W.nsIn K mainGlobals "Path" = some (some (.ref C)))
    (a50 : PySem.W.nsIn K mainGlobals "BadWalkers" = some (some (.ref C50)))
    (xi50C : PySem.W.findIn K (.ref C50) "__init__" = some (some (.ref e50)))
    (a51 : PySem.W.nsIn K mainGlobals "BadPath" = some (some (.ref C51)))
    (xi51C : PySem.W.findIn K (.ref C51) "__init__" = some (some (.ref e51)))
    (a52 : PySem.W.nsIn K mainGlobals "BadStand" = some (some (.ref C52)))
    (xi52C : PySem.W.findIn K (.ref C52) "__init__" = some (some (.ref e52)))
    (a53 : PySem.W.nsIn K mainGlobals "CommonWalker" = some (some (.ref C53)))
    (xi53C : PySem.W.findIn K (.ref C53) "__init__" = some (some (.ref e53)))
    (a54 : PySem.W.nsIn K mainGlobals "BadSums" = some (some (.ref C54)))
    (xi54C : PySem.W.findIn K (.ref C54) "__init__" = some (some (.ref e54)))
    (a101 : PySem.W.nsIn K mainGlobals "is_integer" = some (some (.ref f101)))
    (l101 : K.lookup f101 = some ⟨oc101, od101, .func (PySem.W.fnOf "is_integer" "is_integer" (defArgs sIsInt) (defBody sIsInt) (defScope sIsInt) .none kV101 dc101 pm101 an101 cd101 ct101), sl101⟩)
    (c101 : PySem.W.codeIn K cd101 "is_integer" = true)
    (k101 : PySem.W.keepIn K (.ref f101) = true)
    (a102 : PySem.W.nsIn K mainGlobals "is_list" = some (some (.ref f102)))
    (l102 : K.lookup f102 = some ⟨oc102, od102, .func (PySem.W.fnOf "is_list" "is_list" (defArgs sIsList) (defBody sIsList) (defScope sIsList) .none kV102 dc102 pm102 an102 cd102 ct102), sl102⟩)
    (c102 : PySem.W.codeIn K cd102 "is_list" = true)
    (k102 : PySem.W.keepIn K (.ref f102) = true)
    (a103 : PySem.W.nsIn K mainGlobals "is_name" = some (some (.ref f103)))
    (l103 : K.lookup f103 = some ⟨oc103, od103, .func (PySem.W.fnOf "is_name" "is_name" (defArgs sIsName) (defBody sIsName) (defScope sIsName) .none kV103 dc103 pm103 an103 cd103 ct103), sl103⟩)
    (c103 : PySem.W.codeIn K cd103 "is_name" = true)
    (k103 : PySem.W.keepIn K (.ref f103) = true)
    (a104 : PySem.W.nsIn K mainGlobals "is_dict_of" = some (some (.ref f104)))
    (l104 : K.lookup f104 = some ⟨oc104, od104, .func (PySem.W.fnOf "is_dict_of" "is_dict_of" (defArgs sDictOf) (defBody sDictOf) (defScope sDictOf) .none kV104 dc104 pm104 an104 cd104 ct104), sl104⟩)
    (c104 : PySem.W.codeIn K cd104 "is_dict_of" = true)
    (k104 : PySem.W.keepIn K (.ref f104) = true)
    (a105 : PySem.W.nsIn K mainGlobals "is_standing" = some (some (.ref f105)))
    (l105 : K.lookup f105 = some ⟨oc105, od105, .func (PySem.W.fnOf "is_standing" "is_standing" (defArgs sStanding) (defBody sStanding) (defScope sStanding) .none kV105 dc105 pm105 an105 cd105 ct105), sl105⟩)
    (c105 : PySem.W.codeIn K cd105 "is_standing" = true)
    (k105 : PySem.W.keepIn K (.ref f105) = true)
    (a106 : PySem.W.nsIn K mainGlobals "first_places" = some (some (.ref f106)))
    (l106 : K.lookup f106 = some ⟨oc106, od106, .func (PySem.W.fnOf "first_places" "first_places" (defArgs sFirstPl) (defBody sFirstPl) (defScope sFirstPl) .none kV106 dc106 pm106 an106 cd106 ct106), sl106⟩)
    (c106 : PySem.W.codeIn K cd106 "first_places" = true)
    (k106 : PySem.W.keepIn K (.ref f106) = true)
    (a107 : PySem.W.nsIn K mainGlobals "pairs_of" = some (some (.ref f107)))
    (l107 : K.lookup f107 = some ⟨oc107, od107, .func (PySem.W.fnOf "pairs_of" "pairs_of" (defArgs sPairsOf) (defBody sPairsOf) (defScope sPairsOf) .none kV107 dc107 pm107 an107 cd107 ct107), sl107⟩)
    (c107 : PySem.W.codeIn K cd107 "pairs_of" = true)
    (k107 : PySem.W.keepIn K (.ref f107) = true)
    (a108 : PySem.W.nsIn K mainGlobals "pairs_ahead" = some (some (.ref f108)))
    (l108 : K.lookup f108 = some ⟨oc108, od108, .func (PySem.W.fnOf "pairs_ahead" "pairs_ahead" (defArgs sPairsAhead) (defBody sPairsAhead) (defScope sPairsAhead) .none kV108 dc108 pm108 an108 cd108 ct108), sl108⟩)
    (c108 : PySem.W.codeIn K cd108 "pairs_ahead" = true)
    (k108 : PySem.W.keepIn K (.ref f108) = true)
    (a109 : PySem.W.nsIn K mainGlobals "nets_among" = some (some (.ref f109)))
    (l109 : K.lookup f109 = some ⟨oc109, od109, .func (PySem.W.fnOf "nets_among" "nets_among" (defArgs sNetsAmong) (defBody sNetsAmong) (defScope sNetsAmong) .none kV109 dc109 pm109 an109 cd109 ct109), sl109⟩)
    (c109 : PySem.W.codeIn K cd109 "nets_among" = true)
    (k109 : PySem.W.keepIn K (.ref f109) = true)
    (a110 : PySem.W.nsIn K mainGlobals "nets_by" = some (some (.ref f110)))
    (l110 : K.lookup f110 = some ⟨oc110, od110, .func (PySem.W.fnOf "nets_by" "nets_by" (defArgs sNetsBy) (defBody sNetsBy) (defScope sNetsBy) .none kV110 dc110 pm110 an110 cd110 ct110), sl110⟩)
    (c110 : PySem.W.codeIn K cd110 "nets_by" = true)
    (k110 : PySem.W.keepIn K (.ref f110) = true)
    (a111 : PySem.W.nsIn K mainGlobals "add_nets" = some (some (.ref f111)))
    (l111 : K.lookup f111 = some ⟨oc111, od111, .func (PySem.W.fnOf "add_nets" "add_nets" (defArgs sAddNets) (defBody sAddNets) (defScope sAddNets) .none kV111 dc111 pm111 an111 cd111 ct111), sl111⟩)
    (c111 : PySem.W.codeIn K cd111 "add_nets" = true)
    (k111 : PySem.W.keepIn K (.ref f111) = true)
    (a112 : PySem.W.nsIn K mainGlobals "placed_by" = some (some (.ref f112)))
    (l112 : K.lookup f112 = some ⟨oc112, od112, .func (PySem.W.fnOf "placed_by" "placed_by" (defArgs sPlacedBy) (defBody sPlacedBy) (defScope sPlacedBy) .none kV112 dc112 pm112 an112 cd112 ct112), sl112⟩)
    (c112 : PySem.W.codeIn K cd112 "placed_by" = true)
    (k112 : PySem.W.keepIn K (.ref f112) = true)
    (a113 : PySem.W.nsIn K mainGlobals "need_stand" = some (some (.ref f113)))
    (l113 : K.lookup f113 = some ⟨oc113, od113, .func (PySem.W.fnOf "need_stand" "need_stand" (defArgs sNeedSt) (defBody sNeedSt) (defScope sNeedSt) .none kV113 dc113 pm113 an113 cd113 ct113), sl113⟩)
    (c113 : PySem.W.codeIn K cd113 "need_stand" = true)
    (k113 : PySem.W.keepIn K (.ref f113) = true)
    (a114 : PySem.W.findIn K (.ref C) "__init__" = some (some (.ref f114)))
    (i114 : PySem.W.isFn K (.ref f114) = true)
    (l114 : K.lookup f114 = some ⟨oc114, od114, .func (PySem.W.fnOf "__init__" "Path.__init__" (defArgs sInit) (defBody sInit) (defScope sInit) .none kV114 dc114 pm114 an114 cd114 ct114), sl114⟩)
    (c114 : PySem.W.codeIn K cd114 "Path.__init__" = true)
    (k114 : PySem.W.keepIn K (.ref f114) = true)
    (a115 : PySem.W.findIn K (.ref C) "walkers" = some (some (.ref f115)))
    (i115 : PySem.W.isFn K (.ref f115) = true)
    (l115 : K.lookup f115 = some ⟨oc115, od115, .func (PySem.W.fnOf "walkers" "Path.walkers" (defArgs sWalkers) (defBody sWalkers) (defScope sWalkers) .none kV115 dc115 pm115 an115 cd115 ct115), sl115⟩)
    (c115 : PySem.W.codeIn K cd115 "Path.walkers" = true)
    (k115 : PySem.W.keepIn K (.ref f115) = true)
    (a116 : PySem.W.findIn K (.ref C) "__eq__" = some (some (.ref f116)))
    (i116 : PySem.W.isFn K (.ref f116) = true)
    (l116 : K.lookup f116 = some ⟨oc116, od116, .func (PySem.W.fnOf "__eq__" "Path.__eq__" (defArgs sEq) (defBody sEq) (defScope sEq) .none kV116 dc116 pm116 an116 cd116 ct116), sl116⟩)
    (c116 : PySem.W.codeIn K cd116 "Path.__eq__" = true)
    (k116 : PySem.W.keepIn K (.ref f116) = true)
    (a117 : PySem.W.nsIn K mainGlobals "walkers_of" = some (some (.ref f117)))
    (l117 : K.lookup f117 = some ⟨oc117, od117, .func (PySem.W.fnOf "walkers_of" "walkers_of" (defArgs sWalkersOf) (defBody sWalkersOf) (defScope sWalkersOf) .none kV117 dc117 pm117 an117 cd117 ct117), sl117⟩)
    (c117 : PySem.W.codeIn K cd117 "walkers_of" = true)
    (k117 : PySem.W.keepIn K (.ref f117) = true)
    (a118 : PySem.W.nsIn K mainGlobals "nets_by_total" = some (some (.ref f118)))
    (l118 : K.lookup f118 = some ⟨oc118, od118, .func (PySem.W.fnOf "nets_by_total" "nets_by_total" (defArgs sNetsTotal) (defBody sNetsTotal) (defScope sNetsTotal) .none kV118 dc118 pm118 an118 cd118 ct118), sl118⟩)
    (c118 : PySem.W.codeIn K cd118 "nets_by_total" = true)
    (k118 : PySem.W.keepIn K (.ref f118) = true)
    (a119 : PySem.W.nsIn K mainGlobals "joint_path" = some (some (.ref f119)))
    (l119 : K.lookup f119 = some ⟨oc119, od119, .func (PySem.W.fnOf "joint_path" "joint_path" (defArgs sJointPath) (defBody sJointPath) (defScope sJointPath) .none kV119 dc119 pm119 an119 cd119 ct119), sl119⟩)
    (c119 : PySem.W.codeIn K cd119 "joint_path" = true)
    (k119 : PySem.W.keepIn K (.ref f119) = true)
    (a120 : PySem.W.nsIn K mainGlobals "names_of_both" = some (some (.ref f120)))
    (l120 : K.lookup f120 = some ⟨oc120, od120, .func (PySem.W.fnOf "names_of_both" "names_of_both" (defArgs sBoth) (defBody sBoth) (defScope sBoth) .none kV120 dc120 pm120 an120 cd120 ct120), sl120⟩)
    (c120 : PySem.W.codeIn K cd120 "names_of_both" = true)
    (k120 : PySem.W.keepIn K (.ref f120) = true)
    (a121 : PySem.W.nsIn K mainGlobals "joined" = some (some (.ref f121)))
    (l121 : K.lookup f121 = some ⟨oc121, od121, .func (PySem.W.fnOf "joined" "joined" (defArgs sJoined) (defBody sJoined) (defScope sJoined) .none kV121 dc121 pm121 an121 cd121 ct121), sl121⟩)
    (c121 : PySem.W.codeIn K cd121 "joined" = true)
    (k121 : PySem.W.keepIn K (.ref f121) = true)
    (a122 : PySem.W.nsIn K mainGlobals "joint_clash" = some (some (.ref f122)))
    (l122 : K.lookup f122 = some ⟨oc122, od122, .func (PySem.W.fnOf "joint_clash" "joint_clash" (defArgs sJointClash) (defBody sJointClash) (defScope sJointClash) .none kV122 dc122 pm122 an122 cd122 ct122), sl122⟩)
    (c122 : PySem.W.codeIn K cd122 "joint_clash" = true)
    (k122 : PySem.W.keepIn K (.ref f122) = true)
    (a123 : PySem.W.nsIn K mainGlobals "names_to_join" = some (some (.ref f123)))
    (l123 : K.lookup f123 = some ⟨oc123, od123, .func (PySem.W.fnOf "names_to_join" "names_to_join" (defArgs sToJoin) (defBody sToJoin) (defScope sToJoin) .none kV123 dc123 pm123 an123 cd123 ct123), sl123⟩)
    (c123 : PySem.W.codeIn K cd123 "names_to_join" = true)
    (k123 : PySem.W.keepIn K (.ref f123) = true)
    (a124 : PySem.W.nsIn K mainGlobals "need_sums" = some (some (.ref f124)))
    (l124 : K.lookup f124 = some ⟨oc124, od124, .func (PySem.W.fnOf "need_sums" "need_sums" (defArgs sNeedSums) (defBody sNeedSums) (defScope sNeedSums) .none kV124 dc124 pm124 an124 cd124 ct124), sl124⟩)
    (c124 : PySem.W.codeIn K cd124 "need_sums" = true)
    (k124 : PySem.W.keepIn K (.ref f124) = true)
    (a125 : PySem.W.nsIn K mainGlobals "first_joint_clash" = some (some (.ref f125)))
    (l125 : K.lookup f125 = some ⟨oc125, od125, .func (PySem.W.fnOf "first_joint_clash" "first_joint_clash" (defArgs sFirstJoint) (defBody sFirstJoint) (defScope sFirstJoint) .none kV125 dc125 pm125 an125 cd125 ct125), sl125⟩)
    (c125 : PySem.W.codeIn K cd125 "first_joint_clash" = true)
    (k125 : PySem.W.keepIn K (.ref f125) = true)
    (a126 : PySem.W.nsIn K mainGlobals "_law_spring" = some (some (.ref f126)))
    (l126 : K.lookup f126 = some ⟨oc126, od126, .func (PySem.W.fnOf "_law_spring" "_law_spring" (defArgs sSpring) (defBody sSpring) (defScope sSpring) .none kV126 dc126 pm126 an126 cd126 ct126), sl126⟩)
    (c126 : PySem.W.codeIn K cd126 "_law_spring" = true)
    (k126 : PySem.W.keepIn K (.ref f126) = true)
    (a127 : PySem.W.nsIn K mainGlobals "_law_draw" = some (some (.ref f127)))
    (l127 : K.lookup f127 = some ⟨oc127, od127, .func (PySem.W.fnOf "_law_draw" "_law_draw" (defArgs sDraw) (defBody sDraw) (defScope sDraw) .none kV127 dc127 pm127 an127 cd127 ct127), sl127⟩)
    (c127 : PySem.W.codeIn K cd127 "_law_draw" = true)
    (k127 : PySem.W.keepIn K (.ref f127) = true)
    (a128 : PySem.W.nsIn K mainGlobals "_law_pick" = some (some (.ref f128)))
    (l128 : K.lookup f128 = some ⟨oc128, od128, .func (PySem.W.fnOf "_law_pick" "_law_pick" (defArgs sPick) (defBody sPick) (defScope sPick) .none kV128 dc128 pm128 an128 cd128 ct128), sl128⟩)
    (c128 : PySem.W.codeIn K cd128 "_law_pick" = true)
    (k128 : PySem.W.keepIn K (.ref f128) = true)
    (a129 : PySem.W.nsIn K mainGlobals "_law_mixed" = some (some (.ref f129)))
    (l129 : K.lookup f129 = some ⟨oc129, od129, .func (PySem.W.fnOf "_law_mixed" "_law_mixed" (defArgs sMixed) (defBody sMixed) (defScope sMixed) .none kV129 dc129 pm129 an129 cd129 ct129), sl129⟩)
    (c129 : PySem.W.codeIn K cd129 "_law_mixed" = true)
    (k129 : PySem.W.keepIn K (.ref f129) = true)
    (a130 : PySem.W.nsIn K mainGlobals "_law_same" = some (some (.ref f130)))
    (l130 : K.lookup f130 = some ⟨oc130, od130, .func (PySem.W.fnOf "_law_same" "_law_same" (defArgs sSame) (defBody sSame) (defScope sSame) .none kV130 dc130 pm130 an130 cd130 ct130), sl130⟩)
    (c130 : PySem.W.codeIn K cd130 "_law_same" = true)
    (k130 : PySem.W.keepIn K (.ref f130) = true)
    (a131 : PySem.W.nsIn K mainGlobals "_law_w_names" = some (some (.ref f131)))
    (l131 : K.lookup f131 = some ⟨oc131, od131, .func (PySem.W.fnOf "_law_w_names" "_law_w_names" (defArgs sNames) (defBody sNames) (defScope sNames) .none kV131 dc131 pm131 an131 cd131 ct131), sl131⟩)
    (c131 : PySem.W.codeIn K cd131 "_law_w_names" = true)
    (k131 : PySem.W.keepIn K (.ref f131) = true)
    (a132 : PySem.W.nsIn K mainGlobals "_law_w_first" = some (some (.ref f132)))
    (l132 : K.lookup f132 = some ⟨oc132, od132, .func (PySem.W.fnOf "_law_w_first" "_law_w_first" (defArgs sWFirst) (defBody sWFirst) (defScope sWFirst) .none kV132 dc132 pm132 an132 cd132 ct132), sl132⟩)
    (c132 : PySem.W.codeIn K cd132 "_law_w_first" = true)
    (k132 : PySem.W.keepIn K (.ref f132) = true)
    (a133 : PySem.W.nsIn K mainGlobals "_law_w_rest" = some (some (.ref f133)))
    (l133 : K.lookup f133 = some ⟨oc133, od133, .func (PySem.W.fnOf "_law_w_rest" "_law_w_rest" (defArgs sWRest) (defBody sWRest) (defScope sWRest) .none kV133 dc133 pm133 an133 cd133 ct133), sl133⟩)
    (c133 : PySem.W.codeIn K cd133 "_law_w_rest" = true)
    (k133 : PySem.W.keepIn K (.ref f133) = true)
    (a134 : PySem.W.nsIn K mainGlobals "_law_w_ahead" = some (some (.ref f134)))
    (l134 : K.lookup f134 = some ⟨oc134, od134, .func (PySem.W.fnOf "_law_w_ahead" "_law_w_ahead" (defArgs sWAhead) (defBody sWAhead) (defScope sWAhead) .none kV134 dc134 pm134 an134 cd134 ct134), sl134⟩)
    (c134 : PySem.W.codeIn K cd134 "_law_w_ahead" = true)
    (k134 : PySem.W.keepIn K (.ref f134) = true)
    (a135 : PySem.W.nsIn K mainGlobals "_law_w_over" = some (some (.ref f135)))
    (l135 : K.lookup f135 = some ⟨oc135, od135, .func (PySem.W.fnOf "_law_w_over" "_law_w_over" (defArgs sWOver) (defBody sWOver) (defScope sWOver) .none kV135 dc135 pm135 an135 cd135 ct135), sl135⟩)
    (c135 : PySem.W.codeIn K cd135 "_law_w_over" = true)
    (k135 : PySem.W.keepIn K (.ref f135) = true)
    (a136 : PySem.W.nsIn K mainGlobals "_law_w_run" = some (some (.ref f136)))
    (l136 : K.lookup f136 = some ⟨oc136, od136, .func (PySem.W.fnOf "_law_w_run" "_law_w_run" (defArgs sWRun) (defBody sWRun) (defScope sWRun) .none kV136 dc136 pm136 an136 cd136 ct136), sl136⟩)
    (c136 : PySem.W.codeIn K cd136 "_law_w_run" = true)
    (k136 : PySem.W.keepIn K (.ref f136) = true)
    (a137 : PySem.W.nsIn K mainGlobals "_law_w_net" = some (some (.ref f137)))
    (l137 : K.lookup f137 = some ⟨oc137, od137, .func (PySem.W.fnOf "_law_w_net" "_law_w_net" (defArgs sWNet) (defBody sWNet) (defScope sWNet) .none kV137 dc137 pm137 an137 cd137 ct137), sl137⟩)
    (c137 : PySem.W.codeIn K cd137 "_law_w_net" = true)
    (k137 : PySem.W.keepIn K (.ref f137) = true)
    (a138 : PySem.W.nsIn K mainGlobals "_law_w_stand" = some (some (.ref f138)))
    (l138 : K.lookup f138 = some ⟨oc138, od138, .func (PySem.W.fnOf "_law_w_stand" "_law_w_stand" (defArgs sWStand) (defBody sWStand) (defScope sWStand) .none kV138 dc138 pm138 an138 cd138 ct138), sl138⟩)
    (c138 : PySem.W.codeIn K cd138 "_law_w_stand" = true)
    (k138 : PySem.W.keepIn K (.ref f138) = true)
    (a139 : PySem.W.nsIn K mainGlobals "_law_w_near" = some (some (.ref f139)))
    (l139 : K.lookup f139 = some ⟨oc139, od139, .func (PySem.W.fnOf "_law_w_near" "_law_w_near" (defArgs sWNear) (defBody sWNear) (defScope sWNear) .none kV139 dc139 pm139 an139 cd139 ct139), sl139⟩)
    (c139 : PySem.W.codeIn K cd139 "_law_w_near" = true)
    (k139 : PySem.W.keepIn K (.ref f139) = true)
    (a140 : PySem.W.nsIn K mainGlobals "_law_w_handed" = some (some (.ref f140)))
    (l140 : K.lookup f140 = some ⟨oc140, od140, .func (PySem.W.fnOf "_law_w_handed" "_law_w_handed" (defArgs sWHanded) (defBody sWHanded) (defScope sWHanded) .none kV140 dc140 pm140 an140 cd140 ct140), sl140⟩)
    (c140 : PySem.W.codeIn K cd140 "_law_w_handed" = true)
    (k140 : PySem.W.keepIn K (.ref f140) = true)
    (a141 : PySem.W.nsIn K mainGlobals "_law_w_is_stand" = some (some (.ref f141)))
    (l141 : K.lookup f141 = some ⟨oc141, od141, .func (PySem.W.fnOf "_law_w_is_stand" "_law_w_is_stand" (defArgs sWIsSt) (defBody sWIsSt) (defScope sWIsSt) .none kV141 dc141 pm141 an141 cd141 ct141), sl141⟩)
    (c141 : PySem.W.codeIn K cd141 "_law_w_is_stand" = true)
    (k141 : PySem.W.keepIn K (.ref f141) = true)
    (a142 : PySem.W.nsIn K mainGlobals "_law_w_no_stands" = some (some (.ref f142)))
    (l142 : K.lookup f142 = some ⟨oc142, od142, .func (PySem.W.fnOf "_law_w_no_stands" "_law_w_no_stands" (defArgs sNoSt) (defBody sNoSt) (defScope sNoSt) .none kV142 dc142 pm142 an142 cd142 ct142), sl142⟩)
    (c142 : PySem.W.codeIn K cd142 "_law_w_no_stands" = true)
    (k142 : PySem.W.keepIn K (.ref f142) = true)
    (a143 : PySem.W.nsIn K mainGlobals "_law_w_no_paths" = some (some (.ref f143)))
    (l143 : K.lookup f143 = some ⟨oc143, od143, .func (PySem.W.fnOf "_law_w_no_paths" "_law_w_no_paths" (defArgs sNoPa) (defBody sNoPa) (defScope sNoPa) .none kV143 dc143 pm143 an143 cd143 ct143), sl143⟩)
    (c143 : PySem.W.codeIn K cd143 "_law_w_no_paths" = true)
    (k143 : PySem.W.keepIn K (.ref f143) = true)
    (a144 : PySem.W.nsIn K mainGlobals "_law_w_pairs" = some (some (.ref f144)))
    (l144 : K.lookup f144 = some ⟨oc144, od144, .func (PySem.W.fnOf "_law_w_pairs" "_law_w_pairs" (defArgs sWPairs) (defBody sWPairs) (defScope sWPairs) .none kV144 dc144 pm144 an144 cd144 ct144), sl144⟩)
    (c144 : PySem.W.codeIn K cd144 "_law_w_pairs" = true)
    (k144 : PySem.W.keepIn K (.ref f144) = true)
    (a145 : PySem.W.nsIn K mainGlobals "_law_w_by_nets" = some (some (.ref f145)))
    (l145 : K.lookup f145 = some ⟨oc145, od145, .func (PySem.W.fnOf "_law_w_by_nets" "_law_w_by_nets" (defArgs sWByNets) (defBody sWByNets) (defScope sWByNets) .none kV145 dc145 pm145 an145 cd145 ct145), sl145⟩)
    (c145 : PySem.W.codeIn K cd145 "_law_w_by_nets" = true)
    (k145 : PySem.W.keepIn K (.ref f145) = true)
    (a146 : PySem.W.nsIn K mainGlobals "_law_w_table" = some (some (.ref f146)))
    (l146 : K.lookup f146 = some ⟨oc146, od146, .func (PySem.W.fnOf "_law_w_table" "_law_w_table" (defArgs sWTable) (defBody sWTable) (defScope sWTable) .none kV146 dc146 pm146 an146 cd146 ct146), sl146⟩)
    (c146 : PySem.W.codeIn K cd146 "_law_w_table" = true)
    (k146 : PySem.W.keepIn K (.ref f146) = true)
    (a147 : PySem.W.nsIn K mainGlobals "_law_w_of_some" = some (some (.ref f147)))
    (l147 : K.lookup f147 = some ⟨oc147, od147, .func (PySem.W.fnOf "_law_w_of_some" "_law_w_of_some" (defArgs sWOfSome) (defBody sWOfSome) (defScope sWOfSome) .none kV147 dc147 pm147 an147 cd147 ct147), sl147⟩)
    (c147 : PySem.W.codeIn K cd147 "_law_w_of_some" = true)
    (k147 : PySem.W.keepIn K (.ref f147) = true)
    (a148 : PySem.W.nsIn K mainGlobals "_law_w_any" = some (some (.ref f148)))
    (l148 : K.lookup f148 = some ⟨oc148, od148, .func (PySem.W.fnOf "_law_w_any" "_law_w_any" (defArgs sWAny) (defBody sWAny) (defScope sWAny) .none kV148 dc148 pm148 an148 cd148 ct148), sl148⟩)
    (c148 : PySem.W.codeIn K cd148 "_law_w_any" = true)
    (k148 : PySem.W.keepIn K (.ref f148) = true)
    (a149 : PySem.W.nsIn K mainGlobals "_law_met" = some (some (.ref f149)))
    (l149 : K.lookup f149 = some ⟨oc149, od149, .func (PySem.W.fnOf "_law_met" "_law_met" (defArgs sMet) (defBody sMet) (defScope sMet) .none kV149 dc149 pm149 an149 cd149 ct149), sl149⟩)
    (c149 : PySem.W.codeIn K cd149 "_law_met" = true)
    (k149 : PySem.W.keepIn K (.ref f149) = true)
    (a150 : PySem.W.nsIn K mainGlobals "_law_sums" = some (some (.ref f150)))
    (l150 : K.lookup f150 = some ⟨oc150, od150, .func (PySem.W.fnOf "_law_sums" "_law_sums" (defArgs sWSums) (defBody sWSums) (defScope sWSums) .none kV150 dc150 pm150 an150 cd150 ct150), sl150⟩)
    (c150 : PySem.W.codeIn K cd150 "_law_sums" = true)
    (k150 : PySem.W.keepIn K (.ref f150) = true)
    (a151 : PySem.W.nsIn K mainGlobals "_law_first_two" = some (some (.ref f151)))
    (l151 : K.lookup f151 = some ⟨oc151, od151, .func (PySem.W.fnOf "_law_first_two" "_law_first_two" (defArgs sWTwo) (defBody sWTwo) (defScope sWTwo) .none kV151 dc151 pm151 an151 cd151 ct151), sl151⟩)
    (c151 : PySem.W.codeIn K cd151 "_law_first_two" = true)
    (k151 : PySem.W.keepIn K (.ref f151) = true)
    (a152 : PySem.W.nsIn K mainGlobals "_law_back_right" = some (some (.ref f152)))
    (l152 : K.lookup f152 = some ⟨oc152, od152, .func (PySem.W.fnOf "_law_back_right" "_law_back_right" (defArgs sBack) (defBody sBack) (defScope sBack) .none kV152 dc152 pm152 an152 cd152 ct152), sl152⟩)
    (c152 : PySem.W.codeIn K cd152 "_law_back_right" = true)
    (k152 : PySem.W.keepIn K (.ref f152) = true)
    (a153 : PySem.W.nsIn K mainGlobals "_law_refused_right" = some (some (.ref f153)))
    (l153 : K.lookup f153 = some ⟨oc153, od153, .func (PySem.W.fnOf "_law_refused_right" "_law_refused_right" (defArgs sRefused) (defBody sRefused) (defScope sRefused) .none kV153 dc153 pm153 an153 (.ref ct) ct153), sl153⟩)
    (c153 : PySem.W.codeIn K (.ref ct) "_law_refused_right" = true)
    (k153 : PySem.W.keepIn K (.ref f153) = true)
    (a154 : PySem.W.nsIn K mainGlobals "law" = some (some (.ref f154)))
    (l154 : K.lookup f154 = some ⟨oc154, od154, .func (PySem.W.fnOf "law" "law" (defArgs sLaw) (defBody sLaw) (defScope sLaw) .none kV154 dc154 pm154 an154 cd154 ct154), sl154⟩)
    (c154 : PySem.W.codeIn K cd154 "law" = true)
    (k154 : PySem.W.keepIn K (.ref f154) = true)
    (lct : K.lookup ct = some ⟨occt, odct, .fields vsct, slct⟩)
    (v11 : vsct[11]? = some (.ref Pt))
    (tbn : K.lookup Pt = none)
    (pg : PySem.W.plainGet K C Str.empty = true)
    (hd : PySem.W.hasDictIn K C = true)
    (po : PySem.W.plainOver K C = true)
    (sa : PySem.W.findIn K (.ref C) "__setattr__" = some (some (.builtin "object.__setattr__")))
    (mk : PySem.W.makesIn K C = true)
    (kc : PySem.W.keepIn K (.ref C) = true)
    (nN : PySem.W.findIn K (.ref C) "_names" = some none)
    (cls1 : PySem.W.findIn K (.ref C) "__class__" = some (some (.builtin "object.__class__")))
    (spec : PySem.W.specialIn K (.builtin "object.__class__") "__get__" = some (some (.builtin "getset_descriptor.__get__")))
    (tak : PySem.W.takesIn K (.builtin "object.__class__") = some true)
    (mo : PySem.W.mroIn K C (.type "object") = some true)
    (icC : PySem.W.isClsIn K C = true)
    (tyC : PySem.W.typeIn K (.ref C) = some (.type "type"))
    (neF : PySem.W.findIn K (.ref C) "__ne__" = some (some (.builtin "object.__ne__")))
    (z_isinstance : PySem.W.nsIn K mainGlobals "isinstance" = some none)
    (z_list : PySem.W.nsIn K mainGlobals "list" = some none)
    (z_tuple : PySem.W.nsIn K mainGlobals "tuple" = some none)
    (z_str : PySem.W.nsIn K mainGlobals "str" = some none)
    (z_len : PySem.W.nsIn K mainGlobals "len" = some none)
    (z_all : PySem.W.nsIn K mainGlobals "all" = some none)
    (z_any : PySem.W.nsIn K mainGlobals "any" = some none)
    (z_enumerate : PySem.W.nsIn K mainGlobals "enumerate" = some none)
    (z_int : PySem.W.nsIn K mainGlobals "int" = some none)
    (z_range : PySem.W.nsIn K mainGlobals "range" = some none)
    (z_dict : PySem.W.nsIn K mainGlobals "dict" = some none)
    (z_bool : PySem.W.nsIn K mainGlobals "bool" = some none)
    (z_zip : PySem.W.nsIn K mainGlobals "zip" = some none)
    (z_sum : PySem.W.nsIn K mainGlobals "sum" = some none)
    (z_sorted : PySem.W.nsIn K mainGlobals "sorted" = some none)
    (z_repr : PySem.W.nsIn K mainGlobals "repr" = some none)
    (v1 : PySem.W.nsIn K mainGlobals "FIRST_SIGNS" = some (some (.str "abcdefghijklmnopqrstuvwxyz" t1)))
    (v2 : PySem.W.nsIn K mainGlobals "LATER_SIGNS" = some (some (.str "abcdefghijklmnopqrstuvwxyz0123456789" t2)))
    (v3 : PySem.W.nsIn K mainGlobals "LONGEST_NAME" = some (some (.int 8 t3)))
    (xtp : PySem.W.nsIn K cStatics "thirdparty.any" = some none)
    (xgS : PySem.W.nsIn K mainGlobals "super" = some none)
    (xtop : (P.main.scope.names.lookup ("super" : Str)).isSome = false)
    (xL50 : K.lookup C50 = some (excClassObj nm50 q50 C50 N50 bs50 bm50 true sn50 sub50 ab50 col50 dd50 m050 m150 m250 m350 m550 "ValueError.__new__"))
    (xR50 : PySem.HandSPX.refsVE bm50 = true)
    (xi50 : PySem.W.excInitIn K C50 [.type "ValueError", .type "Exception", .type "BaseException", .type "object"] "ValueError.__new__" = true)
    (xs50 : PySem.W.ks_superIn K C50 C50 "__init__" = some (some (.builtin "ValueError.__init__")))
    (xV50 : PySem.W.subIn K (.ref C50) (.type "ValueError") = some true)
    (xM50 : PySem.W.mroIn K C50 (.ref C50) = some true)
    (xsa50 : PySem.W.findIn K (.ref C50) "__setattr__" = some (some (.builtin "object.__setattr__")))
    (xga50 : PySem.W.findIn K (.ref C50) "__getattribute__" = some (some (.builtin "BaseException.__getattribute__")))
    (xgg50 : PySem.W.findIn K (.ref C50) "__getattr__" = some none)
    (xno50 : PySem.W.findIn K (.ref C50) "index" = some none)
    (xtC50 : PySem.W.typeIn K (.ref e50) = some (.type "function"))
    (xkC50 : PySem.W.keepIn K (.ref C50) = true)
    (xeC50 : PySem.W.subIn K (.ref C50) (.type "BaseException") = some true)
    (xyC50 : PySem.W.typeIn K (.ref C50) = some (.type "type"))
    (xhC50 : PySem.W.hasDictIn K C50 = true)
    (xic50 : PySem.W.isClsIn K C50 = true)
    (xss50 : PySem.W.subIn K (.ref C50) (.ref C50) = some true)
    (le50 : K.lookup e50 = some ⟨oce50, ode50, .func (PySem.W.ksFn "__init__" "BadWalkers.__init__" (PySem.XW.xA "index" ⟨6, 17, 6, 21⟩ ⟨6, 23, 6, 28⟩) [PySem.XW.xB1 "no list of two or more unlike names" ⟨7, 8, 7, 13⟩ ⟨7, 8, 7, 15⟩ ⟨7, 8, 7, 24⟩ ⟨7, 25, 7, 62⟩ ⟨7, 8, 7, 63⟩ ⟨7, 8, 7, 63⟩, PySem.XW.xB2 "index" ⟨8, 8, 8, 12⟩ ⟨8, 8, 8, 18⟩ ⟨8, 21, 8, 26⟩ ⟨8, 8, 8, 26⟩] (PySem.XW.xS "index") .none .none dce50 pme50 ane50 (.ref cda50) cte50 cc50), sle50⟩)
    (ce50 : PySem.W.codeIn K (.ref cda50) "BadWalkers.__init__" = true)
    (x150 : K.lookup cda50 = some ⟨ccl50, cdd50, .fields vs50, ccs50⟩)
    (x250 : vs50[2]? = some (.str file50 tf50))
    (x350 : ((P.main.file : Str) == file50) = true)
    (x450 : K.lookup cc50 = some ⟨cl50, cld50, .cell (some (.ref C50)), csl50⟩)
    (xL51 : K.lookup C51 = some (excClassObj nm51 q51 C51 N51 bs51 bm51 true sn51 sub51 ab51 col51 dd51 m051 m151 m251 m351 m551 "ValueError.__new__"))
    (xR51 : PySem.HandSPX.refsVE bm51 = true)
    (xi51 : PySem.W.excInitIn K C51 [.type "ValueError", .type "Exception", .type "BaseException", .type "object"] "ValueError.__new__" = true)
    (xs51 : PySem.W.ks_superIn K C51 C51 "__init__" = some (some (.builtin "ValueError.__init__")))
    (xV51 : PySem.W.subIn K (.ref C51) (.type "ValueError") = some true)
    (xM51 : PySem.W.mroIn K C51 (.ref C51) = some true)
    (xsa51 : PySem.W.findIn K (.ref C51) "__setattr__" = some (some (.builtin "object.__setattr__")))
    (xga51 : PySem.W.findIn K (.ref C51) "__getattribute__" = some (some (.builtin "BaseException.__getattribute__")))
    (xgg51 : PySem.W.findIn K (.ref C51) "__getattr__" = some none)
    (xno51 : PySem.W.findIn K (.ref C51) "thing" = some none)
    (xtC51 : PySem.W.typeIn K (.ref e51) = some (.type "function"))
    (xkC51 : PySem.W.keepIn K (.ref C51) = true)
    (xeC51 : PySem.W.subIn K (.ref C51) (.type "BaseException") = some true)
    (xyC51 : PySem.W.typeIn K (.ref C51) = some (.type "type"))
    (xhC51 : PySem.W.hasDictIn K C51 = true)
    (xic51 : PySem.W.isClsIn K C51 = true)
    (xss51 : PySem.W.subIn K (.ref C51) (.ref C51) = some true)
    (le51 : K.lookup e51 = some ⟨oce51, ode51, .func (PySem.W.ksFn "__init__" "BadPath.__init__" (PySem.XW.xA "thing" ⟨11, 17, 11, 21⟩ ⟨11, 23, 11, 28⟩) [PySem.XW.xB1 "no path" ⟨12, 8, 12, 13⟩ ⟨12, 8, 12, 15⟩ ⟨12, 8, 12, 24⟩ ⟨12, 25, 12, 34⟩ ⟨12, 8, 12, 35⟩ ⟨12, 8, 12, 35⟩, PySem.XW.xB2 "thing" ⟨13, 8, 13, 12⟩ ⟨13, 8, 13, 18⟩ ⟨13, 21, 13, 26⟩ ⟨13, 8, 13, 26⟩] (PySem.XW.xS "thing") .none .none dce51 pme51 ane51 (.ref cda51) cte51 cc51), sle51⟩)
    (ce51 : PySem.W.codeIn K (.ref cda51) "BadPath.__init__" = true)
    (x151 : K.lookup cda51 = some ⟨ccl51, cdd51, .fields vs51, ccs51⟩)
    (x251 : vs51[2]? = some (.str file51 tf51))
    (x351 : ((P.main.file : Str) == file51) = true)
    (x451 : K.lookup cc51 = some ⟨cl51, cld51, .cell (some (.ref C51)), csl51⟩)
    (xL52 : K.lookup C52 = some (excClassObj nm52 q52 C52 N52 bs52 bm52 true sn52 sub52 ab52 col52 dd52 m052 m152 m252 m352 m552 "ValueError.__new__"))
    (xR52 : PySem.HandSPX.refsVE bm52 = true)
    (xi52 : PySem.W.excInitIn K C52 [.type "ValueError", .type "Exception", .type "BaseException", .type "object"] "ValueError.__new__" = true)
    (xs52 : PySem.W.ks_superIn K C52 C52 "__init__" = some (some (.builtin "ValueError.__init__")))
    (xV52 : PySem.W.subIn K (.ref C52) (.type "ValueError") = some true)
    (xM52 : PySem.W.mroIn K C52 (.ref C52) = some true)
    (xsa52 : PySem.W.findIn K (.ref C52) "__setattr__" = some (some (.builtin "object.__setattr__")))
    (xga52 : PySem.W.findIn K (.ref C52) "__getattribute__" = some (some (.builtin "BaseException.__getattribute__")))
    (xgg52 : PySem.W.findIn K (.ref C52) "__getattr__" = some none)
    (xno52 : PySem.W.findIn K (.ref C52) "stand" = some none)
    (xtC52 : PySem.W.typeIn K (.ref e52) = some (.type "function"))
    (xkC52 : PySem.W.keepIn K (.ref C52) = true)
    (xeC52 : PySem.W.subIn K (.ref C52) (.type "BaseException") = some true)
    (xyC52 : PySem.W.typeIn K (.ref C52) = some (.type "type"))
    (xhC52 : PySem.W.hasDictIn K C52 = true)
    (xic52 : PySem.W.isClsIn K C52 = true)
    (xss52 : PySem.W.subIn K (.ref C52) (.ref C52) = some true)
    (le52 : K.lookup e52 = some ⟨oce52, ode52, .func (PySem.W.ksFn "__init__" "BadStand.__init__" (PySem.XW.xA "stand" ⟨16, 17, 16, 21⟩ ⟨16, 23, 16, 28⟩) [PySem.XW.xB1 "no stand of the path" ⟨17, 8, 17, 13⟩ ⟨17, 8, 17, 15⟩ ⟨17, 8, 17, 24⟩ ⟨17, 25, 17, 47⟩ ⟨17, 8, 17, 48⟩ ⟨17, 8, 17, 48⟩, PySem.XW.xB2 "stand" ⟨18, 8, 18, 12⟩ ⟨18, 8, 18, 18⟩ ⟨18, 21, 18, 26⟩ ⟨18, 8, 18, 26⟩] (PySem.XW.xS "stand") .none .none dce52 pme52 ane52 (.ref cda52) cte52 cc52), sle52⟩)
    (ce52 : PySem.W.codeIn K (.ref cda52) "BadStand.__init__" = true)
    (x152 : K.lookup cda52 = some ⟨ccl52, cdd52, .fields vs52, ccs52⟩)
    (x252 : vs52[2]? = some (.str file52 tf52))
    (x352 : ((P.main.file : Str) == file52) = true)
    (x452 : K.lookup cc52 = some ⟨cl52, cld52, .cell (some (.ref C52)), csl52⟩)
    (xL53 : K.lookup C53 = some (excClassObj nm53 q53 C53 N53 bs53 bm53 true sn53 sub53 ab53 col53 dd53 m053 m153 m253 m353 m553 "ValueError.__new__"))
    (xR53 : PySem.HandSPX.refsVE bm53 = true)
    (xi53 : PySem.W.excInitIn K C53 [.type "ValueError", .type "Exception", .type "BaseException", .type "object"] "ValueError.__new__" = true)
    (xs53 : PySem.W.ks_superIn K C53 C53 "__init__" = some (some (.builtin "ValueError.__init__")))
    (xV53 : PySem.W.subIn K (.ref C53) (.type "ValueError") = some true)
    (xM53 : PySem.W.mroIn K C53 (.ref C53) = some true)
    (xsa53 : PySem.W.findIn K (.ref C53) "__setattr__" = some (some (.builtin "object.__setattr__")))
    (xga53 : PySem.W.findIn K (.ref C53) "__getattribute__" = some (some (.builtin "BaseException.__getattribute__")))
    (xgg53 : PySem.W.findIn K (.ref C53) "__getattr__" = some none)
    (xno53 : PySem.W.findIn K (.ref C53) "name" = some none)
    (xtC53 : PySem.W.typeIn K (.ref e53) = some (.type "function"))
    (xkC53 : PySem.W.keepIn K (.ref C53) = true)
    (xeC53 : PySem.W.subIn K (.ref C53) (.type "BaseException") = some true)
    (xyC53 : PySem.W.typeIn K (.ref C53) = some (.type "type"))
    (xhC53 : PySem.W.hasDictIn K C53 = true)
    (xic53 : PySem.W.isClsIn K C53 = true)
    (xss53 : PySem.W.subIn K (.ref C53) (.ref C53) = some true)
    (le53 : K.lookup e53 = some ⟨oce53, ode53, .func (PySem.W.ksFn "__init__" "CommonWalker.__init__" (PySem.XW.xA "name" ⟨96, 17, 96, 21⟩ ⟨96, 23, 96, 27⟩) [PySem.XW.xB1 "a walker of both paths" ⟨97, 8, 97, 13⟩ ⟨97, 8, 97, 15⟩ ⟨97, 8, 97, 24⟩ ⟨97, 25, 97, 49⟩ ⟨97, 8, 97, 50⟩ ⟨97, 8, 97, 50⟩, PySem.XW.xB2 "name" ⟨98, 8, 98, 12⟩ ⟨98, 8, 98, 17⟩ ⟨98, 20, 98, 24⟩ ⟨98, 8, 98, 24⟩] (PySem.XW.xS "name") .none .none dce53 pme53 ane53 (.ref cda53) cte53 cc53), sle53⟩)
    (ce53 : PySem.W.codeIn K (.ref cda53) "CommonWalker.__init__" = true)
    (x153 : K.lookup cda53 = some ⟨ccl53, cdd53, .fields vs53, ccs53⟩)
    (x253 : vs53[2]? = some (.str file53 tf53))
    (x353 : ((P.main.file : Str) == file53) = true)
    (x453 : K.lookup cc53 = some ⟨cl53, cld53, .cell (some (.ref C53)), csl53⟩)
    (xL54 : K.lookup C54 = some (excClassObj nm54 q54 C54 N54 bs54 bm54 true sn54 sub54 ab54 col54 dd54 m054 m154 m254 m354 m554 "ValueError.__new__"))
    (xR54 : PySem.HandSPX.refsVE bm54 = true)
    (xi54 : PySem.W.excInitIn K C54 [.type "ValueError", .type "Exception", .type "BaseException", .type "object"] "ValueError.__new__" = true)
    (xs54 : PySem.W.ks_superIn K C54 C54 "__init__" = some (some (.builtin "ValueError.__init__")))
    (xV54 : PySem.W.subIn K (.ref C54) (.type "ValueError") = some true)
    (xM54 : PySem.W.mroIn K C54 (.ref C54) = some true)
    (xsa54 : PySem.W.findIn K (.ref C54) "__setattr__" = some (some (.builtin "object.__setattr__")))
    (xga54 : PySem.W.findIn K (.ref C54) "__getattribute__" = some (some (.builtin "BaseException.__getattribute__")))
    (xgg54 : PySem.W.findIn K (.ref C54) "__getattr__" = some none)
    (xno54 : PySem.W.findIn K (.ref C54) "sums" = some none)
    (xtC54 : PySem.W.typeIn K (.ref e54) = some (.type "function"))
    (xkC54 : PySem.W.keepIn K (.ref C54) = true)
    (xeC54 : PySem.W.subIn K (.ref C54) (.type "BaseException") = some true)
    (xyC54 : PySem.W.typeIn K (.ref C54) = some (.type "type"))
    (xhC54 : PySem.W.hasDictIn K C54 = true)
    (xic54 : PySem.W.isClsIn K C54 = true)
    (xss54 : PySem.W.subIn K (.ref C54) (.ref C54) = some true)
    (le54 : K.lookup e54 = some ⟨oce54, ode54, .func (PySem.W.ksFn "__init__" "BadSums.__init__" (PySem.XW.xA "sums" ⟨101, 17, 101, 21⟩ ⟨101, 23, 101, 27⟩) [PySem.XW.xB1 "no sums of the walkers" ⟨102, 8, 102, 13⟩ ⟨102, 8, 102, 15⟩ ⟨102, 8, 102, 24⟩ ⟨102, 25, 102, 49⟩ ⟨102, 8, 102, 50⟩ ⟨102, 8, 102, 50⟩, PySem.XW.xB2 "sums" ⟨103, 8, 103, 12⟩ ⟨103, 8, 103, 17⟩ ⟨103, 20, 103, 24⟩ ⟨103, 8, 103, 24⟩] (PySem.XW.xS "sums") .none .none dce54 pme54 ane54 (.ref cda54) cte54 cc54), sle54⟩)
    (ce54 : PySem.W.codeIn K (.ref cda54) "BadSums.__init__" = true)
    (x154 : K.lookup cda54 = some ⟨ccl54, cdd54, .fields vs54, ccs54⟩)
    (x254 : vs54[2]? = some (.str file54 tf54))
    (x354 : ((P.main.file : Str) == file54) = true)
    (x454 : K.lookup cc54 = some ⟨cl54, cld54, .cell (some (.ref C54)), csl54⟩)
    (y1 : PySem.W.exmOne K (.ref C52) (.ref C51) = some false)
    (y2 : PySem.W.exmOne K (.ref C53) (.ref C51) = some false)
    (y3 : PySem.W.exmOne K (.ref C53) (.ref C52) = some false)
    (y4 : PySem.W.exmOne K (.ref C54) (.ref C51) = some false)
    (y5 : PySem.W.exmOne K (.ref C54) (.ref C52) = some false)
    (y6 : PySem.W.exmOne K (.ref C54) (.ref C53) = some false) :
    ∃ (c Pt : Addr) (fd : FuncData), PySem.W.tabIn K "_law_refused_right" = some (c, Pt) ∧ K.lookup Pt = none ∧ (∀ (s : Shared) (v : Value), BindsTo s fd ⟨[v], []⟩ [("script", v)]) ∧ ∀ base : Heap, K.In base → base.Ns mainGlobals mg → (∃ mm, base.Ns sysModules mm) → TabB base mg c Pt → FnG P w K mg base CX0 11 fa fd ["script"] (spLaw K Pt) := by
  have tb : PySem.W.tabIn K "_law_refused_right" = some (ct, Pt) := by
    unfold PySem.W.tabIn
    rw [a153]
    show (match K.lookup f153 with | _ => _) = _
    rw [l153]
    show (match K.lookup ct with | _ => _) = _
    rw [lct]
    show (match vsct[11]? with | _ => _) = _
    rw [v11]
  have e := hfa.symm.trans (PySem.W.mg_of X G a154)
  cases e
  have B : B0 K mg := ⟨PySem.W.mg_none_of X G z_isinstance, PySem.W.mg_none_of X G z_list, PySem.W.mg_none_of X G z_tuple, PySem.W.mg_none_of X G z_str, PySem.W.mg_none_of X G z_len, PySem.W.mg_none_of X G z_all, PySem.W.mg_none_of X G z_any, PySem.W.mg_none_of X G z_enumerate, PySem.W.mg_none_of X G z_int, PySem.W.mg_none_of X G z_range, PySem.W.mg_none_of X G z_dict, PySem.W.mg_none_of X G z_bool, PySem.W.mg_none_of X G z_zip, ⟨_, PySem.W.mg_of X G v1⟩, ⟨_, PySem.W.mg_of X G v2⟩, ⟨_, PySem.W.mg_of X G v3⟩⟩
  have Z_sum := PySem.W.mg_none_of X G z_sum
  have Z_sorted := PySem.W.mg_none_of X G z_sorted
  have Z_repr := PySem.W.mg_none_of X G z_repr
  have X50 : PySem.XW.XTxt P K mg "index" C50 e50 :=
    { fne := by decide, fn1 := by decide, fS := by decide, fK := by decide, fd := by decide, bnd := fun _ _ _ _ _ _ _ _ _ _ _ _ _ => rfl,
      cls := ⟨nm50, q50, N50, bs50, bm50, sn50, sub50, ab50, col50, dd50, m050, m150, m250, m350, m550, xL50, xR50⟩, ini := xi50, sup := xs50, sV := xV50, mC := xM50, tp := xtp, gS := PySem.W.mg_none_of X G xgS, top := xtop, sa := xsa50, ga := xga50, gg := xgg50, noN := xno50, iC := xi50C, tC := xtC50,
      kC := xkC50, exC := xeC50, tyC := xyC50, hdC := xhC50, te := exm_self xeC50 xic50 xyC50 xss50,
      fn := ⟨_, _, _, _, _, _, _, _, _, _, _, _, _, _, _, _, _, _, _, _, _, _, _, le50, ce50, by decide, ⟨_, _, _, _, _, _, x150, x250, x350⟩, _, _, _, x450⟩ }
  have X51 : PySem.XW.XTxt P K mg "thing" C51 e51 :=
    { fne := by decide, fn1 := by decide, fS := by decide, fK := by decide, fd := by decide, bnd := fun _ _ _ _ _ _ _ _ _ _ _ _ _ => rfl,
      cls := ⟨nm51, q51, N51, bs51, bm51, sn51, sub51, ab51, col51, dd51, m051, m151, m251, m351, m551, xL51, xR51⟩, ini := xi51, sup := xs51, sV := xV51, mC := xM51, tp := xtp, gS := PySem.W.mg_none_of X G xgS, top := xtop, sa := xsa51, ga := xga51, gg := xgg51, noN := xno51, iC := xi51C, tC := xtC51,
      kC := xkC51, exC := xeC51, tyC := xyC51, hdC := xhC51, te := exm_self xeC51 xic51 xyC51 xss51,
      fn := ⟨_, _, _, _, _, _, _, _, _, _, _, _, _, _, _, _, _, _, _, _, _, _, _, le51, ce51, by decide, ⟨_, _, _, _, _, _, x151, x251, x351⟩, _, _, _, x451⟩ }
  have E51 : ErrAt P K mg "BadPath" "thing" C51 e51 := ⟨PySem.W.mg_of X G a51, X51⟩
  have X52 : PySem.XW.XTxt P K mg "stand" C52 e52 :=
    { fne := by decide, fn1 := by decide, fS := by decide, fK := by decide, fd := by decide, bnd := fun _ _ _ _ _ _ _ _ _ _ _ _ _ => rfl,
      cls := ⟨nm52, q52, N52, bs52, bm52, sn52, sub52, ab52, col52, dd52, m052, m152, m252, m352, m552, xL52, xR52⟩, ini := xi52, sup := xs52, sV := xV52, mC := xM52, tp := xtp, gS := PySem.W.mg_none_of X G xgS, top := xtop, sa := xsa52, ga := xga52, gg := xgg52, noN := xno52, iC := xi52C, tC := xtC52,
      kC := xkC52, exC := xeC52, tyC := xyC52, hdC := xhC52, te := exm_self xeC52 xic52 xyC52 xss52,
      fn := ⟨_, _, _, _, _, _, _, _, _, _, _, _, _, _, _, _, _, _, _, _, _, _, _, le52, ce52, by decide, ⟨_, _, _, _, _, _, x152, x252, x352⟩, _, _, _, x452⟩ }
  have E52 : ErrAt P K mg "BadStand" "stand" C52 e52 := ⟨PySem.W.mg_of X G a52, X52⟩
  have X53 : PySem.XW.XTxt P K mg "name" C53 e53 :=
    { fne := by decide, fn1 := by decide, fS := by decide, fK := by decide, fd := by decide, bnd := fun _ _ _ _ _ _ _ _ _ _ _ _ _ => rfl,
      cls := ⟨nm53, q53, N53, bs53, bm53, sn53, sub53, ab53, col53, dd53, m053, m153, m253, m353, m553, xL53, xR53⟩, ini := xi53, sup := xs53, sV := xV53, mC := xM53, tp := xtp, gS := PySem.W.mg_none_of X G xgS, top := xtop, sa := xsa53, ga := xga53, gg := xgg53, noN := xno53, iC := xi53C, tC := xtC53,
      kC := xkC53, exC := xeC53, tyC := xyC53, hdC := xhC53, te := exm_self xeC53 xic53 xyC53 xss53,
      fn := ⟨_, _, _, _, _, _, _, _, _, _, _, _, _, _, _, _, _, _, _, _, _, _, _, le53, ce53, by decide, ⟨_, _, _, _, _, _, x153, x253, x353⟩, _, _, _, x453⟩ }
  have E53 : ErrAt P K mg "CommonWalker" "name" C53 e53 := ⟨PySem.W.mg_of X G a53, X53⟩
  have X54 : PySem.XW.XTxt P K mg "sums" C54 e54 :=
    { fne := by decide, fn1 := by decide, fS := by decide, fK := by decide, fd := by decide, bnd := fun _ _ _ _ _ _ _ _ _ _ _ _ _ => rfl,
      cls := ⟨nm54, q54, N54, bs54, bm54, sn54, sub54, ab54, col54, dd54, m054, m154, m254, m354, m554, xL54, xR54⟩, ini := xi54, sup := xs54, sV := xV54, mC := xM54, tp := xtp, gS := PySem.W.mg_none_of X G xgS, top := xtop, sa := xsa54, ga := xga54, gg := xgg54, noN := xno54, iC := xi54C, tC := xtC54,
      kC := xkC54, exC := xeC54, tyC := xyC54, hdC := xhC54, te := exm_self xeC54 xic54 xyC54 xss54,
      fn := ⟨_, _, _, _, _, _, _, _, _, _, _, _, _, _, _, _, _, _, _, _, _, _, _, le54, ce54, by decide, ⟨_, _, _, _, _, _, x154, x254, x354⟩, _, _, _, x454⟩ }
  have E54 : ErrAt P K mg "BadSums" "sums" C54 e54 := ⟨PySem.W.mg_of X G a54, X54⟩
  have T : PT0 P K mg C C50 e50 := ⟨⟨pg, hd, po, sa⟩, nN, PySem.W.mg_of X G aC, PySem.W.mg_of X G a50, X50⟩
  have T1 : PT1 K C f116 := ⟨cls1, spec, tak, mo, isC_of icC tyC, a116, i116, neF⟩
  have F101 := fun_mk (st := sIsInt) l101 c101 k101
  have b101 := F101.binds (ps := ["thing"]) fun _ _ _ _ _ _ us hl => match us, hl with | [_], _ => rfl
  have g101 := PySem.W.mg_of X G a101
  have F102 := fun_mk (st := sIsList) l102 c102 k102
  have b102 := F102.binds (ps := ["thing"]) fun _ _ _ _ _ _ us hl => match us, hl with | [_], _ => rfl
  have g102 := PySem.W.mg_of X G a102
  have F103 := fun_mk (st := sIsName) l103 c103 k103
  have b103 := F103.binds (ps := ["thing"]) fun _ _ _ _ _ _ us hl => match us, hl with | [_], _ => rfl
  have g103 := PySem.W.mg_of X G a103
  have F104 := fun_mk (st := sDictOf) l104 c104 k104
  have b104 := F104.binds (ps := ["keys", "thing", "is_right"]) fun _ _ _ _ _ _ us hl => match us, hl with | [_, _, _], _ => rfl
  have g104 := PySem.W.mg_of X G a104
  have F105 := fun_mk (st := sStanding) l105 c105 k105
  have b105 := F105.binds (ps := ["names", "thing"]) fun _ _ _ _ _ _ us hl => match us, hl with | [_, _], _ => rfl
  have g105 := PySem.W.mg_of X G a105
  have F106 := fun_mk (st := sFirstPl) l106 c106 k106
  have b106 := F106.binds (ps := ["names"]) fun _ _ _ _ _ _ us hl => match us, hl with | [_], _ => rfl
  have g106 := PySem.W.mg_of X G a106
  have F107 := fun_mk (st := sPairsOf) l107 c107 k107
  have b107 := F107.binds (ps := ["names"]) fun _ _ _ _ _ _ us hl => match us, hl with | [_], _ => rfl
  have g107 := PySem.W.mg_of X G a107
  have F108 := fun_mk (st := sPairsAhead) l108 c108 k108
  have b108 := F108.binds (ps := ["names"]) fun _ _ _ _ _ _ us hl => match us, hl with | [_], _ => rfl
  have g108 := PySem.W.mg_of X G a108
  have F109 := fun_mk (st := sNetsAmong) l109 c109 k109
  have b109 := F109.binds (ps := ["names", "places"]) fun _ _ _ _ _ _ us hl => match us, hl with | [_, _], _ => rfl
  have g109 := PySem.W.mg_of X G a109
  have F110 := fun_mk (st := sNetsBy) l110 c110 k110
  have b110 := F110.binds (ps := ["names", "distances", "lap"]) fun _ _ _ _ _ _ us hl => match us, hl with | [_, _, _], _ => rfl
  have g110 := PySem.W.mg_of X G a110
  have F111 := fun_mk (st := sAddNets) l111 c111 k111
  have b111 := F111.binds (ps := ["nets", "one", "over"]) fun _ _ _ _ _ _ us hl => match us, hl with | [_, _, _], _ => rfl
  have g111 := PySem.W.mg_of X G a111
  have F112 := fun_mk (st := sPlacedBy) l112 c112 k112
  have b112 := F112.binds (ps := ["names", "nets"]) fun _ _ _ _ _ _ us hl => match us, hl with | [_, _], _ => rfl
  have g112 := PySem.W.mg_of X G a112
  have F113 := fun_mk (st := sNeedSt) l113 c113 k113
  have b113 := F113.binds (ps := ["names", "stand"]) fun _ _ _ _ _ _ us hl => match us, hl with | [_, _], _ => rfl
  have g113 := PySem.W.mg_of X G a113
  have F114 := fun_mk (st := sInit) l114 c114 k114
  have b114 := F114.binds (ps := ["self", "walkers"]) fun _ _ _ _ _ _ us hl => match us, hl with | [_, _], _ => rfl
  have F115 := fun_mk (st := sWalkers) l115 c115 k115
  have b115 := F115.binds (ps := ["self"]) fun _ _ _ _ _ _ us hl => match us, hl with | [_], _ => rfl
  have F116 := fun_mk (st := sEq) l116 c116 k116
  have b116 := F116.binds (ps := ["self", "other"]) fun _ _ _ _ _ _ us hl => match us, hl with | [_, _], _ => rfl
  have F117 := fun_mk (st := sWalkersOf) l117 c117 k117
  have b117 := F117.binds (ps := ["path"]) fun _ _ _ _ _ _ us hl => match us, hl with | [_], _ => rfl
  have g117 := PySem.W.mg_of X G a117
  have F118 := fun_mk (st := sNetsTotal) l118 c118 k118
  have b118 := F118.binds (ps := ["names", "places", "total"]) fun _ _ _ _ _ _ us hl => match us, hl with | [_, _, _], _ => rfl
  have g118 := PySem.W.mg_of X G a118
  have F119 := fun_mk (st := sJointPath) l119 c119 k119
  have b119 := F119.binds (ps := ["first", "second"]) fun _ _ _ _ _ _ us hl => match us, hl with | [_, _], _ => rfl
  have g119 := PySem.W.mg_of X G a119
  have F120 := fun_mk (st := sBoth) l120 c120 k120
  have b120 := F120.binds (ps := ["first", "second"]) fun _ _ _ _ _ _ us hl => match us, hl with | [_, _], _ => rfl
  have g120 := PySem.W.mg_of X G a120
  have F121 := fun_mk (st := sJoined) l121 c121 k121
  have b121 := F121.binds (ps := ["first", "stand", "second", "other_stand", "sums"]) fun _ _ _ _ _ _ us hl => match us, hl with | [_, _, _, _, _], _ => rfl
  have g121 := PySem.W.mg_of X G a121
  have F122 := fun_mk (st := sJointClash) l122 c122 k122
  have b122 := F122.binds (ps := ["first", "stand", "second", "other_stand", "sums"]) fun _ _ _ _ _ _ us hl => match us, hl with | [_, _, _, _, _], _ => rfl
  have g122 := PySem.W.mg_of X G a122
  have F123 := fun_mk (st := sToJoin) l123 c123 k123
  have b123 := F123.binds (ps := ["first", "stand", "second", "other_stand"]) fun _ _ _ _ _ _ us hl => match us, hl with | [_, _, _, _], _ => rfl
  have g123 := PySem.W.mg_of X G a123
  have F124 := fun_mk (st := sNeedSums) l124 c124 k124
  have b124 := F124.binds (ps := ["names", "sums"]) fun _ _ _ _ _ _ us hl => match us, hl with | [_, _], _ => rfl
  have g124 := PySem.W.mg_of X G a124
  have F125 := fun_mk (st := sFirstJoint) l125 c125 k125
  have b125 := F125.binds (ps := ["names", "places", "others", "sums"]) fun _ _ _ _ _ _ us hl => match us, hl with | [_, _, _, _], _ => rfl
  have g125 := PySem.W.mg_of X G a125
  have F126 := fun_mk (st := sSpring) l126 c126 k126
  have b126 := F126.binds (ps := ["script", "turn"]) fun _ _ _ _ _ _ us hl => match us, hl with | [_, _], _ => rfl
  have g126 := PySem.W.mg_of X G a126
  have F127 := fun_mk (st := sDraw) l127 c127 k127
  have b127 := F127.binds (ps := ["spring", "many"]) fun _ _ _ _ _ _ us hl => match us, hl with | [_, _], _ => rfl
  have g127 := PySem.W.mg_of X G a127
  have F128 := fun_mk (st := sPick) l128 c128 k128
  have b128 := F128.binds (ps := ["spring", "some"]) fun _ _ _ _ _ _ us hl => match us, hl with | [_, _], _ => rfl
  have g128 := PySem.W.mg_of X G a128
  have F129 := fun_mk (st := sMixed) l129 c129 k129
  have b129 := F129.binds (ps := ["spring", "some"]) fun _ _ _ _ _ _ us hl => match us, hl with | [_, _], _ => rfl
  have g129 := PySem.W.mg_of X G a129
  have F130 := fun_mk (st := sSame) l130 c130 k130
  have b130 := F130.binds (ps := ["found", "due"]) fun _ _ _ _ _ _ us hl => match us, hl with | [_, _], _ => rfl
  have g130 := PySem.W.mg_of X G a130
  have F131 := fun_mk (st := sNames) l131 c131 k131
  have b131 := F131.binds (ps := ["spring", "least", "most"]) fun _ _ _ _ _ _ us hl => match us, hl with | [_, _, _], _ => rfl
  have g131 := PySem.W.mg_of X G a131
  have F132 := fun_mk (st := sWFirst) l132 c132 k132
  have b132 := F132.binds (ps := ["names"]) fun _ _ _ _ _ _ us hl => match us, hl with | [_], _ => rfl
  have g132 := PySem.W.mg_of X G a132
  have F133 := fun_mk (st := sWRest) l133 c133 k133
  have b133 := F133.binds (ps := ["stand", "one", "many"]) fun _ _ _ _ _ _ us hl => match us, hl with | [_, _, _], _ => rfl
  have g133 := PySem.W.mg_of X G a133
  have F134 := fun_mk (st := sWAhead) l134 c134 k134
  have b134 := F134.binds (ps := ["stand", "one"]) fun _ _ _ _ _ _ us hl => match us, hl with | [_, _], _ => rfl
  have g134 := PySem.W.mg_of X G a134
  have F135 := fun_mk (st := sWOver) l135 c135 k135
  have b135 := F135.binds (ps := ["stand", "one"]) fun _ _ _ _ _ _ us hl => match us, hl with | [_, _], _ => rfl
  have g135 := PySem.W.mg_of X G a135
  have F136 := fun_mk (st := sWRun) l136 c136 k136
  have b136 := F136.binds (ps := ["spring", "stand", "many"]) fun _ _ _ _ _ _ us hl => match us, hl with | [_, _, _], _ => rfl
  have g136 := PySem.W.mg_of X G a136
  have F137 := fun_mk (st := sWNet) l137 c137 k137
  have b137 := F137.binds (ps := ["stand", "one", "other"]) fun _ _ _ _ _ _ us hl => match us, hl with | [_, _, _], _ => rfl
  have g137 := PySem.W.mg_of X G a137
  have F138 := fun_mk (st := sWStand) l138 c138 k138
  have b138 := F138.binds (ps := ["spring", "names", "size"]) fun _ _ _ _ _ _ us hl => match us, hl with | [_, _, _], _ => rfl
  have g138 := PySem.W.mg_of X G a138
  have F139 := fun_mk (st := sWNear) l139 c139 k139
  have b139 := F139.binds (ps := ["spring", "names", "many"]) fun _ _ _ _ _ _ us hl => match us, hl with | [_, _, _], _ => rfl
  have g139 := PySem.W.mg_of X G a139
  have F140 := fun_mk (st := sWHanded) l140 c140 k140
  have b140 := F140.binds (ps := ["spring", "some"]) fun _ _ _ _ _ _ us hl => match us, hl with | [_, _], _ => rfl
  have g140 := PySem.W.mg_of X G a140
  have F141 := fun_mk (st := sWIsSt) l141 c141 k141
  have b141 := F141.binds (ps := ["names", "thing"]) fun _ _ _ _ _ _ us hl => match us, hl with | [_, _], _ => rfl
  have g141 := PySem.W.mg_of X G a141
  have F142 := fun_mk (st := sNoSt) l142 c142 k142
  have b142 := F142.binds (ps := ["spring", "names", "stand"]) fun _ _ _ _ _ _ us hl => match us, hl with | [_, _, _], _ => rfl
  have g142 := PySem.W.mg_of X G a142
  have F143 := fun_mk (st := sNoPa) l143 c143 k143
  have b143 := F143.binds (ps := ["names"]) fun _ _ _ _ _ _ us hl => match us, hl with | [_], _ => rfl
  have g143 := PySem.W.mg_of X G a143
  have F144 := fun_mk (st := sWPairs) l144 c144 k144
  have b144 := F144.binds (ps := ["names"]) fun _ _ _ _ _ _ us hl => match us, hl with | [_], _ => rfl
  have g144 := PySem.W.mg_of X G a144
  have F145 := fun_mk (st := sWByNets) l145 c145 k145
  have b145 := F145.binds (ps := ["names", "nets"]) fun _ _ _ _ _ _ us hl => match us, hl with | [_, _], _ => rfl
  have g145 := PySem.W.mg_of X G a145
  have F146 := fun_mk (st := sWTable) l146 c146 k146
  have b146 := F146.binds (ps := ["stand"]) fun _ _ _ _ _ _ us hl => match us, hl with | [_], _ => rfl
  have g146 := PySem.W.mg_of X G a146
  have F147 := fun_mk (st := sWOfSome) l147 c147 k147
  have b147 := F147.binds (ps := ["stand", "some"]) fun _ _ _ _ _ _ us hl => match us, hl with | [_, _], _ => rfl
  have g147 := PySem.W.mg_of X G a147
  have F148 := fun_mk (st := sWAny) l148 c148 k148
  have b148 := F148.binds (ps := ["spring", "names"]) fun _ _ _ _ _ _ us hl => match us, hl with | [_, _], _ => rfl
  have g148 := PySem.W.mg_of X G a148
  have F149 := fun_mk (st := sMet) l149 c149 k149
  have b149 := F149.binds (ps := ["ask"]) fun _ _ _ _ _ _ us hl => match us, hl with | [_], _ => rfl
  have g149 := PySem.W.mg_of X G a149
  have F150 := fun_mk (st := sWSums) l150 c150 k150
  have b150 := F150.binds (ps := ["whole", "mine", "theirs"]) fun _ _ _ _ _ _ us hl => match us, hl with | [_, _, _], _ => rfl
  have g150 := PySem.W.mg_of X G a150
  have F151 := fun_mk (st := sWTwo) l151 c151 k151
  have b151 := F151.binds (ps := ["stand", "wide", "sums"]) fun _ _ _ _ _ _ us hl => match us, hl with | [_, _, _], _ => rfl
  have g151 := PySem.W.mg_of X G a151
  have F152 := fun_mk (st := sBack) l152 c152 k152
  have b152 := F152.binds (ps := ["spring", "first", "second", "whole", "mine", "theirs"]) fun _ _ _ _ _ _ us hl => match us, hl with | [_, _, _, _, _, _], _ => rfl
  have g152 := PySem.W.mg_of X G a152
  have F153 := fun_mk (st := sRefused) l153 c153 k153
  have b153 := F153.binds (ps := ["spring", "mine", "theirs"]) fun _ _ _ _ _ _ us hl => match us, hl with | [_, _, _], _ => rfl
  have g153 := PySem.W.mg_of X G a153
  have F154 := fun_mk (st := sLaw) l154 c154 k154
  have b154 := F154.binds (ps := ["script"]) fun _ _ _ _ _ _ us hl => match us, hl with | [_], _ => rfl
  have g154 := PySem.W.mg_of X G a154
  refine ⟨ct, Pt, PySem.W.fnOf "law" "law" (defArgs sLaw) (defBody sLaw) (defScope sLaw) .none kV154 dc154 pm154 an154 cd154 ct154, tb, tbn, fun s v => .of_eq rfl, fun base hKb hNs mods TB => ?_⟩
  have GI : FnOk P w K mg base (L2.CX P w) 2 f114 _ ["self", "walkers"] (spInit K C C50) := ok_init F114 B T F102 b102 g102 F103 b103 g103
  have MI : Mk K C f114 := ⟨mk, a114, i114, kc⟩
  have MW : Meth K C "walkers" f115 := ⟨a115, i115, k115⟩
  have G116 : FnOk P w K mg base CX0 1 f116 _ ["self", "other"] (spEq K C) := ok_eq F116 B T T1
  have G104 : FnOk P w K mg base CX0 2 f104 _ ["keys", "thing", "is_right"] (spDictOf K f101) := ok_dictOf F104 B F101 b101
  have G105 : FnOk P w K mg base CX0 3 f105 _ ["names", "thing"] (spStanding K) := ok_standing F105 B Z_sum F101 b101 g101 F104 b104 g104
  have G113 : FnOk P w K mg base (L2.CX P w) 4 f113 _ ["names", "stand"] (spNeedSt K C52) := ok_needSt F113 E52 G105 b105 g105 k105
  have G117 : FnOk P w K mg base (L2.CX P w) 2 f117 _ ["path"] (spWalkersOf K C C51) := ok_walkersOf F117 B T T1 E51 F115 b115 MW
  have G106 : FnOk P w K mg base CX0 1 f106 _ ["names"] (spFirstPl K) := ok_firstPl F106 B
  have G107 : FnOk P w K mg base CX0 1 f107 _ ["names"] spPairsOf := ok_pairsOf F107
  have G108 : FnOk P w K mg base CX0 1 f108 _ ["names"] spPairsAh := ok_pairsAh F108 B
  have G110 : FnOk P w K mg base CX0 2 f110 _ ["names", "distances", "lap"] spNetsBy := ok_netsBy F110 G107 b107 g107 k107 G108 b108 g108 k108
  have G109 : FnOk P w K mg base CX0 3 f109 _ ["names", "places"] spNetsAmong := ok_netsAmong F109 B G110 b110 g110 k110
  have G112 : FnOk P w K mg base CX0 2 f112 _ ["names", "nets"] spPlacedBy := ok_placedBy F112 B Z_sum G106 b106 g106 k106
  have G118 : FnOk P w K mg base CX0 1 f118 _ ["names", "places", "total"] spNetsTotal := ok_netsTotal F118 B
  have G111 : FnOk P w K mg base CX0 1 f111 _ ["nets", "one", "over"] spAddV := ok_addV F111
  have G120 : FnOk P w K mg base (L2.CX P w) 3 f120 _ ["first", "second"] (spBothG K C C51 C53 GoodB) := ok_both F120 E53 G117 b117 g117 k117
  have G119 : FnOk P w K mg base (L2.CX P w) 4 f119 _ ["first", "second"] (spBothG K C C51 C53 (GoodJ C)) := ok_jointPath F119 T GI b114 MI G120 b120 g120 k120
  have G123 : FnOk P w K mg base (L2.CX P w) 5 f123 _ ["first", "stand", "second", "other_stand"] (sp4G K C C51 C53 C52 GoodN) := ok_toJoin F123 G113 b113 g113 k113 G120 b120 g120 k120
  have G124 : FnOk P w K mg base (L2.CX P w) 3 f124 _ ["names", "sums"] (spNeedSums K C54) := ok_needSums F124 E54 F101 g101 G104 b104 g104 k104
  have G125 : FnOk P w K mg base CX0 2 f125 _ ["names", "places", "others", "sums"] spFirstJ := ok_firstJoint F125 B G108 b108 g108 k108
  have G122 : FnOk P w K mg base (L2.CX P w) 6 f122 _ ["first", "stand", "second", "other_stand", "sums"] (sp5G K C C51 C53 C52 C54 GoodC) := ok_jointClash F122 G125 b125 g125 k125 G124 b124 g124 k124 G123 b123 g123 k123
  have G121 : FnOk P w K mg base (L2.CX P w) 6 f121 _ ["first", "stand", "second", "other_stand", "sums"] (sp5G K C C51 C53 C52 C54 GoodK) := ok_joined F121 G112 b112 g112 k112 G111 b111 g111 k111 G118 b118 g118 k118 G109 b109 g109 k109 G125 b125 g125 k125 G124 b124 g124 k124 G123 b123 g123 k123
  have G126 : FnOk P w K mg base CX0 1 f126 _ ["script", "turn"] (spSpring K) := ok_spring F126 B
  have G127 : FnOk P w K mg base CX0 1 f127 _ ["spring", "many"] spDraw := ok_draw F127 B
  have G128 : FnOk P w K mg base CX0 2 f128 _ ["spring", "some"] spPick := ok_pick F128 B F127 b127 g127
  have G129 : FnOk P w K mg base CX0 2 f129 _ ["spring", "some"] spMixed := ok_mixed F129 B F127 b127 g127
  have G130 : FnOk P w K mg base CX0 7 f130 _ ["found", "due"] (spSame 6) := ok_same F130 B b130 g130 6
  have G131 : FnOk P w K mg base CX0 3 f131 _ ["spring", "least", "most"] spNames := ok_names F131 B F127 b127 g127 F129 b129 g129
  have G132 : FnOk P w K mg base CX0 1 f132 _ ["names"] spWFirst := ok_wfirst F132 B
  have G133 : FnOk P w K mg base CX0 1 f133 _ ["stand", "one", "many"] spRest := ok_rest F133 B
  have G134 : FnOk P w K mg base CX0 2 f134 _ ["stand", "one"] spWAhead := ok_wahead F134 B G133 b133 g133 k133
  have G135 : FnOk P w K mg base CX0 3 f135 _ ["stand", "one"] spWOver := ok_wover F135 B G134 b134 g134 k134
  have G136 : FnOk P w K mg base CX0 4 f136 _ ["spring", "stand", "many"] spWRun := ok_wrun F136 B G128 b128 g128 k128 G134 b134 g134 k134 G135 b135 g135 k135
  have G137 : FnOk P w K mg base CX0 1 f137 _ ["stand", "one", "other"] spWNet := ok_wnet F137 B
  have G138 : FnOk P w K mg base CX0 3 f138 _ ["spring", "names", "size"] spWStand := ok_wstand F138 B Z_sum G129 b129 g129 k129 G127 b127 g127 k127
  have G139 : FnOk P w K mg base CX0 5 f139 _ ["spring", "names", "many"] spWNear := ok_wnear F139 G136 b136 g136 k136 G132 b132 g132 k132 G127 b127 g127 k127
  have G140 : FnOk P w K mg base CX0 3 f140 _ ["spring", "some"] spHandK := ok_handK F140 B G129 b129 g129 k129
  have G141 : FnOk P w K mg base CX0 1 f141 _ ["names", "thing"] (spWIsSt K) := ok_wisst F141 B Z_sum Z_sorted
  have G142 : FnOk P w K mg base CX0 3 f142 _ ["spring", "names", "stand"] (spNoSt K) := ok_noSt F142 B G129 b129 g129 k129 G141 b141 g141 k141
  have G143 : FnOk P w K mg base CX0 1 f143 _ ["names"] spNoPa := ok_noPa F143 B
  have G144 : FnOk P w K mg base CX0 1 f144 _ ["names"] spPairsOf := ok_wpairs F144
  have G146 : FnOk P w K mg base CX0 2 f146 _ ["stand"] spWTable := ok_wtable F146 B G144 b144 g144 k144 G137 b137 g137 k137
  have G145 : FnOk P w K mg base CX0 2 f145 _ ["names", "nets"] spPlacedBy := ok_wbynets F145 B Z_sum
  have G148 : FnOk P w K mg base CX0 6 f148 _ ["spring", "names"] spWAny := ok_wany F148 G127 b127 g127 k127 G139 b139 g139 k139 G138 b138 g138 k138 G128 b128 g128 k128
  have G147 : FnOk P w K mg base CX0 3 f147 _ ["stand", "some"] spWOfSome := ok_wofsome F147 G145 b145 g145 k145 G146 b146 g146 k146
  have G150 : FnOk P w K mg base CX0 2 f150 _ ["whole", "mine", "theirs"] spWSums := ok_wsums F150 B Z_sum G137 b137 g137 k137
  have G151 : FnOk P w K mg base CX0 1 f151 _ ["stand", "wide", "sums"] spWTwo := ok_wtwo F151 B
  have G152 : FnG P w K mg base CX0 8 f152 _ ["spring", "first", "second", "whole", "mine", "theirs"] (spBack C) := ok_back F152 B Z_repr mods G147 b147 g147 k147 G150 b150 g150 k150 G141 b141 g141 k141 G130 b130 g130 k130 G121 b121 g121 k121 (kb_joined F121) G122 b122 g122 k122 (kb_jointClash F122) G151 b151 g151 k151 G128 b128 g128 k128 G140 b140 g140 k140
  have G153 : FnOk P w K mg base CX0 10 f153 _ ["spring", "mine", "theirs"] (spRefused C Pt) := ok_refused l153 c153 B TB T E51 E52 E53 E54 y1 y2 y3 y4 y5 y6 F149 b149 g149 k149 GI b114 MI G121 b121 g121 k121 G122 b122 g122 k122 G119 b119 g119 k119 (kb_jointPath F119) G130 b130 g130 k130 G142 b142 g142 k142 G143 b143 g143 k143 G148 b148 g148 k148
  exact ok_law F154 B T T1 GI b114 MI G116 b116 G121 b121 g121 k121 G122 b122 g122 k122 G152 b152 g152 k152 G148 b148 g148 k148 G153 b153 g153 k153 G119 b119 g119 k119 G127 b127 g127 k127 G131 b131 g131 k131 G126 b126 g126 k126
theorem walk {l : PySem.W.OpenLaw} {q : Program} {loose : List Str} {XP : (Str → Option Value) → Heap → Prop} {YP : World → Heap → Prop} {d : DefRec} {K : Params → PySem.W.Frag} (hn : l.most = some 63) (hdf : d.params.defaults = [])
    (hY : ∀ (w : World) (h : Heap), YP w h → (K w.params).In h) (imp : PyProof.Rows.importsNone q = true) (hrec : ((PyProof.Rows.recsOf q).any fun e => e.name == ("_law_refused_right" : Str)) = true)
    (F : ∀ (w : World) (mg : Str → Option Value) (fa : Addr) (h : Heap), (K w.params).In h → h.Ns mainGlobals mg → mg d.name = some (.ref fa) →
      ∃ (c Pt : Addr) (fd : FuncData), PySem.W.tabIn (K w.params) "_law_refused_right" = some (c, Pt) ∧ (K w.params).lookup Pt = none ∧ (∀ (s : Shared) (u : Value), BindsTo s fd ⟨[u], []⟩ [("script", u)]) ∧ ∀ base : Heap, (K w.params).In base → base.Ns mainGlobals mg → (∃ mm, base.Ns sysModules mm) → TabB base mg c Pt → FnG l.prog w (K w.params) mg base CX0 11 fa fd ["script"] (spLaw (K w.params) Pt)) :
    PySem.W.WalkO q loose XP YP l.row.toRowW d [] (fun f vs => PySem.call f vs) := by
  refine walk_guarded (n := 63) (k := 11) (x := "script") (CX := fun _ => CX0) imp hn (by decide) hdf ⟨rfl, by decide, by decide⟩ rfl hY (fun w mg fa h Y KX G hmg tb => ?_) fun _ _ _ _ _ z => z
  obtain ⟨c, Pt, fd, h1, h2, h3, h4⟩ := F w mg fa h KX G hmg
  obtain ⟨t1, t2⟩ := tb _ c Pt hrec h1
  refine ⟨fd, [(c, Pt)], spLaw (K w.params) Pt, fun q hq => ?_, fun q hq => ?_, fun q hq => ?_, h3, fun H a ns hl _ hT hS => ⟨a, ns, rfl, hS, hl, fun p hp => ?_, fun _ => rfl⟩, fun base b1 b2 bm b3 => h4 base b1 b2 bm (b3 (c, Pt) List.mem_cons_self)⟩
  · rw [List.mem_singleton.mp hq]; exact t2
  · rw [List.mem_singleton.mp hq]; exact h2
  · rw [List.mem_singleton.mp hq]; exact t1
  · rw [List.mem_singleton.mp hp]; exact TabS.nil (hT (c, Pt) List.mem_cons_self)
end RK

open PySem PySem.W PyProof.Rows
set_option maxRecDepth 100000 in
set_option maxHeartbeats 0 in
theorem PySem.Challenge.cw_ringwalkers_k73_whole_two_paths_joined_holds : PySem.Challenge.rw_ringwalkers_k73_whole_two_paths_joined.Holds := by
  w_on; o_law; k_head; (case hw => w_witness2)
  k_fill
  refine RK.walk (l := PySem.Challenge.rw_ringwalkers_k73_whole_two_paths_joined) rfl rfl (fun w h Y => PySem.W.km_in_of Y) ?I ?R ?F
  case I => first | rfl | decide +kernel
  case R => first | rfl | decide +kernel
  case F =>
    intro w mg fa h KX G hmg
    refine' RK.all_mk KX G hmg ?aC ?a50 ?xi50C ?a51 ?xi51C ?a52 ?xi52C ?a53 ?xi53C ?a54 ?xi54C ?a101 ?l101 ?c101 ?k101 ?a102 ?l102 ?c102 ?k102 ?a103 ?l103 ?c103 ?k103 ?a104 ?l104 ?c104 ?k104 ?a105 ?l105 ?c105 ?k105 ?a106 ?l106 ?c106 ?k106 ?a107 ?l107 ?c107 ?k107 ?a108 ?l108 ?c108 ?k108 ?a109 ?l109 ?c109 ?k109 ?a110 ?l110 ?c110 ?k110 ?a111 ?l111 ?c111 ?k111 ?a112 ?l112 ?c112 ?k112 ?a113 ?l113 ?c113 ?k113 ?a114 ?i114 ?l114 ?c114 ?k114 ?a115 ?i115 ?l115 ?c115 ?k115 ?a116 ?i116 ?l116 ?c116 ?k116 ?a117 ?l117 ?c117 ?k117 ?a118 ?l118 ?c118 ?k118 ?a119 ?l119 ?c119 ?k119 ?a120 ?l120 ?c120 ?k120 ?a121 ?l121 ?c121 ?k121 ?a122 ?l122 ?c122 ?k122 ?a123 ?l123 ?c123 ?k123 ?a124 ?l124 ?c124 ?k124 ?a125 ?l125 ?c125 ?k125 ?a126 ?l126 ?c126 ?k126 ?a127 ?l127 ?c127 ?k127 ?a128 ?l128 ?c128 ?k128 ?a129 ?l129 ?c129 ?k129 ?a130 ?l130 ?c130 ?k130 ?a131 ?l131 ?c131 ?k131 ?a132 ?l132 ?c132 ?k132 ?a133 ?l133 ?c133 ?k133 ?a134 ?l134 ?c134 ?k134 ?a135 ?l135 ?c135 ?k135 ?a136 ?l136 ?c136 ?k136 ?a137 ?l137 ?c137 ?k137 ?a138 ?l138 ?c138 ?k138 ?a139 ?l139 ?c139 ?k139 ?a140 ?l140 ?c140 ?k140 ?a141 ?l141 ?c141 ?k141 ?a142 ?l142 ?c142 ?k142 ?a143 ?l143 ?c143 ?k143 ?a144 ?l144 ?c144 ?k144 ?a145 ?l145 ?c145 ?k145 ?a146 ?l146 ?c146 ?k146 ?a147 ?l147 ?c147 ?k147 ?a148 ?l148 ?c148 ?k148 ?a149 ?l149 ?c149 ?k149 ?a150 ?l150 ?c150 ?k150 ?a151 ?l151 ?c151 ?k151 ?a152 ?l152 ?c152 ?k152 ?a153 ?l153 ?c153 ?k153 ?a154 ?l154 ?c154 ?k154 ?lct ?v11 ?tbn ?pg ?hd ?po ?sa ?mk ?kc ?nN ?cls1 ?spec ?tak ?mo ?icC ?tyC ?neF ?z_isinstance ?z_list ?z_tuple ?z_str ?z_len ?z_all ?z_any ?z_enumerate ?z_int ?z_range ?z_dict ?z_bool ?z_zip ?z_sum ?z_sorted ?z_repr ?v1 ?v2 ?v3 ?xtp ?xgS ?xtop ?xL50 ?xR50 ?xi50 ?xs50 ?xV50 ?xM50 ?xsa50 ?xga50 ?xgg50 ?xno50 ?xtC50 ?xkC50 ?xeC50 ?xyC50 ?xhC50 ?xic50 ?xss50 ?le50 ?ce50 ?x150 ?x250 ?x350 ?x450 ?xL51 ?xR51 ?xi51 ?xs51 ?xV51 ?xM51 ?xsa51 ?xga51 ?xgg51 ?xno51 ?xtC51 ?xkC51 ?xeC51 ?xyC51 ?xhC51 ?xic51 ?xss51 ?le51 ?ce51 ?x151 ?x251 ?x351 ?x451 ?xL52 ?xR52 ?xi52 ?xs52 ?xV52 ?xM52 ?xsa52 ?xga52 ?xgg52 ?xno52 ?xtC52 ?xkC52 ?xeC52 ?xyC52 ?xhC52 ?xic52 ?xss52 ?le52 ?ce52 ?x152 ?x252 ?x352 ?x452 ?xL53 ?xR53 ?xi53 ?xs53 ?xV53 ?xM53 ?xsa53 ?xga53 ?xgg53 ?xno53 ?xtC53 ?xkC53 ?xeC53 ?xyC53 ?xhC53 ?xic53 ?xss53 ?le53 ?ce53 ?x153 ?x253 ?x353 ?x453 ?xL54 ?xR54 ?xi54 ?xs54 ?xV54 ?xM54 ?xsa54 ?xga54 ?xgg54 ?xno54 ?xtC54 ?xkC54 ?xeC54 ?xyC54 ?xhC54 ?xic54 ?xss54 ?le54 ?ce54 ?x154 ?x254 ?x354 ?x454 ?y1 ?y2 ?y3 ?y4 ?y5 ?y6
    (case aC => k_is)
    (case a50 => k_is)
    (case xi50C => k_is)
    (case a51 => k_is)
    (case xi51C => k_is)
    (case a52 => k_is)
    (case xi52C => k_is)
    (case a53 => k_is)
    (case xi53C => k_is)
    (case a54 => k_is)
    (case xi54C => k_is)
    (case a101 => k_is)
    (case l101 => k_is)
    (case c101 => k_is)
    (case k101 => k_is)
    (case a102 => k_is)
    (case l102 => k_is)
    (case c102 => k_is)
    (case k102 => k_is)
    (case a103 => k_is)
    (case l103 => k_is)
    (case c103 => k_is)
    (case k103 => k_is)
    (case a104 => k_is)
    (case l104 => k_is)
    (case c104 => k_is)
    (case k104 => k_is)
    (case a105 => k_is)
    (case l105 => k_is)
    (case c105 => k_is)
    (case k105 => k_is)
    (case a106 => k_is)
    (case l106 => k_is)
    (case c106 => k_is)
    (case k106 => k_is)
    (case a107 => k_is)
    (case l107 => k_is)
    (case c107 => k_is)
    (case k107 => k_is)
    (case a108 => k_is)
    (case l108 => k_is)
    (case c108 => k_is)
    (case k108 => k_is)
    (case a109 => k_is)
    (case l109 => k_is)
    (case c109 => k_is)
    (case k109 => k_is)
    (case a110 => k_is)
    (case l110 => k_is)
    (case c110 => k_is)
    (case k110 => k_is)
    (case a111 => k_is)
    (case l111 => k_is)
    (case c111 => k_is)
    (case k111 => k_is)
    (case a112 => k_is)
    (case l112 => k_is)
    (case c112 => k_is)
    (case k112 => k_is)
    (case a113 => k_is)
    (case l113 => k_is)
    (case c113 => k_is)
    (case k113 => k_is)
    (case a114 => k_is)
    (case i114 => k_is)
    (case l114 => k_is)
    (case c114 => k_is)
    (case k114 => k_is)
    (case a115 => k_is)
    (case i115 => k_is)
    (case l115 => k_is)
    (case c115 => k_is)
    (case k115 => k_is)
    (case a116 => k_is)
    (case i116 => k_is)
    (case l116 => k_is)
    (case c116 => k_is)
    (case k116 => k_is)
    (case a117 => k_is)
    (case l117 => k_is)
    (case c117 => k_is)
    (case k117 => k_is)
    (case a118 => k_is)
    (case l118 => k_is)
    (case c118 => k_is)
    (case k118 => k_is)
    (case a119 => k_is)
    (case l119 => k_is)
    (case c119 => k_is)
    (case k119 => k_is)
    (case a120 => k_is)
    (case l120 => k_is)
    (case c120 => k_is)
    (case k120 => k_is)
    (case a121 => k_is)
    (case l121 => k_is)
    (case c121 => k_is)
    (case k121 => k_is)
    (case a122 => k_is)
    (case l122 => k_is)
    (case c122 => k_is)
    (case k122 => k_is)
    (case a123 => k_is)
    (case l123 => k_is)
    (case c123 => k_is)
    (case k123 => k_is)
    (case a124 => k_is)
    (case l124 => k_is)
    (case c124 => k_is)
    (case k124 => k_is)
    (case a125 => k_is)
    (case l125 => k_is)
    (case c125 => k_is)
    (case k125 => k_is)
    (case a126 => k_is)
    (case l126 => k_is)
    (case c126 => k_is)
    (case k126 => k_is)
    (case a127 => k_is)
    (case l127 => k_is)
    (case c127 => k_is)
    (case k127 => k_is)
    (case a128 => k_is)
    (case l128 => k_is)
    (case c128 => k_is)
    (case k128 => k_is)
    (case a129 => k_is)
    (case l129 => k_is)
    (case c129 => k_is)
    (case k129 => k_is)
    (case a130 => k_is)
    (case l130 => k_is)
    (case c130 => k_is)
    (case k130 => k_is)
    (case a131 => k_is)
    (case l131 => k_is)
    (case c131 => k_is)
    (case k131 => k_is)
    (case a132 => k_is)
    (case l132 => k_is)
    (case c132 => k_is)
    (case k132 => k_is)
    (case a133 => k_is)
    (case l133 => k_is)
    (case c133 => k_is)
    (case k133 => k_is)
    (case a134 => k_is)
    (case l134 => k_is)
    (case c134 => k_is)
    (case k134 => k_is)
    (case a135 => k_is)
    (case l135 => k_is)
    (case c135 => k_is)
    (case k135 => k_is)
    (case a136 => k_is)
    (case l136 => k_is)
    (case c136 => k_is)
    (case k136 => k_is)
    (case a137 => k_is)
    (case l137 => k_is)
    (case c137 => k_is)
    (case k137 => k_is)
    (case a138 => k_is)
    (case l138 => k_is)
    (case c138 => k_is)
    (case k138 => k_is)
    (case a139 => k_is)
    (case l139 => k_is)
    (case c139 => k_is)
    (case k139 => k_is)
    (case a140 => k_is)
    (case l140 => k_is)
    (case c140 => k_is)
    (case k140 => k_is)
    (case a141 => k_is)
    (case l141 => k_is)
    (case c141 => k_is)
    (case k141 => k_is)
    (case a142 => k_is)
    (case l142 => k_is)
    (case c142 => k_is)
    (case k142 => k_is)
    (case a143 => k_is)
    (case l143 => k_is)
    (case c143 => k_is)
    (case k143 => k_is)
    (case a144 => k_is)
    (case l144 => k_is)
    (case c144 => k_is)
    (case k144 => k_is)
    (case a145 => k_is)
    (case l145 => k_is)
    (case c145 => k_is)
    (case k145 => k_is)
    (case a146 => k_is)
    (case l146 => k_is)
    (case c146 => k_is)
    (case k146 => k_is)
    (case a147 => k_is)
    (case l147 => k_is)
    (case c147 => k_is)
    (case k147 => k_is)
    (case a148 => k_is)
    (case l148 => k_is)
    (case c148 => k_is)
    (case k148 => k_is)
    (case a149 => k_is)
    (case l149 => k_is)
    (case c149 => k_is)
    (case k149 => k_is)
    (case a150 => k_is)
    (case l150 => k_is)
    (case c150 => k_is)
    (case k150 => k_is)
    (case a151 => k_is)
    (case l151 => k_is)
    (case c151 => k_is)
    (case k151 => k_is)
    (case a152 => k_is)
    (case l152 => k_is)
    (case c152 => k_is)
    (case k152 => k_is)
    (case a153 => k_is)
    (case l153 => k_is)
    (case c153 => k_is)
    (case k153 => k_is)
    (case a154 => k_is)
    (case l154 => k_is)
    (case c154 => k_is)
    (case k154 => k_is)
    (case lct => k_is)
    (case v11 => first | rfl | decide +kernel)
    (case tbn => first | k_is | kernel_rfl | decide +kernel | rfl)
    (case pg => k_is)
    (case hd => k_is)
    (case po => k_is)
    (case sa => k_is)
    (case mk => k_is)
    (case kc => k_is)
    (case nN => k_is)
    (case cls1 => k_is)
    (case spec => first | k_is | rfl)
    (case tak => first | k_is | rfl)
    (case mo => k_is)
    (case icC => k_is)
    (case tyC => k_is)
    (case neF => k_is)
    (case z_isinstance => k_is)
    (case z_list => k_is)
    (case z_tuple => k_is)
    (case z_str => k_is)
    (case z_len => k_is)
    (case z_all => k_is)
    (case z_any => k_is)
    (case z_enumerate => k_is)
    (case z_int => k_is)
    (case z_range => k_is)
    (case z_dict => k_is)
    (case z_bool => k_is)
    (case z_zip => k_is)
    (case z_sum => k_is)
    (case z_sorted => k_is)
    (case z_repr => k_is)
    (case v1 => k_is)
    (case v2 => k_is)
    (case v3 => k_is)
    (case xtp => first | k_is | kernel_rfl)
    (case xgS => k_is)
    (case xtop => first | rfl | decide +kernel)
    (case xL50 => k_is)
    (case xR50 => first | rfl | decide +kernel)
    (case xi50 => first | k_is | kernel_rfl | decide +kernel)
    (case xs50 => first | ks_is | k_is)
    (case xV50 => k_is)
    (case xM50 => k_is)
    (case xsa50 => k_is)
    (case xga50 => k_is)
    (case xgg50 => k_is)
    (case xno50 => k_is)
    (case xtC50 => k_is)
    (case xkC50 => k_is)
    (case xeC50 => k_is)
    (case xyC50 => k_is)
    (case xhC50 => k_is)
    (case xic50 => k_is)
    (case xss50 => first | rfl | k_is)
    (case le50 => k_is)
    (case ce50 => k_is)
    (case x150 => k_is)
    (case x250 => first | rfl | decide +kernel)
    (case x350 => first | rfl | decide +kernel)
    (case x450 => k_is)
    (case xL51 => k_is)
    (case xR51 => first | rfl | decide +kernel)
    (case xi51 => first | k_is | kernel_rfl | decide +kernel)
    (case xs51 => first | ks_is | k_is)
    (case xV51 => k_is)
    (case xM51 => k_is)
    (case xsa51 => k_is)
    (case xga51 => k_is)
    (case xgg51 => k_is)
    (case xno51 => k_is)
    (case xtC51 => k_is)
    (case xkC51 => k_is)
    (case xeC51 => k_is)
    (case xyC51 => k_is)
    (case xhC51 => k_is)
    (case xic51 => k_is)
    (case xss51 => first | rfl | k_is)
    (case le51 => k_is)
    (case ce51 => k_is)
    (case x151 => k_is)
    (case x251 => first | rfl | decide +kernel)
    (case x351 => first | rfl | decide +kernel)
    (case x451 => k_is)
    (case xL52 => k_is)
    (case xR52 => first | rfl | decide +kernel)
    (case xi52 => first | k_is | kernel_rfl | decide +kernel)
    (case xs52 => first | ks_is | k_is)
    (case xV52 => k_is)
    (case xM52 => k_is)
    (case xsa52 => k_is)
    (case xga52 => k_is)
    (case xgg52 => k_is)
    (case xno52 => k_is)
    (case xtC52 => k_is)
    (case xkC52 => k_is)
    (case xeC52 => k_is)
    (case xyC52 => k_is)
    (case xhC52 => k_is)
    (case xic52 => k_is)
    (case xss52 => first | rfl | k_is)
    (case le52 => k_is)
    (case ce52 => k_is)
    (case x152 => k_is)
    (case x252 => first | rfl | decide +kernel)
    (case x352 => first | rfl | decide +kernel)
    (case x452 => k_is)
    (case xL53 => k_is)
    (case xR53 => first | rfl | decide +kernel)
    (case xi53 => first | k_is | kernel_rfl | decide +kernel)
    (case xs53 => first | ks_is | k_is)
    (case xV53 => k_is)
    (case xM53 => k_is)
    (case xsa53 => k_is)
    (case xga53 => k_is)
    (case xgg53 => k_is)
    (case xno53 => k_is)
    (case xtC53 => k_is)
    (case xkC53 => k_is)
    (case xeC53 => k_is)
    (case xyC53 => k_is)
    (case xhC53 => k_is)
    (case xic53 => k_is)
    (case xss53 => first | rfl | k_is)
    (case le53 => k_is)
    (case ce53 => k_is)
    (case x153 => k_is)
    (case x253 => first | rfl | decide +kernel)
    (case x353 => first | rfl | decide +kernel)
    (case x453 => k_is)
    (case xL54 => k_is)
    (case xR54 => first | rfl | decide +kernel)
    (case xi54 => first | k_is | kernel_rfl | decide +kernel)
    (case xs54 => first | ks_is | k_is)
    (case xV54 => k_is)
    (case xM54 => k_is)
    (case xsa54 => k_is)
    (case xga54 => k_is)
    (case xgg54 => k_is)
    (case xno54 => k_is)
    (case xtC54 => k_is)
    (case xkC54 => k_is)
    (case xeC54 => k_is)
    (case xyC54 => k_is)
    (case xhC54 => k_is)
    (case xic54 => k_is)
    (case xss54 => first | rfl | k_is)
    (case le54 => k_is)
    (case ce54 => k_is)
    (case x154 => k_is)
    (case x254 => first | rfl | decide +kernel)
    (case x354 => first | rfl | decide +kernel)
    (case x454 => k_is)
    (case y1 => first | k_is | rfl | decide +kernel)
    (case y2 => first | k_is | rfl | decide +kernel)
    (case y3 => first | k_is | rfl | decide +kernel)
    (case y4 => first | k_is | rfl | decide +kernel)
    (case y5 => first | k_is | rfl | decide +kernel)
    (case y6 => first | k_is | rfl | decide +kernel)

