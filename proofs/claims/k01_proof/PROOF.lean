import PyProof.Rows.All
import Wide.All
import OpenK.AllK
import Wide.FinOn
import KE.KExcSuper
import HandS.Base
import HandS.Call
import HandS.Exc
import HandS.ExcOwn
import HandS.Words
import HandS.CallRecv
import KE.GoesNew
import HandS.ForMost
import HandS.Walk
import KE.KDictList
import PyProof.TupleOfStr
import PyProof.Rows.Range3
import HandS.Conv
import PyProof.IsiBase
import HandS.IsInst
import PyProof.InstNe
import HandS.Zip
import HandS.Flow
import HandS.CallSlots
import HandS.ExcField
import HandS.MakeKwOnly
import HandS.Style
import HandS.TryOnly
import HandS.WordsExc
import HandS.Evl
import PySem.Challenge.RW_ringwalkers_k01_whole_paths
set_option Elab.async false
set_option linter.all false
set_option maxRecDepth 100000
set_option maxHeartbeats 2000000
/-! own error classes with one field: def __init__(self, f): super().__init__(text); self.f = f, over ValueError (at any depth of own classes) -/
namespace PySem
namespace XW
open PySem.W PySem.Calls PyProof.Rows PySem.HandSPX
def xA (f : Str) (p1 p2 : Pos) : Arguments := { posonlyargs := [], args := [{ arg := "self", annotation := none, pos := p1 }, { arg := f, annotation := none, pos := p2 }], vararg := none, kwonlyargs := [], kw_defaults := [], kwarg := none, defaults := [] }
def xB1 (txt : Str) (q1 q2 q3 q4 q5 q6 : Pos) : Stmt := .Expr (.Call (.Attribute (.Call (.Name "super" q1) [] [] q2) "__init__" q3) [.Constant (.str txt) 0 q4] [] q5) q6
def xB2 (f : Str) (r1 r2 r3 r4 : Pos) : Stmt := .Assign [.Attribute (.Name "self" r1) f r2] (.Name f r3) r4
def xS (f : Str) : Scope := { kind := .function, names := [("self", .local), (f, .local), ("__class__", .free), ("super", .globalImplicit)], isGenerator := false, isCoroutine := false, more := [] }
/-- what the written part says of the class at C, and of its __init__, at fI -/
structure XTxt (prog : Program) (K : Frag) (mg : Str → Option Value) (f : Str) (C fI : Addr) : Prop where
  fne : f ≠ "self"
  fn1 : (f == ("self" : Str)) = false
  fS : (("super" : Str) == f) = false
  fK : (("__class__" : Str) == f) = false
  fd : (f == ("__debug__" : Str)) = false
  bnd : ∀ (qual : Str) (p1 p2 : Pos) (b1 b2 : Stmt) (doc pm : Value) (an : Option Addr) (cd ct : Value) (cc : Addr) (u v : Value), bindArgs (ksFn "__init__" qual (xA f p1 p2) [b1, b2] (xS f) .none .none doc pm an cd ct cc) ⟨[u, v], []⟩ = pure [(("self" : Str), u), (f, v)]
  cls : ∃ nm q N bs bm sn sub ab col dd k0 k1 k2 k3 k5, K.lookup C = some (excClassObj nm q C N bs bm true sn sub ab col dd k0 k1 k2 k3 k5 "ValueError.__new__") ∧ refsVE bm = true
  ini : excInitIn K C [.type "ValueError", .type "Exception", .type "BaseException", .type "object"] "ValueError.__new__" = true
  sup : ks_superIn K C C "__init__" = some (some (.builtin "ValueError.__init__"))
  sV : subIn K (.ref C) (.type "ValueError") = some true
  mC : mroIn K C (.ref C) = some true
  tp : nsIn K cStatics "thirdparty.any" = some none
  gS : mg "super" = none
  top : (prog.main.scope.names.lookup ("super" : Str)).isSome = false
  sa : findIn K (.ref C) "__setattr__" = some (some (.builtin "object.__setattr__"))
  ga : findIn K (.ref C) "__getattribute__" = some (some (.builtin "BaseException.__getattribute__"))
  gg : findIn K (.ref C) "__getattr__" = some none
  noN : findIn K (.ref C) f = some none
  iC : findIn K (.ref C) "__init__" = some (some (.ref fI))
  tC : typeIn K (.ref fI) = some (.type "function")
  kC : keepIn K (.ref C) = true
  exC : subIn K (.ref C) (.type "BaseException") = some true
  tyC : typeIn K (.ref C) = some (.type "type")
  hdC : hasDictIn K C = true
  te : exmOne K (.ref C) (.ref C) = some true
  fn : ∃ (oc : Value) (od : Option Addr) (doc pm : Value) (an : Option Addr) (cda cc : Addr) (ct : Value) (osl : Array (Option Value)) (qual txt : Str) (p1 p2 q1 q2 q3 q4 q5 q6 r1 r2 r3 r4 : Pos),
    K.lookup fI = some ⟨oc, od, .func (ksFn "__init__" qual (xA f p1 p2) [xB1 txt q1 q2 q3 q4 q5 q6, xB2 f r1 r2 r3 r4] (xS f) .none .none doc pm an (.ref cda) ct cc), osl⟩ ∧ codeIn K (.ref cda) qual = true ∧ (q3.endLine == q5.line) = true ∧
    (∃ (ccl : Value) (cdd : Option Addr) (vs : Array Value) (ccs : Array (Option Value)) (file : Str) (tf : Tok), K.lookup cda = some ⟨ccl, cdd, .fields vs, ccs⟩ ∧ vs[2]? = some (.str file tf) ∧ ((prog.main.file : Str) == file) = true) ∧
    ∃ (cl : Value) (cld : Option Addr) (csl : Array (Option Value)), K.lookup cc = some ⟨cl, cld, .cell (some (.ref C)), csl⟩
/-- what __init__ leaves of a fresh exception at x; hp: the heap ahead of the making -/
structure XEnd (hp h' : Heap) (x C dx t1 : Addr) (f : Str) (v : Value) : Prop where
  keep : ∀ b o, hp.get? b = some o → h'.get? b = some o
  obj : h'.get? x = some { cls := .ref C, dict := some dx, data := .fields #[.ref t1, .none, .none, .none, .bool false, .none] }
  dbig : hp.objs.size ≤ dx
  dne : dx ≠ x
  ns : h'.Ns1 dx (fun y => if y = f then some v else none)
theorem hc_of {q1 q2 q3 q4 q5 : Pos} {txt : Str} {env : Env} (h : (q3.endLine == q5.line) = true) :
  eval (.Call (.Attribute (.Call (.Name "super" q1) [] [] q2) "__init__" q3) [.Constant (.str txt) 0 q4] [] q5) env = (do
      let ov ← attributeBase (.Call (.Name "super" q1) [] [] q2) "__init__" env (eval (.Call (.Name "super" q1) [] [] q2) env)
      standAt q3.atName
      let (f, first) ← holding [ov] (getMethod ov "__init__" (do return (← importBound (.Call (.Name "super" q1) [] [] q2) env).getD true))
      callWith q5 f first (backTo q5 (starEach [.Constant (.str txt) 0 q4] env)) []) := by
  rw [arm_eval_Call]
  have e : ∀ ov, methodCall (.Call (.Name "super" q1) [] [] q2) "__init__" q3 q5 env ov ([Expr.Constant (.str txt) 0 q4].length + ([] : List Keyword).length) (backTo q5 (starEach [.Constant (.str txt) 0 q4] env)) (backToKw q5 (keywordEach [] env)) = (do
      let (f, first) ← holding [ov] (getMethod ov "__init__" (do return (← importBound (.Call (.Name "super" q1) [] [] q2) env).getD true))
      callWith q5 f first (backTo q5 (starEach [.Constant (.str txt) 0 q4] env)) []) := by
    intro ov
    have hf : methodCallForm ([Expr.Constant (.str txt) 0 q4].length + ([] : List Keyword).length) (backTo q5 (starEach [.Constant (.str txt) 0 q4] env)) (backToKw q5 (keywordEach [] env)) = true := by rfl
    unfold methodCall calleeOf methodCallPos
    rw [hf]
    simp only [h, Bool.not_true, Bool.false_or, if_true, pure_bind]
    rfl
  simp only [e]
theorem xS_sup {f : Str} {qual : Str} {L a : Addr} {cd : Value} {cc : Addr} (h : (("super" : Str) == f) = false) : (ksEnv qual (xS f) L a cd cc).kindOf "super" = some .globalImplicit := by
  show List.lookup ("super" : Str) [(("self" : Str), NameKind.local), (f, .local), ("__class__", .free), ("super", .globalImplicit)] = some .globalImplicit
  have e1 : (("super" : Str) == ("self" : Str)) = false := by decide +kernel
  have e2 : (("super" : Str) == ("__class__" : Str)) = false := by decide +kernel
  simp only [List.lookup, h, e1, e2, beq_self_eq_true]
theorem xS_cls {f : Str} {qual : Str} {L a : Addr} {cd : Value} {cc : Addr} (h : (("__class__" : Str) == f) = false) : (ksEnv qual (xS f) L a cd cc).kindOf "__class__" = some .free := by
  show List.lookup ("__class__" : Str) [(("self" : Str), NameKind.local), (f, .local), ("__class__", .free), ("super", .globalImplicit)] = some .free
  have e1 : (("__class__" : Str) == ("self" : Str)) = false := by decide +kernel
  simp only [List.lookup, h, e1, beq_self_eq_true]
theorem xS_loc {f : Str} {qual : Str} {L a : Addr} {cd : Value} {cc : Addr} (h : (f == ("self" : Str)) = false) : (ksEnv qual (xS f) L a cd cc).kindOf f = some .local := by
  show List.lookup f [(("self" : Str), NameKind.local), (f, .local), ("__class__", .free), ("super", .globalImplicit)] = some .local
  simp [List.lookup, h]
section
variable {prog : Program} {w : World} {A : Around} {E : Value → Shared → Prop} {R : Result → Shared → Prop} {s : Shared} {K : Frag} {mg : Str → Option Value} {f : Str} {C fI : Addr}
theorem x_init (T : XTxt prog K mg f C fI) {hp : Heap} {x t0 : Addr} {v : Value} (M : L2.Mod K mg hp) (k0 : ∀ b o, hp.get? b = some o → s.heap.get? b = some o) (hxn : hp.get? x = none) (hsz : hp.objs.size ≤ s.heap.objs.size)
    (hx : s.heap.get? x = some (excO C t0)) (hroom : A.depth < recursionLimit)
    (hq : ∀ h' tk dx t1, XEnd hp h' x C dx t1 f v → R (.ok (.ret .none)) { s with heap := h', toks := tk }) :
    codeAny (model prog w) A (.call (.ref fI) ⟨[.ref x, v], []⟩) R s := by
  obtain ⟨oc, od, doc, pm, an, cda, cc, ct, osl, qual, txt, p1, p2, q1, q2, q3, q4, q5, q6, r1, r2, r3, r4, ho, hcd, hline, ⟨ccl, cdd, vs, ccs, file, tf, hcode, hvs, hfile⟩, cl, cld, csl, hcell⟩ := T.fn
  obtain ⟨nm, q, N, bs, bm, sn, sub, ab, col, dd, k0', k1, k2, k3, k5, hC, hbm⟩ := T.cls
  have hcl : clsIn K C = some { name := nm, bases := bs, mro := .ref C :: bm, ns := N, qualname := q, hasDict := true, slotNames := sn, subclasses := sub, abstract := ab, collection := col, hasDel := false } := by unfold clsIn; rw [hC] <;> rfl
  have X := M.kin
  have Xs : K.In s.heap := X.keeps k0
  have hlim : s.heap.NoLimit := M.nolimit.keeps k0
  refine ks_codeAny_call_defAt (fd := ksFn "__init__" qual (xA f p1 p2) [xB1 txt q1 q2 q3 q4 q5 q6, xB2 f r1 r2 r3 r4] (xS f) .none .none doc pm an (.ref cda) ct cc) (body := [xB1 txt q1 q2 q3 q4 q5 q6, xB2 f r1 r2 r3 r4])
    (binds := [("self", .ref x), (f, v)]) hroom (Xs _ _ ho) rfl hlim (codeRec_of Xs hcd) rfl (BindsTo.of_eq (T.bnd _ _ _ _ _ _ _ _ _ _ _ _ _)) (by simp [xS]) (by simp [xS, List.lookup, T.fn1]) (fun h₁ hns hk₁ => ?_)
  have F₁ : Fr hp s.heap.objs.size h₁ (fun y => List.lookup y [(f, v), ("self", Value.ref x)]) := ⟨hns, fun b o e => hk₁ b o (k0 b o e), hsz⟩
  have N₁ : News hp s.heap.objs.size h₁ [(x, excObj C t0 none .none)] := fun p hp' => by
    rcases List.mem_cons.mp hp' with rfl | hp'
    · exact ⟨hk₁ _ _ hx, Nat.ne_of_lt (Heap.lt_size hx), hxn⟩
    · cases hp'
  have X₁ : K.In h₁ := X.keeps F₁.keep
  have ns0 : (f == ("self" : Str)) = false := T.fn1
  have lself : List.lookup ("self" : Str) [(f, v), ("self", Value.ref x)] = some (.ref x) := by
    have e : ((("self" : Str) == f) : Bool) = false := by
      have := T.fne
      simpa using fun z => this z.symm
    simp [List.lookup, e]
  have lf : List.lookup f [(f, v), ("self", Value.ref x)] = some v := by simp [List.lookup]
  obtain ⟨mb, hb1, hb2⟩ := M.blt
  have I₁ : InstAt h₁ x (excObj C t0 none .none) C none := InstAt.of_exc0 N₁ List.mem_cons_self
  refine ks_wpAt_execs_cons (ks_wpAt_Expr_any (ks_wpAt_MethodCall ?_ (hc_of hline)))
  have hkS : (ksEnv qual (xS f) s.heap.objs.size fI (.ref cda) cc).kindOf "self" = some .local := by rfl
  obtain ⟨oC, hC1, hC2⟩ : ∃ oD, h₁.get? C = some oD ∧ oD.data = .cls { name := nm, bases := bs, mro := .ref C :: bm, ns := N, qualname := q, hasDict := true, slotNames := sn, subclasses := sub, abstract := ab, collection := col, hasDel := false } := ⟨_, X₁ _ _ hC, rfl⟩
  have hkf := xS_loc (qual := qual) (L := s.heap.objs.size) (a := fI) (cd := .ref cda) (cc := cc) T.fn1
  refine ks_wpAt_super_base (env := ksEnv qual (xS f) s.heap.objs.size fI (.ref cda) cc) (f := fI) (ar := { arg := "self", annotation := none, pos := p1 }) ?k1 ?k2 (by decide) rfl (X₁ _ _ ho) rfl rfl rfl (X₁ _ _ hcode) rfl hvs hfile T.top ?_
  case k1 => exact xS_sup T.fS
  case k2 => exact xS_cls T.fK
  refine ks_loadName_global rfl ?k1 (Calls.loadGlobal_builtin (M.glob.keeps F₁.keep) T.gS (hb1.keeps F₁.keep) ((hb2 _ (by decide +kernel)).trans (by decide +kernel : bootBuiltins "super" = some (.type "super"))) ⟨rfl, ?_⟩)
  case k1 => exact xS_sup T.fS
  refine wpAny_loadName_free rfl ?k2 rfl ⟨_, X₁ _ _ hcell, rfl⟩ ?_
  case k2 => exact xS_cls T.fK
  refine wpAny_loadName_local rfl hkS F₁.ns lself ?_
  refine ks_wpAny_isType_cls hC1 hC2 ⟨rfl, ?_⟩
  refine ks_wpAny_call_super hC1 hC2 I₁.at_ I₁.cls (fun c e => ?_) (looks_mroIn X₁ T.mC) (fun h' e k => ?_)
  · cases e
  obtain ⟨F₂, N₂, l₂⟩ := ks_newsPush (s := ⟨h₁, s.gens, s.drawn, s.toks + 2, s.os⟩) F₁ N₁ rfl e k
  refine kxs_method (s := ⟨h', s.gens, s.drawn, s.toks + 2, s.os⟩) kxs_ValueError F₂ X N₂ List.mem_cons_self (InstAt.of_exc0 N₂ (List.mem_cons_of_mem _ List.mem_cons_self)) T.tp T.sup T.sV (by decide) (fun u h'' F₃ N₃ l₃ => ?_)
  refine kxs_callWith1 N₃ List.mem_cons_self ?_
  refine spliced_more (Calls.Constant_str (spliced_none ⟨kxs_at N₃ List.mem_cons_self, ?_⟩))
  have lx2 : x < h₁.objs.size := l₂ (x, excObj C t0 none .none) List.mem_cons_self
  have lx3 : x < u := l₃ (x, excObj C t0 none .none) (List.mem_cons_of_mem _ List.mem_cons_self)
  refine kxs_call F₃ X N₃ F.excBase_ValueError T.ini List.mem_cons_self (UpdF.tail (Nat.ne_of_gt lx3) (UpdF.tail (Nat.ne_of_gt lx2) (UpdF.head (fun p hp => nomatch hp)))) (by rw [sizeLine_eq]; show 1 ≤ 16777216; decide) (fun t1 h4 F₄ N₄ l₄ => ?_)
  -- self.f = f
  have X₄ : K.In h4 := X.keeps F₄.keep
  have hx4 : h4.get? x = some (excObj C t1 none .none) := (N₄ (x, excObj C t1 none .none) (by simp)).1
  refine wpAt_of_wpAny (wpAny_execs_cons (plainObj_wpAny_Assign_Attribute (wpAny_Name (wpAny_loadName_local rfl hkf F₄.ns lf (wpAny_Name (wpAny_loadName_local rfl hkS F₄.ns lself ?_) (by decide))) T.fd)))
  refine set_plain X₄ (ox := excO C t1) (od := none) ⟨hx4, rfl, rfl, trivial⟩ T.sa ?_
  refine exc_osa X₄ hx4 hcl (show refsVE (.ref C :: bm) = true from hbm) rfl T.noN (fun h₅ tk₅ dx k₅ dn dne hx₅ hn₅ => ?_)
  refine wpAny_execs_nil (hq h₅ tk₅ dx t1 ⟨fun b o e => k₅ b o (fun z => ?_) (F₄.keep b o e), hx₅, ?_, dne, hn₅⟩)
  · rw [z, hxn] at e
    cases e
  · have q1 : s.heap.objs.size < h4.objs.size := F₄.ns.lt
    exact Nat.le_trans hsz (Nat.le_of_lt (Nat.lt_of_lt_of_le q1 dn))
/-- a made error -/
structure XMade (h h' : Heap) (e C d : Addr) (f : Str) (v : Value) : Prop where
  keep : ∀ b o, h.get? b = some o → h'.get? b = some o
  new : h.objs.size ≤ e
  obj : ∃ oe vs, h'.get? e = some oe ∧ oe.cls = .ref C ∧ oe.dict = some d ∧ oe.data = .fields vs ∧ vs[1]? = some .none
  dbig : h.objs.size ≤ d
  dne : d ≠ e
  ns : h'.Ns1 d (fun y => if y = f then some v else none)
theorem x_made (T : XTxt prog K mg f C fI) {v : Value} (M : L2.Mod K mg s.heap) (hroom : A.depth + 1 < recursionLimit)
    (hq : ∀ h' tk e d, XMade s.heap h' e C d f v → R (.ok (.ret (.ref e))) { s with heap := h', toks := tk }) :
    codeAny (model prog w) A (.call (.ref C) ⟨[v], []⟩) R s := by
  obtain ⟨nm, q, N, bs, bm, sn, sub, ab, col, dd, k0, k1, k2, k3, k5, hC, hbm⟩ := T.cls
  obtain ⟨hp, g, dr, tk, os⟩ := s
  have X : K.In hp := M.kin
  have k : ∀ b o, hp.get? b = some o → ((hp.push (kdv_tup [v])).push (excO C hp.objs.size)).get? b = some o := fun b o e => Heap.get?_push_of_some _ (Heap.get?_push_of_some _ e)
  have hget : ((hp.push (kdv_tup [v])).push (excO C hp.objs.size)).get? (hp.objs.size + 1) = some (excO C hp.objs.size) := by heap_get
  have hnone : hp.get? (hp.objs.size + 1) = none := by
    cases e : hp.get? (hp.objs.size + 1) with
    | none => rfl
    | some o => exact absurd (Nat.lt_of_succ_lt (Heap.lt_size e)) (Nat.lt_irrefl _)
  refine call_own F.excBase_ValueError (fun X => refsVE_contains X bm hbm) (X _ _ hC) (looks_findIn X T.iC) (fun self => bind_fn X self T.tC) (by rw [sizeLine_eq]; show 1 ≤ 16777216; decide) ?_
  refine x_init (s := ⟨(hp.push (kdv_tup [v])).push (excO C hp.objs.size), g, dr, tk, os⟩) T M k hnone ?_ hget ?_ fun h' tk' dx t1 Y => ?_
  · show hp.objs.size ≤ ((hp.push (kdv_tup [v])).push (excO C hp.objs.size)).objs.size
    rw [Heap.size_push, Heap.size_push]
    omega
  · show A.depth + 1 < recursionLimit
    exact hroom
  · exact ⟨rfl, hq h' tk' (hp.objs.size + 1) dx ⟨Y.keep, Nat.le_succ _, ⟨_, _, Y.obj, rfl, rfl, rfl, rfl⟩, Y.dbig, Y.dne, Y.ns⟩⟩
end
end XW
end PySem
namespace L2
open PySem PySem.Spec PyProof.Rows
theorem relO_x {f : Str} {v : V} {v' : Value} (r : RelV v v') (g : Str) : RelO (List.lookup g [(f, v)]) (if g = f then some v' else none) := by
  by_cases hw : g = f
  · subst hw
    rw [if_pos rfl]
    have q : List.lookup g [(g, v)] = some v := by simp [List.lookup]
    rw [q]
    exact r
  · rw [if_neg hw]
    have qw : (g == f) = false := by simpa using hw
    have q2 : List.lookup g [(f, v)] = none := by simp [List.lookup, qw]
    rw [q2]
    trivial
section
variable {X : Cx} {C fI : Addr} {f : Str}
/-- C(e) -/
def tMkX (f : Str) (C : Addr) (ta : TA) : St → Hp → XK → Prop := fun σ H Q => ta σ H fun vs H1 => ∃ v, vs = [v] ∧ ∀ d, H1 d = none → Q (.ref C) (some d) (upd H1 d (.xd [(f, v)]))
theorem Inv.mod1 {pins : List (Addr × Obj)} {σ : St} {H : Hp} {s : Shared} (I : Inv X pins σ H s) : Mod X.K X.mg s.heap :=
  ⟨I.kIn, I.mod.glob.keeps I.bk, let ⟨mb, h1, h2⟩ := I.mod.blt; ⟨mb, h1.keeps I.bk, h2⟩, I.nolimit⟩
theorem pmk_x {nm : Str} {a : Expr} {ta : TA} {p pos : Pos} {k : Nat} (T : PySem.XW.XTxt X.prog X.K X.mg f C fI) (gC : X.mg nm = some (.ref C)) (hr : Room k X.A) (ha : PA X [a] ta) (hg : Gl X nm := by rfl)
    (hdb : (nm == ("__debug__" : Str)) = false := by decide) (he : starEach (a :: []) X.env = (false, eval a X.env) :: starEach [] X.env := by rfl) (hpl : (backTo pos (starEach [] X.env)).any (·.1) = false := by rfl) :
    PMk X (.Call (.Name nm p) [a] [] pos) (tMkX f C ta) := by
  intro pins s σ H Q I h
  refine wpAny_Call_Name_kw (ld_glob I hg gC ?_ hdb)
  refine PySem.W.callWith_K (h₀ := X.base) I.ok.mod.kin T.kC (thn (ha.run pos pins s σ H _ I h) fun us s1 hh => ?_) he hpl
  obtain ⟨vs, H1, I1, r1, v, ev, q1⟩ := hh
  subst ev
  refine ⟨I1.kIn, ?_⟩
  cases r1 with
  | cons rv rn =>
    rename_i v' us'
    cases rn
    show wpAny _ _ (call (.ref C) [v']) _ _ _
    have hmod := I1.mod1
    obtain ⟨hp, g, dr, tk, os⟩ := s1
    refine wpAny_call (PySem.XW.x_made T hmod (by have := hr.dp; omega) fun h' tk' e d M => ?_)
    show MkP X pins σ Q (.ref e) ⟨h', g, dr, tk', os⟩
    obtain ⟨oe, fv, hoe, hc, hd, hdat, h1⟩ := M.obj
    have hns := M.ns
    obtain ⟨G', g1, g2⟩ := restrict h' fun b => decide (b ≠ e)
    have gk : ∀ b, b ≠ e → G'.get? b = h'.get? b := fun b hb => g1 b (decide_eq_true hb)
    have ge : G'.get? e = none := g2 e (by simp)
    have old : ∀ b o, hp.get? b = some o → G'.get? b = some o := fun b o q => (gk b (Nat.ne_of_lt (Nat.lt_of_lt_of_le (Heap.lt_size q) M.new))).trans (M.keep b o q)
    have ob : ObjOk X.prog X.w (upd H1 d (.xd [(f, v)])) G' d (.xd [(f, v)]) :=
      ⟨_, hns.at (fun o q => (gk d M.dne).trans q), fun g => relO_x rv g⟩
    have J : Inv X pins σ (upd H1 d (.xd [(f, v)])) ⟨G', g, dr, tk', os⟩ := I1.laid (t' := tk') old M.dbig ob
    refine ⟨e, oe, fv, ⟨G', g, dr, tk', os⟩, _, .ref C, some d, rfl, J, fun b o q => ?_, ge, hoe, ⟨hc, hd⟩, hdat, h1, ?_, rfl, I1.bare, raises_own T.exC T.tyC, q1 d (I1.hok.fresh M.dbig)⟩
    · by_cases hb : b = e
      · have q' : G'.get? b = some o := q
        rw [hb, ge] at q'; cases q'
      · exact (gk b hb).symm.trans q
    · rw [upd_ne (Ne.symm M.dne)]
      exact I1.hok.fresh M.new
/-- raise C(e) -/
def tRaiseX (f : Str) (C : Addr) (W : WX) (ta : TA) : TS := fun _ σ H => tMkX f C ta σ H fun cls d H' => W cls d σ H'
theorem ps_raiseX {nm : Str} {a : Expr} {ta : TA} {W : WX} {p pos pos2 : Pos} {k : Nat} (hc : X.calm = true) (T : PySem.XW.XTxt X.prog X.K X.mg f C fI) (gC : X.mg nm = some (.ref C)) (hr : Room k X.A) (tk : Takes X W) (ha : PA X [a] ta) (hg : Gl X nm := by rfl)
    (hdb : (nm == ("__debug__" : Str)) = false := by decide) (he : starEach (a :: []) X.env = (false, eval a X.env) :: starEach [] X.env := by rfl) (hpl : (backTo pos (starEach [] X.env)).any (·.1) = false := by rfl) :
    PS X (.Raise (some (.Call (.Name nm p) [a] [] pos)) none pos2) (tRaiseX f C W ta) := ps_raise hc tk (pmk_x T gC hr ha hg hdb he hpl)
end
end L2

/-! enumerate of a tuple -/
namespace PySem
open Sem (wp)
open AutoSeq1 (wpAny_loadPart')
theorem kx_enum_newT (l : Addr) (items : Array Value) (o : Obj) (hoc : o.cls = .type "tuple") (n0 : Nat) (hod : o.data = .seq items n0) :
    Meets (Builtin.«enumerate.__new__» ⟨[.type "enumerate", .ref l], []⟩) (fun _ R s => s.heap.get? l = some o ∧
      R (.ok (.ret (.ref (s.heap.objs.size + 1)))) { s with heap := (s.heap.push { cls := .type "tuple_iterator", data := .fields #[.ref l, .int 0 0] }).push { cls := .type "enumerate", data := .fields #[.none, .bool false, .ref s.heap.objs.size, rawInt 0, .none, .none] } }) :=
  .of_wp fun prog w A R s h => by
    obtain ⟨hp, g, d, tk, os⟩ := s; obtain ⟨hl, h⟩ := h
    have hsub := sub_enumerate
    have hT : Heap.IsTuple (Shared.heap ⟨hp, g, d, tk, os⟩) l items := ⟨_, hl, hoc, n0, hod⟩
    have hz : (hp.push { cls := .type "tuple_iterator", data := .fields #[.ref l, .int 0 0] }).objs.size = hp.objs.size + 1 := Heap.size_push ..
    obtain ⟨oc, od, dt, sl⟩ := o
    replace hoc : oc = .type "tuple" := hoc
    replace hod : dt = .seq items n0 := hod
    subst hoc hod
    wp_walk using wpAny_loadPart' hl
    refine wpAny_stack_any fun st => wpAny_pure ?_
    split
    · rename_i c _ _ _ _ _
      cases (c == Value.type "enumerate") <;> (wp_walk using wpAny_loadPart' hl, wpAny_pyIter_tuple hT; rw [hz]; exact ⟨_, rfl, h⟩)
    · wp_walk using wpAny_loadPart' hl, wpAny_pyIter_tuple hT
      rw [hz]; exact ⟨_, rfl, h⟩
section
variable {prog : Program} {w : World} {A : Around} {E : Value → Shared → Prop} {s : Shared}
theorem kx_call_enumT {l : Addr} {items : Array Value} {Q : Value → Shared → Prop} (hL : s.heap.IsTuple l items)
    (h : ∀ h', IsEnum h' (s.heap.objs.size + 1) s.heap.objs.size 0 .none → h'.IsTupleIter s.heap.objs.size l 0 → (∀ b o, s.heap.get? b = some o → h'.get? b = some o) → Q (.ref (s.heap.objs.size + 1)) { s with heap := h' }) :
    wpAny (model prog w) A (call (.type "enumerate") [.ref l]) Q E s := by
  obtain ⟨o, hl, hc, n, hd⟩ := hL
  refine callType_new F.called_enumerate (by decide) (F.typeCall_enumerate_1 _) (F.newCall_enumerate_1 _) (fun obj => F.args_object_init_2 obj _) F.entry_enumerate_new (kx_enum_newT l items o hc n hd) ⟨hl, ?_⟩
  have hz : (s.heap.push { cls := .type "tuple_iterator", data := .fields #[.ref l, .int 0 0] }).objs.size = s.heap.objs.size + 1 := Heap.size_push ..
  have he : IsEnum ((s.heap.push { cls := .type "tuple_iterator", data := .fields #[.ref l, .int 0 0] }).push { cls := .type "enumerate", data := .fields #[.none, .bool false, .ref s.heap.objs.size, rawInt 0, .none, .none] }) (s.heap.objs.size + 1) s.heap.objs.size 0 .none := by
    have z := Heap.get?_push_size (s.heap.push { cls := .type "tuple_iterator", data := .fields #[.ref l, .int 0 0] }) (o := { cls := .type "enumerate", data := .fields #[.none, .bool false, .ref s.heap.objs.size, rawInt 0, .none, .none] }) rfl
    rw [hz] at z; exact z
  exact ⟨⟨_, he, rfl⟩, h _ he ⟨_, Heap.get?_push_of_some _ (Heap.get?_push_size _ rfl), rfl, rfl⟩ fun b o x => Heap.get?_push_of_some _ (Heap.get?_push_of_some _ x)⟩
end
end PySem
namespace L2
open PySem PySem.Spec PyProof.Rows
theorem apart_cls {h : Heap} {a b : Addr} {oa ob : Obj} (ha : h.get? a = some oa) (hb : h.get? b = some ob) (hc : oa.cls ≠ ob.cls) : a ≠ b := fun z => hc (by
  subst z
  rw [ha] at hb
  cases hb
  rfl)
/-- the tuple at a as it stands, the items in new pairs with their indexes -/
def IteT (K : PySem.W.Frag) (a : Addr) : It :=
  ⟨fun i H => ∃ (xs : List V) (x : V), SqT K H a xs ∧ xs[i]? = some x, fun i H v H' => ∃ T x, v = .ref T ∧ H T = none ∧ H' = upd H T (.tup [.int (i : Nat), x]) ∧ ∀ xs, SqT K H a xs → xs[i]? = some x, fun i H => ∃ xs : List V, SqT K H a xs ∧ xs.length = i⟩
theorem turn_enumT {P : Program} {w : World} {K : PySem.W.Frag} {elts : List Expr} {kk : Nat} {tpos : Pos} (a e it : Addr) :
    Turn P w K (.Tuple elts kk tpos) (IteT K a) [e, it] e (fun i h => (∃ old, IsEnum h e it ((0 : Int) + (i : Nat)) old) ∧ h.IsTupleIter it a i ∧ e ≠ it) where
  mem := List.mem_cons_self
  obj := fun i h st b hb => by
    obtain ⟨⟨old, he⟩, ⟨o, ho, hc, hd⟩, _⟩ := st
    rcases (show b = e ∨ b = it by simpa using hb) with rfl | rfl
    · exact ⟨_, he, fun v q => nomatch q⟩
    · exact ⟨o, ho, fun v q => by rw [hd] at q; cases q⟩
  keep := fun i h h' ⟨⟨old, he⟩, hi, hne⟩ k => ⟨⟨old, k e (List.mem_cons_self) _ he⟩, hi.at fun o q => k it (by simp) o q, hne⟩
  item := by
    intro X hP hw hK hc i pins s σ H E I hf st hg
    subst hP hw hK
    obtain ⟨⟨old, he⟩, hit, hne⟩ := st
    obtain ⟨xs, x, hq, hx⟩ := hg
    obtain ⟨its, rv, p, hz⟩ := I.tuple hq
    obtain ⟨u, hu, ru⟩ := rv.get hx
    have hp : s.heap.IsTuple a its.toArray := p
    obtain ⟨oa, ha, hac, na, had⟩ := id hp
    have hae : e ≠ a := apart_cls he ha (by rw [hac]; exact fun q => by injection q with q; exact absurd q (by decide))
    have hai : a ≠ it := by
      obtain ⟨o, ho, hc', hd'⟩ := hit
      exact apart_cls ha ho (by rw [hac, hc']; exact fun q => by injection q with q; exact absurd q (by decide))
    have G := GoesN.enumFrom (prog := X.prog) (w := X.w) (A := X.A) (elts := elts) (x1 := kk) (pos := tpos) 0 (Draws.tuple (A := X.A.in1) (I.ok.hd hc) it a hai its.toArray) e hne (by simp [hne, hae]) (by simp)
    refine G.goes i s _ E ?_ ⟨⟨old, he⟩, hit, hp⟩ fun v h' tk hY hst hkeep htk => ?_
    · have z : i < its.length := (List.getElem?_eq_some_iff.mp hu).1
      simpa using z
    obtain ⟨T, t, y, rfl, hT, hy, o, hTo, hTc, nT, hTd⟩ := hY
    obtain ⟨⟨old', he'⟩, hit', hp'⟩ := hst
    have hyu : y = u := by
      have : its.toArray[i]? = some u := by simpa using hu
      rw [this] at hy
      exact (Option.some.inj hy).symm
    subst hyu
    have new : ObjOk X.prog X.w (upd H T (.tup [.int (i : Nat), x])) h' T (.tup [.int (i : Nat), x]) :=
      ⟨by show 2 ≤ sizeLine; decide, [.int ((0 : Int) + (i : Nat)) t, y], .cons ⟨t, by rw [Int.zero_add]⟩ (.cons ru .nil), ⟨o, hTo, hTc, nT, hTd⟩⟩
    have I1 : Inv X pins σ (upd H T (.tup [.int (i : Nat), x])) { s with heap := h', toks := tk } :=
      I.turnedNew (ch := [e, it]) (fun b ob hb q => hkeep b ob hb q) hf hT new
    refine ⟨.ref T, _, I1, rfl, ⟨_, x, rfl, I.hok.fresh hT, rfl, fun ys hy' => by rw [I.tuple_inj hy' hq]; exact hx⟩, ⟨⟨_, he'⟩, hit', hne⟩, fun b hb => ?_⟩
    have hb' : b < s.heap.objs.size := by
      rcases (show b = e ∨ b = it by simpa using hb) with rfl | rfl
      · exact Heap.lt_size he
      · obtain ⟨_, q, _⟩ := hit
        exact Heap.lt_size q
    rw [upd_ne (Nat.ne_of_lt (Nat.lt_of_lt_of_le hb' hT))]
    exact (hf b hb).1
  done := by
    intro X hP hw hK hc i pins s σ H E I hf st hg
    subst hP hw hK
    obtain ⟨⟨old, he⟩, hit, hne⟩ := st
    obtain ⟨xs, hq, hx⟩ := hg
    obtain ⟨its, rv, p, hz⟩ := I.tuple hq
    have hp : s.heap.IsTuple a its.toArray := p
    obtain ⟨oa, ha, hac, na, had⟩ := id hp
    have hae : e ≠ a := apart_cls he ha (by rw [hac]; exact fun q => by injection q with q; exact absurd q (by decide))
    have hai : a ≠ it := by
      obtain ⟨o, ho, hc', hd'⟩ := hit
      exact apart_cls ha ho (by rw [hac, hc']; exact fun q => by injection q with q; exact absurd q (by decide))
    have G := GoesN.enumFrom (prog := X.prog) (w := X.w) (A := X.A) (elts := elts) (x1 := kk) (pos := tpos) 0 (Draws.tuple (A := X.A.in1) (I.ok.hd hc) it a hai its.toArray) e hne (by simp [hne, hae]) (by simp)
    have hn : i = its.toArray.size := by
      have := rv.length
      simp
      omega
    subst hn
    exact wpAny_mono (G.stops s (fun s1 => Inv X pins σ H s1) E ⟨⟨old, he⟩, hit, hp⟩ fun h' tk hk htk => I.turnedL (ch := [e, it]) (fun b o hb q => hk b o hb q) hf) (fun r s1 z => z) fun _ _ z => z
  self := fun A i s Q E ⟨⟨_, he⟩, _⟩ h => wpAny_pyIter_enum he h
/-- enumerate of a list or of a tuple -/
def iEnumA (K : PySem.W.Frag) (ta : TA) : TI := fun σ H R => ta σ H fun vs H1 => ∃ a xs, vs = [.ref a] ∧ ((SqL K H1 a xs ∧ R (Ite K a) H1) ∨ (SqT K H1 a xs ∧ R (IteT K a) H1))
theorem pi_enumA {X : Cx} {e : Expr} {ta : TA} {p pos tpos : Pos} {elts : List Expr} {kk : Nat} (hg : Gl X "enumerate") (hm : X.mg "enumerate" = none) (ha : PA X [e] ta) (hs : starEach [e] X.env = [(false, eval e X.env)] := by rfl) :
    PI X (.Tuple elts kk tpos) (.Call (.Name "enumerate" p) [e] [] pos) (iEnumA X.K ta) := by
  refine ⟨fun pins s σ H R I h => ?_⟩
  refine Call_ (ld_blt I hg hm boot_enumerate (PyProof.Rows.callWith_type1 (thn (ha.run pos pins s σ H _ I h) fun us s1 ⟨vs, H1, I1, r1, q1⟩ => ?_) hs rfl))
  obtain ⟨a, xs, rfl, q1⟩ := q1
  cases r1 with
  | cons r rr =>
    cases rr
    cases r
    have old : ∀ b, b = s1.heap.objs.size + 1 ∨ b = s1.heap.objs.size → s1.heap.objs.size ≤ b := fun b z => by rcases z with rfl | rfl <;> omega
    rcases q1 with ⟨hq, q⟩ | ⟨hq, q⟩
    · obtain ⟨its, rv, p', hz⟩ := I1.list hq
      refine call_enumerate_list p'.isList fun h' he hit hsz hk => wpAny_pyIter_enum he ?_
      refine ⟨s1.heap.objs.size + 1, [s1.heap.objs.size + 1, s1.heap.objs.size], _, _, H1, rfl, I1.kept (t' := s1.toks) hk, turn_enum a (s1.heap.objs.size + 1) s1.heap.objs.size, ⟨⟨.none, he⟩, hit, Nat.succ_ne_self _⟩, fun b hb => ?_, q⟩
      have hle := old b (by simpa using hb)
      exact I1.fpOk hle (I1.hok.fresh hle)
    · obtain ⟨its, rv, p', hz⟩ := I1.tuple hq
      refine kx_call_enumT (show s1.heap.IsTuple a its.toArray from p') fun h' he hit hk => wpAny_pyIter_enum he ?_
      refine ⟨s1.heap.objs.size + 1, [s1.heap.objs.size + 1, s1.heap.objs.size], _, _, H1, rfl, I1.kept (t' := s1.toks) hk, turn_enumT a (s1.heap.objs.size + 1) s1.heap.objs.size, ⟨⟨.none, he⟩, hit, Nat.succ_ne_self _⟩, fun b hb => ?_, q⟩
      have hle := old b (by simpa using hb)
      exact I1.fpOk hle (I1.hok.fresh hle)
theorem walk_enumT {K : PySem.W.Frag} {a : Addr} {xs : List V} : Walk (IteT K a) xs.length (fun H => SqT K H a xs) (YPair (fun i => some (.int (i : Nat))) (fun i => xs[i]?)) := by
  refine ⟨fun i _ hi q => ⟨xs, xs[i], q, by simp [hi]⟩, fun _ q => ⟨xs, q, rfl⟩, fun i H v H' _ q y => ?_⟩
  obtain ⟨T, x, h1, h2, h3, h4⟩ := y
  exact ⟨T, .int (i : Nat), x, h1, h2, h3, rfl, h4 xs q⟩
/-- the loop over enumerate of a list or of a tuple -/
theorem for_enumA {K : PySem.W.Frag} {a : Addr} {xs : List V} {g : TG} {tb : TS} {D : Ends} {σ : St} {H : Hp} (hq : SqL K H a xs ∨ SqT K H a xs) (Pv : Nat → St → Hp → Prop) (h0 : Pv 0 σ H)
    (hl : SqL K H a xs → ∀ i σ' H', Pv i σ' H' → SqL K H' a xs) (ht : SqT K H a xs → ∀ i σ' H', Pv i σ' H' → SqT K H' a xs)
    (hs : ∀ i x T σ H', xs[i]? = some x → Pv i σ H' → H' T = none → g (.ref T) σ (upd H' T (.tup [.int (i : Nat), x])) fun σ2 H2 => tb { D with nx := Pv (i + 1), ct := Pv (i + 1), bk := D.nx } σ2 H2) (hd : ∀ σ H', Pv xs.length σ H' → D.nx σ H') :
    (SqL K H a xs ∧ ∃ W : Nat → Nat → St → Hp → Prop, (∃ m, W 0 m σ H) ∧ ∀ i m σ H, W i m σ H →
      ((Ite K a).stop i H ∧ D.nx σ H) ∨ ((Ite K a).go i H ∧ ∃ N : St → Hp → Prop, (∀ σ' H', N σ' H' → ∃ m', m' < m ∧ W (i + 1) m' σ' H') ∧ ∀ x H', (Ite K a).yld i H x H' → g x σ H' fun σ2 H2 => tb { D with nx := N, ct := N, bk := D.nx } σ2 H2)) ∨
    (SqT K H a xs ∧ ∃ W : Nat → Nat → St → Hp → Prop, (∃ m, W 0 m σ H) ∧ ∀ i m σ H, W i m σ H →
      ((IteT K a).stop i H ∧ D.nx σ H) ∨ ((IteT K a).go i H ∧ ∃ N : St → Hp → Prop, (∀ σ' H', N σ' H' → ∃ m', m' < m ∧ W (i + 1) m' σ' H') ∧ ∀ x H', (IteT K a).yld i H x H' → g x σ H' fun σ2 H2 => tb { D with nx := N, ct := N, bk := D.nx } σ2 H2)) := by
  rcases hq with q | q
  · refine .inl ⟨q, for_it (walk_enum (K := K) (a := a) (xs := xs)) Pv h0 (fun i σ' H' _ p => hl q i σ' H' p) ?_ hd⟩
    rintro i x σ' H1 H2 hi p ⟨T, x1, y, rfl, hT, rfl, e1, e2⟩
    cases e1
    exact hs i y T σ' H1 e2 p hT
  · refine .inr ⟨q, for_it (walk_enumT (K := K) (a := a) (xs := xs)) Pv h0 (fun i σ' H' _ p => ht q i σ' H' p) ?_ hd⟩
    rintro i x σ' H1 H2 hi p ⟨T, x1, y, rfl, hT, rfl, e1, e2⟩
    cases e1
    exact hs i y T σ' H1 e2 p hT
end L2

/-! tuple of a dict -/
namespace PySem
open Sem (wp)
open AutoSeq1 (wpAny_loadPart')
open PySem.W
section
variable {prog : Program} {w : World} {A : Around} {E : Value → Shared → Prop} {s : Shared} {T : String} {r d : Addr} {n : Nat} {P : Nat → Value → Prop} {OK : Heap → Prop}
theorem kx_collect {Q : List Value → Shared → Prop} (S : KdlSrc prog w T r d n P OK) (hh : A.handled = none) (hok : OK s.heap) (hn : n ≤ sizeLine)
    (hQ : ∀ h' tk (acc : Array Value), s.heap.objs.size < h'.objs.size → (∀ b o, s.heap.get? b = some o → h'.get? b = some o) → ItemsOf P acc n → Q acc.toList { s with heap := h', toks := tk }) :
    wpAny (model prog w) A (collect (.ref r)) Q E s := by
  unfold collect
  refine wpAny_bind (wpAny_runValue (codeAny_builtin F.entry_proto_collect ?_))
  rw [Around.under_plainId F.plain_proto_collect _]
  show wpAny _ A.in1 (newList [] >>= fun l => again (.builtin "list.__iadd__" ⟨[l, .ref r], []⟩)) _ _ s
  refine wpAny_bind (wpAny_newObj_type ?_)
  refine wpAny_pure ⟨plainId_quiet F.plain_list_iadd _, codeAny_builtin F.entry_list_iadd ?_⟩
  rw [Around.under_plainId F.plain_list_iadd _]
  show wpAny _ A.in1 (Builtin.List.listExtendWith (.ref s.heap.objs.size) (.ref r) (.ref s.heap.objs.size)) _ _ _
  have hS : (s.heap.push { cls := .type "list", data := .seq ([] : List Value).toArray }).get? s.heap.objs.size = some { cls := .type "list", data := .seq #[] } := Heap.get?_push_size _ rfl
  have hlt := S.there _ hok
  have key : ∀ h' tk (acc : Array Value) c, (∀ b o, b ≠ s.heap.objs.size → (s.heap.push { cls := .type "list", data := .seq ([] : List Value).toArray }).get? b = some o → h'.get? b = some o) → h'.get? s.heap.objs.size = some { cls := .type "list", dict := none, data := .seq acc c, slots := #[] } → ItemsOf P acc n →
      Q acc.toList { s with heap := h', toks := tk } := fun h' tk acc c hk hS' hacc => hQ h' tk acc (Heap.lt_size hS') (fun b o e => hk b o (Nat.ne_of_lt (Heap.lt_size e)) (Heap.get?_push_of_some _ e)) hacc
  refine wpAny_mono (kdl_extend (s := { s with heap := s.heap.push { cls := .type "list", data := .seq ([] : List Value).toArray } }) (R := fun r s' => ∃ h' tk acc c, r = .ok (.ret (.ref s.heap.objs.size)) ∧ s' = { s with heap := h', toks := tk } ∧ h'.get? s.heap.objs.size = some { cls := .type "list", dict := none, data := .seq acc c, slots := #[] } ∧ Q acc.toList { s with heap := h', toks := tk })
    S hh (S.keep s.heap _ hok fun b _ o e => Heap.get?_push_of_some _ e) s.heap.objs.size (Nat.ne_of_gt hlt.1) (Nat.ne_of_gt hlt.2) (.ref s.heap.objs.size) 0 hS (fun h' tk acc c hk hS' hacc => ⟨h', tk, acc, c, rfl, rfl, hS', key h' tk acc c hk hS' hacc⟩) hn) (fun fin s' z => ?_) fun e s' z => ?_
  · cases fin with
    | done f =>
      obtain ⟨h', tk, acc, c, hf, rfl, hS', hq⟩ := z
      cases hf
      exact wpAny_bind (wpAny_load hS' (wpAny_pure hq))
    | again c' =>
      refine ⟨z.1, codeAny_mono z.2 fun r s'' z' => ?_⟩
      obtain ⟨h', tk, acc, c, rfl, rfl, hS', hq⟩ := z'
      exact wpAny_bind (wpAny_load hS' (wpAny_pure hq))
  · obtain ⟨h', tk, acc, c, hf, _⟩ := z
    cases hf
theorem kx_tuple_newIn (S : KdlSrc prog w T r d n P OK) (hne : (Value.type T == Value.type "tuple") = false) (hn : n ≤ sizeLine) :
    MeetsIn prog w (Builtin.«tuple.__new__» ⟨[.type "tuple", .ref r], []⟩) (fun A R s => A.handled = none ∧ OK s.heap ∧ ∀ (h' : Heap) (tk : Nat) (acc : Array Value), s.heap.objs.size < h'.objs.size → (∀ b o, s.heap.get? b = some o → h'.get? b = some o) → ItemsOf P acc n →
        R (.ok (.ret (.ref h'.objs.size))) { s with heap := h'.push { cls := .type "tuple", data := .seq acc }, toks := tk }) :=
  .of_wp fun A R s h => by
    obtain ⟨hh, hok, h⟩ := h
    have hsub := sub_tuple_self
    have hinit := init_tuple_lookup
    have hmh := madeHere_tuple
    have hT : s.TypeIs (.ref r) T := S.type s hok
    have hh1 : A.in1.handled = none := hh
    wp_walk using wpAny_typeOf hT, kx_collect S hh1 hok hn
    intro h' tk acc hlt hk hacc
    show wpAny _ _ (Builtin.Tuple.tupleExact acc.toList.toArray >>= fun v => ret v) _ _ _
    unfold Builtin.Tuple.tupleExact
    refine wpAny_bind (wpAny_newObj_type ?_ (show acc.toList.toArray.size ≤ sizeLine by rw [Array.toArray_toList, hacc.1]; exact hn))
    refine wpAny_pure ⟨_, rfl, ?_⟩
    rw [show acc.toList.toArray = acc from Array.toArray_toList]
    exact h h' tk acc hlt hk hacc
theorem kx_call_tupleK {Q : Value → Shared → Prop} (S : KdlSrc prog w T r d n P OK) (hne : (Value.type T == Value.type "tuple") = false) (hn : n ≤ sizeLine) (hh : A.handled = none) (hok : OK s.heap)
    (h : ∀ (h' : Heap) (tk : Nat) (acc : Array Value), s.heap.objs.size < h'.objs.size → (∀ b o, s.heap.get? b = some o → h'.get? b = some o) → ItemsOf P acc n → Q (.ref h'.objs.size) { s with heap := h'.push { cls := .type "tuple", data := .seq acc }, toks := tk }) :
    wpAny (model prog w) A (call (.type "tuple") [.ref r]) Q E s :=
  callType_newIn F.called_tuple (by decide) (F.typeCall_tuple_1 _) (F.newCall_tuple_1 _) (fun obj => F.args_object_init_2 obj _) F.entry_tuple_new (kx_tuple_newIn S hne hn)
    ⟨hh, hok, fun h' tk acc hlt hk hacc => ⟨⟨_, Heap.get?_push_size _ rfl, rfl⟩, h h' tk acc hlt hk hacc⟩⟩
end
end PySem
namespace L2
open PySem PySem.Spec PyProof.Rows
/-- tuple(d): the keys in a new tuple -/
def rTupD : List V → Hp → VK → Prop := fun xs H Q => ∃ p kvs, xs = [.ref p] ∧ H p = some (.dK kvs) ∧ ∀ q, H q = none → Q (.ref q) (upd H q (.tup (kvs.map fun kv => kV kv.1)))
theorem call_tuple_dK {X : Cx} (hc : X.calm = true) : CallR X (.type "tuple") rTupD := by
  intro pins s σ H xs us Q I r h
  obtain ⟨p, kvs, rfl, hk, q⟩ := h
  obtain ⟨u, rfl, rx⟩ := vals1 r
  obtain rfl : u = Value.ref p := rx
  obtain ⟨z, lo, vs, rk, hd⟩ := (show ObjOk X.prog X.w H s.heap p (.dK kvs) from I.hok p _ hk)
  obtain ⟨ep, hat⟩ := hd.dictAt
  have hl : kvs.length = vs.length := Paired.length rk
  refine kx_call_tupleK (PySem.W.kdl_dict (knd := mixKind X.prog X.w) (kvs := vs) (ep := ep) lo) (by decide) (by rw [← hl]; exact z) (I.ok.hd hc) hat fun h' tk acc hgrow hkeep hacc => ?_
  have hsz : s.heap.objs.size ≤ h'.objs.size := Nat.le_of_lt hgrow
  have nn : H h'.objs.size = none := I.hok.fresh hsz
  have ho : ObjOk X.prog X.w (upd H h'.objs.size (.tup (kvs.map fun kv => kV kv.1))) (h'.push { cls := .type "tuple", data := .seq acc }) h'.objs.size (.tup (kvs.map fun kv => kV kv.1)) := by
    refine ⟨by rw [List.length_map]; exact z, acc.toList, ?_, ⟨_, Heap.get?_push_size _ rfl, rfl, 0, by rw [Array.toArray_toList]⟩⟩
    have el : acc.toList.length = acc.size := by simp
    refine vals_of_at (by rw [List.length_map, el, hacc.1, hl]) fun j x w h1 h2 => ?_
    obtain ⟨k, y, hky, hi⟩ := hacc.2 j w (by rw [← Array.getElem?_toList]; exact h2)
    have e1 : (kvs.map (·.1))[j]? = some k := by
      rw [KV.keys rk, List.getElem?_map, hky] <;> rfl
    have e3 : (kvs.map fun kv => kV kv.1) = (kvs.map (·.1)).map kV := by rw [List.map_map] <;> rfl
    rw [e3, List.getElem?_map, e1] at h1
    cases h1
    exact keyIs_rel hi
  exact ⟨.ref h'.objs.size, _, I.laid (fun b o e => Heap.get?_push_of_some _ (hkeep b o e)) hsz ho, rfl, q _ nn⟩
end L2

/-! isinstance of a def of the text -/
namespace PySem
open Sem (wp)
namespace KXF
theorem slot_fn_ga : Slot "function" "__getattribute__" "object.__getattribute__" :=
  .of (owner := "object") (n := "__getattribute__") (by rw [typeLookup_type, builtinLookup_eq_fast]; kernel_rfl) (by decide +kernel) (by decide +kernel) (by decide +kernel)
    (by first | exact .inl (by decide +kernel) | exact .inr (by decide +kernel)) (by rw [isSubtype_type]; kernel_rfl)
theorem entry_obj_ga : entryFor table "object.__getattribute__" = some Builtin.«object.__getattribute__» := entryFor_of_tree (by kernel_rfl)
theorem args_obj_ga (a b : Value) : argsOk "object.__getattribute__" ⟨[a, b], []⟩ := by unfold argsOk; kernel_rfl
theorem lk_fn_class : typeLookup (.type "function") "__class__" = pure (some (.builtin "object.__class__")) := by rw [typeLookup_type, builtinLookup_eq_fast]; kernel_rfl
theorem sub_fn_owner : isSubtype (.type "function") (.type (".".intercalate ("object.__class__".cutAt '.').dropLast)) = pure true := by
  rw [F.owner_object_class, isSubtype_type]; kernel_rfl
end KXF
section
variable {prog : Program} {w : World} {A : Around} {E : Value → Shared → Prop} {h : Heap} {g : Array GenState} {d : Drawn} {t : Nat} {os : OsState} {a : Addr} {o : Obj}
theorem kxf_get {R : Result → Shared → Prop} (hx : h.get? a = some o) (hc : o.cls = .type "function") (hq : R (.ok (.ret (.type "function"))) ⟨h, g, d, t, os⟩) :
    codeAny (model prog w) A (.call (.builtin "getset_descriptor.__get__") ⟨[.builtin "object.__class__", .ref a, .type "function"], []⟩) R ⟨h, g, d, t, os⟩ := by
  have hT : (⟨h, g, d, t, os⟩ : Shared).TypeIs (.ref a) "function" := ⟨_, hx, hc⟩
  have f8 := KXF.sub_fn_owner
  refine codeAny_call_builtin F.slot_gs_get.plain F.entry_gs_get (F.slot_gs_get.check _ _ _ _ _ _ _ _ (show (⟨h, g, d, t, os⟩ : Shared).TypeIs (.builtin "object.__class__") "getset_descriptor" from F.typeOf_object_class) (F.args_gs_get _ _ _) ?_)
  repeat (any_goals (first | wp_step | assumption))
  refine ⟨Code.quiet_builtin _ (by decide +kernel), codeAny_builtin F.entry_object_class ?_⟩
  repeat (any_goals (first | wp_step | assumption))
theorem kxf_entry {tk : Tok} {Q : Fin → Shared → Prop} (hx : h.get? a = some o) (hc : o.cls = .type "function") (hq : Q (.done (.ret (.type "function"))) ⟨h, g, d, t, os⟩) :
    wpAny (model prog w) A (Builtin.«object.__getattribute__» ⟨[.ref a, .str "__class__" tk], []⟩) Q E ⟨h, g, d, t, os⟩ := by
  have hT : (⟨h, g, d, t, os⟩ : Shared).TypeIs (.ref a) "function" := ⟨_, hx, hc⟩
  have f4 := KXF.lk_fn_class
  have f5 := F.typeOf_object_class
  have hT5 : (⟨h, g, d, t, os⟩ : Shared).TypeIs (.builtin "object.__class__") "getset_descriptor" := f5
  have f6 := F.slot_gs_get.lookup
  have f7 := F.slot_gs_set.lookup
  repeat (any_goals (first | wp_step | assumption))
  refine kxf_get hx hc ?_
  repeat (any_goals (first | wp_step | assumption))
theorem kxf_call {tk : Tok} {R : Result → Shared → Prop} (hx : h.get? a = some o) (hc : o.cls = .type "function") (hq : R (.ok (.ret (.type "function"))) ⟨h, g, d, t, os⟩) :
    codeAny (model prog w) A (.call (.builtin "object.__getattribute__") ⟨[.ref a, .str "__class__" tk], []⟩) R ⟨h, g, d, t, os⟩ :=
  codeAny_call_builtin KXF.slot_fn_ga.plain KXF.entry_obj_ga (KXF.slot_fn_ga.check _ _ _ _ _ _ _ _ (show (⟨h, g, d, t, os⟩ : Shared).TypeIs (.ref a) "function" from ⟨_, hx, hc⟩) (KXF.args_obj_ga _ _) (kxf_entry hx hc hq))
theorem kxf_by {tk : Tok} {Q : Value → Shared → Prop} (hx : h.get? a = some o) (hc : o.cls = .type "function") (hq : Q (.type "function") ⟨h, g, d, t, os⟩) : wpAny (model prog w) A (getAttrBy (.ref a) (.str "__class__" tk) false) Q E ⟨h, g, d, t, os⟩ := by
  have hT : (⟨h, g, d, t, os⟩ : Shared).TypeIs (.ref a) "function" := ⟨_, hx, hc⟩
  have f2 := KXF.slot_fn_ga.lookup
  have f3 := KXF.slot_fn_ga.bind (.ref a)
  repeat (any_goals (first | wp_step | assumption))
  refine kxf_call hx hc ?_
  repeat (any_goals (first | wp_step | assumption))
theorem kxf_attr {Q : Option Value → Shared → Prop} (hx : h.get? a = some o) (hc : o.cls = .type "function") (hq : Q (some (.type "function")) ⟨h, g, d, t + 1, os⟩) : wpAny (model prog w) A (getAttr? (.ref a) "__class__") Q E ⟨h, g, d, t, os⟩ := by
  unfold getAttr? getAttrBy?
  repeat (any_goals (first | with_reducible apply kxf_by hx hc | wp_step | assumption))
end
namespace W
theorem kitx_fn {K : Frag} {a : Addr} : KitX K (.ref a) (.type "function") (KitAt a "function") :=
  kitx_of kitAt_ty (fun {_ _ _ _ _ s} p k => by obtain ⟨h, g, d, t, os⟩ := s; obtain ⟨o, h1, h2⟩ := p; exact kxf_attr h1 h2 k)
end W
end PySem
namespace L2
open PySem PySem.Spec PyProof.Rows
/-- a value's type: as TyX tells, or a def of the text -/
inductive TyZ (K : PySem.W.Frag) (H : Hp) : V → Value → Prop where
  | x {v : V} {t : Value} (h : TyX K H v t) : TyZ K H v t
  | fn {a : Addr} {o : Obj} (e : K.lookup a = some o) (c : o.cls = .type "function") : TyZ K H (.ref a) (.type "function")
section
variable {X : Cx} {pins : List (Addr × Obj)} {σ : St} {H : Hp} {s : Shared}
theorem kit_ofZ {x : V} {u t : Value} (I : Inv X pins σ H s) (rx : RelV x u) (ty : TyZ X.K H x t) : ∃ P : Heap → Prop, PySem.W.KitX X.K u t P ∧ P s.heap ∧ u ≠ .builtin "__main__.__loader__#opaque" := by
  cases ty with
  | x h => exact kit_of I rx h
  | @fn a o e c =>
    cases (show u = Value.ref a from rx)
    exact ⟨_, PySem.W.kitx_fn, ⟨o, I.kIn a o e, c⟩, fun z => nomatch z⟩
end
/-- isinstance(x, c); isinstance(x, (c1, c2, ..)) -/
def rIsiZ (K : PySem.W.Frag) : List V → Hp → VK → Prop := fun xs H Q => ∃ (x c : V) (t u : Value) (b : Bool), xs = [x, c] ∧ ClsV c u ∧ TyZ K H x t ∧ PySem.W.kitOne K t u = some b ∧ Q (.bl b) H
def rIsiTZ (K : PySem.W.Frag) : List V → Hp → VK → Prop := fun xs H Q => ∃ (x : V) (tp : Addr) (cs : List V) (t : Value) (us : List Value) (b : Bool), xs = [x, .ref tp] ∧ H tp = some (.tup cs) ∧ Paired ClsV cs us ∧ TyZ K H x t ∧ PySem.W.kitAny K t us = some b ∧ Q (.bl b) H
section
variable {X : Cx}
theorem call_isiZ : CallR X (.builtin "isinstance") (rIsiZ X.K) := by
  intro pins s σ H xs us Q I r h
  obtain ⟨x, c, t, u, b, rfl, k, ty, e, q⟩ := h
  obtain ⟨u1, u2, rfl, r1, r2⟩ := vals2 r
  have e2 := k.eq r2
  subst e2
  obtain ⟨P, Z, p, hx⟩ := kit_ofZ I r1 ty
  exact PySem.W.kia_one Z I.kIn p e hx fun tk => ⟨.bl b, H, I.tok tk, rfl, q⟩
theorem call_isiTZ : CallR X (.builtin "isinstance") (rIsiTZ X.K) := by
  intro pins s σ H xs us Q I r h
  obtain ⟨x, tp, cs, t, ws, b, rfl, hT, k, ty, e, q⟩ := h
  obtain ⟨u1, u2, rfl, r1, r2⟩ := vals2 r
  cases (show u2 = Value.ref tp from r2)
  obtain ⟨P, Z, p, hx⟩ := kit_ofZ I r1 ty
  obtain ⟨_, its, rv, o, h1, h2, n, h3⟩ := (show ObjOk X.prog X.w H s.heap tp (.tup cs) from I.hok tp _ hT)
  have e3 := ClsV.all k rv
  subst e3
  obtain ⟨oc, od, dt, sl⟩ := o
  simp only at h2 h3
  subst h2 h3
  exact PySem.W.kia_tup Z I.kIn p h1 e hx fun tk => ⟨.bl b, H, I.tok tk, rfl, q⟩
end
end L2

/-! own == and its != against anything -/
namespace PySem.W
open PySem PySem.Spec PySem.Calls PyProof.Rows PyProof.V
section
variable {prog : Program} {w : World} {A : Around} {E : Value → Shared → Prop} {s : Shared} {K : Frag} {x C f : Addr} {ox : Obj} {od : Option Obj} {b tb : Value}
/-- object.__ne__ bound to an instance and called -/
theorem kxe_special {Q : Option Value → Shared → Prop} (X : K.In s.heap) (I : InstAt s.heap x ox C od) (hs : findIn K (.ref C) "__ne__" = some (some (.builtin "object.__ne__")))
    (h : wpAny (model prog w) A (call (.builtin "object.__ne__") [.ref x, b]) (fun v => Q (some v)) E s) : wpAny (model prog w) A (callSpecialIfBound? (.ref x) "__ne__" [b]) Q E s := by
  simp only [callSpecialIfBound?, bindSpecialIfBound?]
  refine wpAny_holding (wpAny_bind (wpAny_bind (wpAny_bind (I.type.here ((looks_findIn X hs).here (wpAny_bind (wpAny_askSetting (wpAny_ite ?_))))))))
  have bn : bindSpecial (.builtin "object.__ne__") (.ref x) = pure (.builtin "object.__ne__", [.ref x]) := F.cmp_object.ne.bind (.ref x)
  have fin : wpAny (model prog w) A (call (.builtin "object.__ne__") ([.ref x] ++ [b]) >>= fun v => pure (some v)) Q E s := wpAny_bind (wpAny_mono h (fun v s' h' => wpAny_pure h') fun _ _ h' => h')
  split
  · exact wpAny_bind (wpAny_of_eq bn (wpAny_pure (by exact fin)))
  · exact wpAny_tryCatch (wpAny_bind (wpAny_of_eq bn (wpAny_pure (by exact fin))))
theorem kxe_obj_ne {Q : Fin → Shared → Prop} (hu : A.units < cLine) (X : K.In s.heap) (I : InstAt s.heap x ox C od) (he : findIn K (.ref C) "__eq__" = some (some (.ref f))) (hf : isFn K (.ref f) = true)
    (h : wpAny (model prog w) A (call (.ref f) [.ref x, b]) (fun v s' => ∃ k, v = .bool k ∧ Q (.done (.ret (.bool (!k)))) s') E s) :
    wpAny (model prog w) A (Builtin.«object.__ne__» ⟨[.ref x, b], []⟩) Q E s := by
  unfold Builtin.«object.__ne__»
  repeat (first
    | with_reducible refine wpAny_cRoomFor hu ?_
    | (refine wpAny_bind (m := callSpecialIfBound? (.ref x) (Str.ofString "__eq__") [b]) (ifBound_K X I he hf (wpAny_mono h (fun r s' hr => by
          obtain ⟨k, rfl, hq⟩ := hr
          repeat (first | exact hq | exact wpAny_pure hq | exact wpAny_truthy_bool hq | (refine wpAny_bind (m := truthy (.bool _)) (wpAny_truthy_bool ?_)) | wp_step)) fun _ _ e => e)))
    | wp_step)
theorem kxe_call {Q : Value → Shared → Prop} (hu : A.units + 1 < cLine) (X : K.In s.heap) (I : InstAt s.heap x ox C od) (he : findIn K (.ref C) "__eq__" = some (some (.ref f))) (hf : isFn K (.ref f) = true) (ho : mroIn K C (.type "object") = some true)
    (h : wpAny (model prog w) A.in1 (call (.ref f) [.ref x, b]) (fun v s' => ∃ k, v = .bool k ∧ Q (.bool (!k)) s') E s) :
    wpAny (model prog w) A (call (.builtin "object.__ne__") [.ref x, b]) Q E s := by
  refine wpAny_call (codeAny_call_builtin F.cmp_object.ne.plain F.cmpEntry_ne (check_slot F.cmpKind_ne F.cmpSplit_ne (I.type.andThen (looks_mroIn X ho)) (F.cmpArgs_ne _ _) ?_))
  refine kxe_obj_ne (A := A.in1) hu X I he hf (wpAny_mono h (fun v s' hv => ?_) fun _ _ e => e)
  obtain ⟨k, rfl, hq⟩ := hv
  exact ⟨k, rfl, hq⟩
/-- x != b, x an instance whose class has its own == and object's != -/
theorem kxe_rich {Q : Value → Shared → Prop} (hu : A.units + 1 < cLine) (X : K.In s.heap) (I : InstAt s.heap x ox C od) (hb : Looks (model prog w) s.heap (typeOf b) tb) (hn : notFirst K C tb = true)
    (hs : findIn K (.ref C) "__ne__" = some (some (.builtin "object.__ne__"))) (he : findIn K (.ref C) "__eq__" = some (some (.ref f))) (hf : isFn K (.ref f) = true) (ho : mroIn K C (.type "object") = some true)
    (h : wpAny (model prog w) A.in1 (call (.ref f) [.ref x, b]) (fun v s' => ∃ k, v = .bool k ∧ Q (.bool (!k)) s') E s) : wpAny (model prog w) A (richCompare .NotEq (.ref x) b) Q E s := by
  have one : wpAny (model prog w) A (tryCompare (.ref x) (cmpInfo .NotEq).2.1 b) (fun r s' => ∃ v, r = some v ∧ Q v s') E s := by
    unfold tryCompare
    refine wpAny_bind (kxe_special X I hs (kxe_call hu X I he hf ho (wpAny_mono h (fun v s' hv => ?_) fun _ _ e => e)))
    obtain ⟨k, rfl, hq⟩ := hv
    exact ⟨k, rfl, wpAny_pure ⟨_, rfl, hq⟩⟩
  unfold richCompare
  simp only [oneThing_ref]
  refine wpAny_holding (wpAny_bind (wpAny_cRoomFor (Nat.lt_of_succ_lt hu) (wpAny_bind (I.type.here (wpAny_bind (hb.here ?_))))))
  split
  · rename_i q
    have e : subIn K tb (.ref C) = some false := (Bool.or_eq_true_iff.mp hn).elim (fun e => absurd q (by rw [beq_iff_eq.mp e]; simp)) fun e => beq_iff_eq.mp e
    refine wpAny_bind ((looks_subIn X e).here ?_)
    rw [if_neg Bool.false_ne_true]
    exact wpAny_bind (wpAny_mono one (fun r s' ⟨v, hv, hq⟩ => by subst hv; exact wpAny_pure hq) fun _ _ e => e)
  · refine wpAny_bind (wpAny_pure ?_)
    rw [if_neg Bool.false_ne_true]
    exact wpAny_bind (wpAny_mono one (fun r s' ⟨v, hv, hq⟩ => by subst hv; exact wpAny_pure hq) fun _ _ e => e)
end
end PySem.W
namespace L2
open PySem PySem.Spec PyProof.Rows
/-- an instance of C against anything: what the class's == promises, its answer b told as g b -/
def rOwn (K : PySem.W.Frag) (C : Addr) (sp : Sp) (E : XK) (g : Bool → Bool) : R2 := fun x y H Q => ∃ (a dx : Addr) (fs : List (Str × V)) (t : Value), x = .ref a ∧ H a = some (.ins C dx fs) ∧ TyZ K H y t ∧ PySem.W.notFirst K C t = true ∧
  sp [.ref a, y] H (fun v H' => ∃ b, v = .bl b ∧ Q (.bl (g b)) H') E
section
variable {X : Cx} {CX : CXT} {n : Nat} {C f : Addr} {fd : FuncData} {ps : List Str} {sp : Sp} {E : XK}
theorem own_run (F : FnOk X.prog X.w X.K X.mg X.base CX n f fd ps sp) (hb : Binds X.K fd ps []) (hx : Passes CX X E) {A : Around} {pins : List (Addr × Obj)} {σ : St} {H : Hp} {s : Shared} {a : Addr} {y : V} {u : Value} {g : Bool → Bool} {Q : VK}
    (hr : Room n A) (hA : A.frames = X.A.frames) (I : Inv X pins σ H s) (ry : RelV y u) (h : sp [.ref a, y] H (fun v H' => ∃ b, v = .bl b ∧ Q (.bl (g b)) H') E) :
    wpAny (model X.prog X.w) A (call (.ref f) [.ref a, u]) (fun v s' => ∃ b, v = .bool b ∧ EP X pins σ Q (.bool (g b)) s') X.xe s := by
  have hl := F.len _ _ _ _ h
  have e0 : Env0 X.prog X.w X.K X.mg X.base A X.stack s H := by
    have e := I.env0
    exact ⟨hA.trans e.frames, e.mod, e.bs, e.bsz, e.funs, e.frf, e.hok, e.bare⟩
  refine wpAny_call (codeAny_mono (F.run A X.stack s H ⟨[.ref a, u], []⟩ [.ref a, u] [.ref a, y] _ E hr e0 ?_ (.cons rfl (.cons ry .nil)) h) fun r s' hq => ?_)
  · have z := hb s [.ref a, u] I.kIn (by simpa using hl)
    simpa using z
  · cases r with
    | error e => exact hx pins σ H s e s' I hq
    | ok fl =>
      cases fl with
      | ret w =>
        obtain ⟨z, H', I', rz, b, ez, q⟩ := I.after hq
        subst ez
        cases rz
        exact ⟨b, rfl, .bl (g b), H', I', rfl, q⟩
      | next => exact False.elim hq
      | brk => exact False.elim hq
      | cont => exact False.elim hq
theorem op_eqO (F : FnOk X.prog X.w X.K X.mg X.base CX n f fd ps sp) (hr : Room n X.A) (hb : Binds X.K fd ps []) (hx : Passes CX X E)
    (hs : PySem.W.findIn X.K (.ref C) "__eq__" = some (some (.ref f))) (hf : PySem.W.isFn X.K (.ref f) = true) : OpR X (compareOp .Eq) (rOwn X.K C sp E id) := by
  intro pins s σ H x y v u Q I rx ry hq
  obtain ⟨a, dx, fs, t, rfl, ha, ty, hn, h⟩ := hq
  cases rx
  obtain ⟨mA, J, _⟩ := ins_get I.hok ha
  obtain ⟨od, J, _⟩ := J.look
  obtain ⟨m, hF⟩ := I.fr
  obtain ⟨P, Z, p, _⟩ := kit_ofZ I ry ty
  show wpAny (model X.prog X.w) X.A (richCompare .Eq (.ref a) u) (EP X pins σ Q) X.xe s
  refine PySem.W.cmp_K (op := .Eq) (tb := t) hr.units0 hF I.ok.mod.kin J (Z.ty _ _ I.kIn p) hn hs hf (wpAny_mono (own_run (g := id) F hb hx hr rfl I ry h) (fun v' s' z => ?_) fun _ _ e => e)
  obtain ⟨b, rfl, q⟩ := z
  exact q
theorem op_neO (F : FnOk X.prog X.w X.K X.mg X.base CX n f fd ps sp) (hr : Room (n + 1) X.A) (hb : Binds X.K fd ps []) (hx : Passes CX X E)
    (hs : PySem.W.findIn X.K (.ref C) "__eq__" = some (some (.ref f))) (hf : PySem.W.isFn X.K (.ref f) = true) (hne : PySem.W.findIn X.K (.ref C) "__ne__" = some (some (.builtin "object.__ne__"))) (ho : PySem.W.mroIn X.K C (.type "object") = some true) :
    OpR X (compareOp .NotEq) (rOwn X.K C sp E not) := by
  intro pins s σ H x y v u Q I rx ry hq
  obtain ⟨a, dx, fs, t, rfl, ha, ty, hn, h⟩ := hq
  cases rx
  obtain ⟨mA, J, _⟩ := ins_get I.hok ha
  obtain ⟨od, J, _⟩ := J.look
  obtain ⟨P, Z, p, _⟩ := kit_ofZ I ry ty
  show wpAny (model X.prog X.w) X.A (richCompare .NotEq (.ref a) u) (EP X pins σ Q) X.xe s
  refine PySem.W.kxe_rich (tb := t) (by have := hr.units; omega) I.kIn J (Z.ty _ _ I.kIn p) hn hne hs hf ho (wpAny_mono (own_run (g := not) (A := X.A.in1) F hb hx hr.in1 rfl I ry h) (fun v' s' z => ?_) fun _ _ e => e)
  obtain ⟨b, rfl, q⟩ := z
  exact ⟨b, rfl, q⟩
end
end L2

/-! comprehensions over zip of two lists or of two tuples -/
namespace L2
open PySem PySem.Spec PyProof.Rows RZ
theorem walk_zipT {K : PySem.W.Frag} {a b : Addr} {xs ys : List V} {n : Nat} (hn : n = min xs.length ys.length) : Walk (ItzT K a b) n (fun H => SqT K H a xs ∧ SqT K H b ys) (YPair (fun i => xs[i]?) (fun i => ys[i]?)) := by
  subst hn
  refine ⟨fun i _ hi q => ?_, fun _ q => ⟨xs, ys, q.1, q.2, ?_⟩, fun i H v H' _ q y => ?_⟩
  · obtain ⟨h1, h2⟩ : i < xs.length ∧ i < ys.length := by omega
    exact ⟨xs, ys, xs[i], ys[i], q.1, q.2, by simp [h1], by simp [h2]⟩
  · omega
  · obtain ⟨T, x, z, e1, e2, e3, e4, e5⟩ := y
    exact ⟨T, x, z, e1, e2, e3, e4 xs q.1, e5 ys q.2⟩
theorem lc_zipA {K : PySem.W.Frag} {a b : Addr} {xs ys : List V} {g : TG} {tt : TT} {te : TE} {vs : List Nat} {σ : St} {H : Hp} {Q : Addr → Hp → Prop} (hl : xs.length = ys.length)
    (hq : (SqL K H a xs ∧ SqL K H b ys) ∨ (SqT K H a xs ∧ SqT K H b ys)) (Pv : Addr → Nat → Hp → Prop) (h0 : ∀ D, H D = none → Pv D 0 (upd H D (.lst [])))
    (hk : ∀ D i H', H D = none → Pv D i H' → Same H H')
    (hs : ∀ D i x y T H', H D = none → xs[i]? = some x → ys[i]? = some y → Pv D i H' → H' T = none → g (.ref T) (wipe σ vs) (upd H' T (.tup [x, y])) fun σ2 H2 => wipe σ2 vs = wipe σ vs ∧ tt σ2 H2 fun b H3 =>
      if b = true then te σ2 H3 fun y H4 => ∃ acc, H4 D = some (.lst acc) ∧ acc.length < sizeLine ∧ Pv D (i + 1) (upd H4 D (.lst (acc ++ [y]))) else Pv D (i + 1) H3) (hd : ∀ D H', H D = none → Pv D xs.length H' → Q D H') :
    (SqL K H a xs ∧ SqL K H b ys ∧ ∀ D, H D = none → ∃ W : Nat → Nat → Hp → Prop, (∃ m, W 0 m (upd H D (.lst []))) ∧ ∀ i m H', W i m H' →
      ((Itz K a b).stop i H' ∧ Q D H') ∨ ((Itz K a b).go i H' ∧ ∃ Nx : Hp → Prop, (∀ H', Nx H' → ∃ m', m' < m ∧ W (i + 1) m' H') ∧ ∀ x H2, (Itz K a b).yld i H' x H2 → g x (wipe σ vs) H2 fun σ2 H2 => wipe σ2 vs = wipe σ vs ∧ tt σ2 H2 fun b H3 =>
        if b = true then te σ2 H3 fun y H4 => ∃ acc, H4 D = some (.lst acc) ∧ acc.length < sizeLine ∧ Nx (upd H4 D (.lst (acc ++ [y]))) else Nx H3)) ∨
    (SqT K H a xs ∧ SqT K H b ys ∧ ∀ D, H D = none → ∃ W : Nat → Nat → Hp → Prop, (∃ m, W 0 m (upd H D (.lst []))) ∧ ∀ i m H', W i m H' →
      ((ItzT K a b).stop i H' ∧ Q D H') ∨ ((ItzT K a b).go i H' ∧ ∃ Nx : Hp → Prop, (∀ H', Nx H' → ∃ m', m' < m ∧ W (i + 1) m' H') ∧ ∀ x H2, (ItzT K a b).yld i H' x H2 → g x (wipe σ vs) H2 fun σ2 H2 => wipe σ2 vs = wipe σ vs ∧ tt σ2 H2 fun b H3 =>
        if b = true then te σ2 H3 fun y H4 => ∃ acc, H4 D = some (.lst acc) ∧ acc.length < sizeLine ∧ Nx (upd H4 D (.lst (acc ++ [y]))) else Nx H3)) := by
  have keepT : ∀ {H' : Hp} {c : Addr} {zs : List V}, SqT K H c zs → Same H H' → SqT K H' c zs := fun {H' c zs} h e => by
    rcases h with (h | ⟨o, h⟩) | h
    · exact .inl (.inl (e _ _ h))
    · exact .inl (.inr ⟨o, e _ _ h⟩)
    · exact .inr h
  rcases hq with ⟨q1, q2⟩ | ⟨q1, q2⟩
  · refine .inl ⟨q1, q2, fun D hD => lc_it (Qd := fun H' => Q D H') (walk_zip (K := K) (a := a) (b := b) (xs := xs) (ys := ys) (n := xs.length) (by omega)) (Pv D) (h0 D hD) (fun i H' _ p => ⟨(hk D i H' hD p).seq q1, (hk D i H' hD p).seq q2⟩) ?_ (fun H' p => hd D H' hD p)⟩
    rintro i x H1 H2 hi p ⟨T, x1, y, rfl, hT, rfl, e1, e2⟩
    exact hs D i x1 y T H1 hD e1 e2 p hT
  · refine .inr ⟨q1, q2, fun D hD => lc_it (Qd := fun H' => Q D H') (walk_zipT (K := K) (a := a) (b := b) (xs := xs) (ys := ys) (n := xs.length) (by omega)) (Pv D) (h0 D hD) (fun i H' _ p => ⟨keepT q1 (hk D i H' hD p), keepT q2 (hk D i H' hD p)⟩) ?_ (fun H' p => hd D H' hD p)⟩
    rintro i x H1 H2 hi p ⟨T, x1, y, rfl, hT, rfl, e1, e2⟩
    exact hs D i x1 y T H1 hD e1 e2 p hT
end L2

namespace RK
open PySem L2
def top (i : Nat) : Stmt := PySem.Challenge.pw_ringwalkers_k01_whole_paths.main.body.getD i (.Pass ⟨0, 0, 0, 0⟩)
abbrev sIsList : Stmt := top 7
abbrev sIsName : Stmt := top 8
abbrev sInit : Stmt := inClass (top 10) 0
abbrev sWalkers : Stmt := inClass (top 10) 1
abbrev sEq : Stmt := inClass (top 10) 2
abbrev sSpring : Stmt := top 12
abbrev sDraw : Stmt := top 13
abbrev sPick : Stmt := top 14
abbrev sMixed : Stmt := top 15
abbrev sSame : Stmt := top 16
abbrev sNames : Stmt := top 17
abbrev sLName : Stmt := top 18
abbrev sWrong : Stmt := top 19
abbrev sMet : Stmt := top 20
abbrev sTold : Stmt := top 21
abbrev sBent : Stmt := top 22
abbrev sLaw : Stmt := top 23
/-! ### the built-ins and constants of the top -/
structure B0 (K : PySem.W.Frag) (mg : Str → Option Value) : Prop where
  isi : mg "isinstance" = none
  list : mg "list" = none
  tuple : mg "tuple" = none
  str : mg "str" = none
  len : mg "len" = none
  all : mg "all" = none
  any : mg "any" = none
  enum : mg "enumerate" = none
  int : mg "int" = none
  range : mg "range" = none
  dict : mg "dict" = none
  bool : mg "bool" = none
  zip : mg "zip" = none
  first : ∃ t, mg "FIRST_SIGNS" = some (.str "abcdefghijklmnopqrstuvwxyz" t)
  later : ∃ t, mg "LATER_SIGNS" = some (.str "abcdefghijklmnopqrstuvwxyz0123456789" t)
  longest : ∃ t, mg "LONGEST_NAME" = some (.int 8 t)
/-! ### things of all kinds -/
inductive Kd | non | int | bool | str | list | tup | dict | fn
def Kd.nm : Kd → String
  | .non => "NoneType" | .int => "int" | .bool => "bool" | .str => "str" | .list => "list" | .tup => "tuple" | .dict => "dict" | .fn => "function"
def Kd.isSeq : Kd → Bool
  | .list => true | .tup => true | _ => false
def Kd.isStr : Kd → Bool
  | .str => true | _ => false
def Kd.isList : Kd → Bool
  | .list => true | _ => false
def Kd.isTup : Kd → Bool
  | .tup => true | _ => false
def Kd.isDict : Kd → Bool
  | .dict => true | _ => false
def Kd.isBool : Kd → Bool
  | .bool => true | _ => false
inductive Th (K : PySem.W.Frag) (H : Hp) : V → Kd → Prop where
  | non : Th K H .non .non
  | int (i : Int) : Th K H (.int i) .int
  | bl (b : Bool) : Th K H (.bl b) .bool
  | str {z : Str} (h : z.length ≤ 1000) : Th K H (.str z) .str
  | lst {a : Addr} {xs : List V} (e : H a = some (.lst xs)) : Th K H (.ref a) .list
  | tup {a : Addr} {xs : List V} (e : H a = some (.tup xs)) : Th K H (.ref a) .tup
  | dict {a : Addr} {kvs : List (Key × V)} (e : H a = some (.dK kvs)) : Th K H (.ref a) .dict
  | fn {a : Addr} {o : Obj} (e : K.lookup a = some o) (c : o.cls = .type "function") : Th K H (.ref a) .fn
theorem Th.ty {K : PySem.W.Frag} {H : Hp} {v : V} {k : Kd} (h : Th K H v k) : TyZ K H v (.type k.nm) := by
  cases h with
  | non => exact .x (.base .non)
  | int i => exact .x (.base (.int i))
  | bl b => exact .x (.base (.bl b))
  | str h => exact .x (.base (.str _))
  | lst e => exact .x (.base (.lst e))
  | tup e => exact .x (.base (.tup e))
  | dict e => exact .x (.base (.dK e))
  | fn e c => exact .fn e c
theorem Th.same {K : PySem.W.Frag} {H H' : Hp} {v : V} {k : Kd} (h : Th K H v k) (s : Same H H') : Th K H' v k := by
  cases h with
  | non => exact .non
  | int i => exact .int i
  | bl b => exact .bl b
  | str h => exact .str h
  | lst e => exact .lst (s _ _ e)
  | tup e => exact .tup (s _ _ e)
  | dict e => exact .dict (s _ _ e)
  | fn e c => exact .fn e c
theorem kit_seq {K : PySem.W.Frag} (k : Kd) : PySem.W.kitAny K (.type k.nm) [.type "list", .type "tuple"] = some k.isSeq := by
  cases k <;> first
    | exact kitAny_cons (b := true) (kit_ty (by decide +kernel)) (fun z => nomatch z) (fun _ => rfl)
    | exact kitAny_cons (b := false) (kit_ty (by decide +kernel)) (fun _ => kitAny_cons (b := true) (kit_ty (by decide +kernel)) (fun z => nomatch z) (fun _ => rfl)) (fun z => nomatch z)
    | exact kitAny_cons (b := false) (kit_ty (by decide +kernel)) (fun _ => kitAny_cons (b := false) (kit_ty (by decide +kernel)) (fun _ => kitAny_nil) (fun z => nomatch z)) (fun z => nomatch z)
theorem kit_str {K : PySem.W.Frag} (k : Kd) : PySem.W.kitOne K (.type k.nm) (.type "str") = some k.isStr := by cases k <;> exact kit_ty (by decide +kernel)
theorem kit_list {K : PySem.W.Frag} (k : Kd) : PySem.W.kitOne K (.type k.nm) (.type "list") = some k.isList := by cases k <;> exact kit_ty (by decide +kernel)
theorem kit_tup {K : PySem.W.Frag} (k : Kd) : PySem.W.kitOne K (.type k.nm) (.type "tuple") = some k.isTup := by cases k <;> exact kit_ty (by decide +kernel)
theorem kit_dict {K : PySem.W.Frag} (k : Kd) : PySem.W.kitOne K (.type k.nm) (.type "dict") = some k.isDict := by cases k <;> exact kit_ty (by decide +kernel)
theorem kit_bool {K : PySem.W.Frag} (k : Kd) : PySem.W.kitOne K (.type k.nm) (.type "bool") = some k.isBool := by cases k <;> exact kit_ty (by decide +kernel)
theorem same_upd {H : Hp} {p : Addr} {o : HO} (h : H p = none) : Same H (upd H p o) := fun b u e => by rw [upd_ne (ne_of_none e h)]; exact e
/-! ### is_list -/
def spIsList (K : PySem.W.Frag) : Sp := fun vs H Q _ => ∃ v k, vs = [v] ∧ Th K H v k ∧ ∀ H', Same H H' → Q (.bl k.isSeq) H'
section
variable {P : Program} {w : World} {K : PySem.W.Frag} {mg : Str → Option Value} {base : Heap}
theorem scIsList : FnScope ["thing"] ["thing"] (defScope sIsList) := ⟨rfl, rfl, rfl, by decide +kernel, rfl, by decide +kernel, by decide +kernel⟩
theorem ok_isList {f : Addr} {fd : FuncData} (F : Fun K "is_list" "is_list" sIsList f fd) (B : B0 K mg) : FnOk P w K mg base CX0 1 f fd ["thing"] (spIsList K) := by
  refine F.ok scIsList (fun vs H Q E h => ?_) (fun cdv A outer s H vs Q E hr h => ?_)
  · obtain ⟨v, k, rfl, _⟩ := h
    rfl
  · obtain ⟨v, k, rfl, ht, q⟩ := h
    refine ⟨_, pss_one (ps_ret (pe_callB call_isiTZ (by rfl) B.isi (by decide +kernel) (pa_cons (pv 0) (pa_cons (pe_tup (pa_cons (pe_bltn (v := .ty "list") (by rfl) B.list (by decide +kernel) rfl) (pa_cons (pe_bltn (v := .ty "tuple") (by rfl) B.tuple (by decide +kernel) rfl) pa_nil))) pa_nil)))), ?_⟩
    refine ⟨_, rfl, (by show 2 ≤ sizeLine; decide), fun p hp => ?_⟩
    exact ⟨v, p, [.ty "list", .ty "tuple"], _, [.type "list", .type "tuple"], k.isSeq, rfl, upd_same, .cons (.ty _) (.cons (.ty _) .nil), (ht.same (same_upd hp)).ty, kit_seq k, q _ (same_upd hp)⟩
end
end RK

namespace RK
open PySem L2
/-! ### is_name -/
def firstC : List Nat := ("abcdefghijklmnopqrstuvwxyz" : Str).cps.toList
def laterC : List Nat := ("abcdefghijklmnopqrstuvwxyz0123456789" : Str).cps.toList
def nameB (z : Str) : Bool := decide (1 ≤ z.length) && decide (z.length ≤ 8) && (match z.cps.toList with | c :: _ => decide (c ∈ firstC) | [] => false) && z.cps.toList.all fun c => decide (c ∈ laterC)
def nameV : V → Bool
  | .str z => nameB z
  | _ => false
def spIsName (K : PySem.W.Frag) : Sp := fun vs H Q _ => ∃ v k, vs = [v] ∧ Th K H v k ∧ ∀ H', Same H H' → Q (.bl (nameV v)) H'
theorem Th.str_of {K : PySem.W.Frag} {H : Hp} {v : V} {k : Kd} (h : Th K H v k) (e : k.isStr = true) : ∃ z, v = .str z ∧ z.length ≤ 1000 := by
  cases h <;> first | exact ⟨_, rfl, by assumption⟩ | cases e
theorem Th.not_name {K : PySem.W.Frag} {H : Hp} {v : V} {k : Kd} (h : Th K H v k) (e : k.isStr = false) : nameV v = false := by
  cases h <;> first | rfl | cases e
theorem tyes {σ : St} {H : Hp} {A B : Hp → Prop} (h : A H) : tYes σ H fun b H' => if b = true then A H' else B H' := by
  show if true = true then A H else B H
  rw [if_pos rfl]
  exact h
theorem take_more {α : Type} {l : List α} {i : Nat} {x : α} (h : l[i]? = some x) : l.take (i + 1) = l.take i ++ [x] := by
  rw [List.take_add_one, h]
  rfl
theorem le8 {z : Str} (h : z.length ≤ 8) : z.length ≤ sizeLine := Nat.le_trans h (by decide)
section
variable {P : Program} {w : World} {K : PySem.W.Frag} {mg : Str → Option Value} {base : Heap}
theorem scIsName : FnScope ["thing", "sign"] ["thing"] (defScope sIsName) := ⟨rfl, rfl, rfl, by decide +kernel, rfl, by decide +kernel, by decide +kernel⟩
theorem ok_isName {f : Addr} {fd : FuncData} (F : Fun K "is_name" "is_name" sIsName f fd) (B : B0 K mg) : FnOk P w K mg base CX0 1 f fd ["thing"] (spIsName K) := by
  obtain ⟨t1, g1⟩ := B.first
  obtain ⟨t2, g2⟩ := B.later
  obtain ⟨t3, g3⟩ := B.longest
  refine F.ok scIsName (fun vs H Q E h => ?_) (fun cdv A outer s H vs Q E hr h => ?_)
  · obtain ⟨v, k, rfl, _⟩ := h
    rfl
  · obtain ⟨v, k, rfl, ht, q⟩ := h
    refine ⟨_, pss_cons (ps_if (PW.pt (pw_or (pt_not (pt_val (pe_callB call_isiZ (by rfl) B.isi (by decide +kernel) (pa_cons (pv 0) (pa_cons (pe_bltn (v := .ty "str") (by rfl) B.str (by decide +kernel) rfl) pa_nil)))))
          (pw_or1 (pt_not (pt_chain op_le op_le pe_int (pe_callB call_len_str (by rfl) B.len PySem.boot_len (pa_cons (pv 0) pa_nil)) (pe_glob (v := .int 8) (by rfl) g3 ⟨_, rfl⟩)))))) (pss_one (ps_ret pe_bl)) pss_nil)
      (pss_one (ps_ret (pe_and (pe_cmpR op_in_sign (pe_ix ix_str (pv 0) pe_int (fun _ _ => rfl)) (pe_glob (v := .str "abcdefghijklmnopqrstuvwxyz") (by rfl) g1 ⟨_, rfl⟩) rfl)
        (pe_one (pe_callB (cr_all rfl) (by rfl) B.all (by decide +kernel) (pa_cons (pe_lc (own := [("sign", 1)]) (g := gName 1) (tt := tYes) rfl scIsName.nd (pi_str (pv 0)) (blkOk_by (N := ["thing", "sign"]) (sc := defScope sIsName) (by decide +kernel))
          (fun _ _ _ _ _ => pg_name (i := 1) scIsName.nd rfl (Or.inl rfl)) (fun _ _ _ _ _ => pts_nil) (fun _ _ _ _ _ => pe_cmpR op_in_sign (pv 1) (pe_glob (v := .str "abcdefghijklmnopqrstuvwxyz0123456789") (by rfl) g2 ⟨_, rfl⟩) rfl)) pa_nil)))))), ?_⟩
    -- not isinstance(thing, str)
    refine ⟨_, rfl, v, .ty "str", _, .type "str", k.isStr, rfl, .ty _, ht.ty, kit_str k, k.isStr, rfl, ?_⟩
    cases hk : k.isStr with
    | false =>
      refine iteT ?_
      have e := ht.not_name hk
      have q' := q H (Same.refl H)
      rw [e] at q'
      exact iteT q'
    | true =>
      obtain ⟨z, rfl, hz⟩ := ht.str_of hk
      refine iteF ?_
      have hzs : z.length ≤ sizeLine := Nat.le_trans hz (by decide)
      -- not 1 <= len(thing) <= LONGEST_NAME
      refine ⟨_, rfl, z, rfl, hzs, 1, z.length, rfl, rfl, _, rfl, ?_⟩
      refine ite2 (fun h1 => ?_) (fun h1 => ?_)
      · have h1' : 1 ≤ z.length := by have := of_decide_eq_true h1; omega
        refine ⟨_, _, rfl, rfl, _, rfl, ?_⟩
        by_cases h2 : z.length ≤ 8
        · -- a text of one to eight signs
          have e2 : decide (((z.length : Nat) : Int) ≤ 8) = true := decide_eq_true (by omega)
          rw [e2]
          refine iteF ?_
          obtain ⟨c, r, hc⟩ : ∃ c r, z.cps.toList = c :: r := by
            cases hc : z.cps.toList with
            | nil =>
              have : z.length = 0 := by
                show z.cps.size = 0
                rw [← Array.length_toList, hc]; rfl
              omega
            | cons c r => exact ⟨c, r, rfl⟩
          have hname : nameB z = (decide (c ∈ firstC) && z.cps.toList.all fun c => decide (c ∈ laterC)) := by
            unfold nameB
            rw [decide_eq_true h1', decide_eq_true h2, hc]
            rfl
          refine ⟨_, rfl, z, 0, c, rfl, rfl, hzs, ?_, c, _, rfl, rfl, _, rfl, ?_⟩
          · exact atI_nat (j := 0) (by rw [hc]; rfl)
          · refine ite2 (fun hf => ?_) (fun hf => ?_)
            · refine ⟨_, rfl, z, rfl, fun D hD => lc_it walk_str (fun i H' => Same H H' ∧ H' D = some (.lst ((z.cps.toList.take i).map fun c => V.bl (decide (c ∈ laterC))))) ⟨same_upd hD, upd_same⟩ (fun _ _ _ _ => True.intro) ?_ ?_⟩
              · rintro i x H1 H2 hi ⟨sm, hl⟩ ⟨rfl, d, hd, rfl⟩
                have hd' : z.cps.toList[i]? = some d := by rw [Array.getElem?_toList]; exact hd
                refine ⟨rfl, tyes ?_⟩
                refine ⟨_, rfl, d, _, rfl, rfl, _, hl, ?_, ?_, ?_⟩
                · rw [List.length_map, List.length_take]
                  exact Nat.lt_of_le_of_lt (Nat.min_le_right _ _) (Nat.lt_of_le_of_lt (show z.cps.toList.length ≤ 1000 by rw [Array.length_toList]; exact hz) (by decide))
                · exact fun b o e => by rw [upd_ne (ne_of_none e hD)]; exact sm b o e
                · rw [upd_same, take_more hd', List.map_append]
                  rfl
              · rintro H1 ⟨sm, hl⟩
                rw [show z.cps.size = z.cps.toList.length by rw [Array.length_toList], List.take_length] at hl
                refine ⟨D, z.cps.toList.map fun c => decide (c ∈ laterC), rfl, SqL.of (by rw [hl, List.map_map]; rfl), ?_⟩
                have q' := q H1 sm
                have e : nameV (.str z) = (z.cps.toList.map fun c => decide (c ∈ laterC)).all id := by
                  show nameB z = _
                  have hf' : decide (c ∈ firstC) = true := hf
                  rw [hname, hf', Bool.true_and, List.all_map]
                  rfl
                rw [e] at q'
                exact q'
            · have q' := q H (Same.refl H)
              have e : nameV (.str z) = false := by
                show nameB z = _
                rw [hname, show decide (c ∈ firstC) = false from decide_eq_false fun z => hf (decide_eq_true z), Bool.false_and]
              rw [e] at q'
              exact q'
        · have e2 : decide (((z.length : Nat) : Int) ≤ 8) = false := decide_eq_false (by omega)
          rw [e2]
          refine iteT ?_
          have q' := q H (Same.refl H)
          have e : nameV (.str z) = false := by
            show nameB z = false
            unfold nameB
            rw [decide_eq_false h2, Bool.and_false]
            rfl
          rw [e] at q'
          exact q'
      · refine ⟨_, rfl, iteT ?_⟩
        have q' := q H (Same.refl H)
        have e : nameV (.str z) = false := by
          show nameB z = false
          unfold nameB
          rw [decide_eq_false (by intro h; exact h1 (decide_eq_true (by omega)))]
          rfl
        rw [e] at q'
        exact q'
end
end RK

namespace RK
open PySem L2
/-! ### the class Path -/
structure PT0 (P : Program) (K : PySem.W.Frag) (mg : Str → Option Value) (C CB fB : Addr) : Prop where
  cl : Cls K C
  nN : NoAttr K C "_names"
  mgC : mg "Path" = some (.ref C)
  gB : mg "BadWalkers" = some (.ref CB)
  bad : PySem.XW.XTxt P K mg "index" CB fB
def fNames (t : Addr) : List (Str × V) := putF "_names" (.ref t) []
theorem fNames_get (t : Addr) : (fNames t).lookup ("_names" : Str) = some (.ref t) := by
  unfold fNames
  rw [lookup_putF, if_pos rfl]
theorem fNames_no (t : Addr) {m : Str} (h : ¬ m = "_names") : (fNames t).lookup m = none := by
  unfold fNames
  rw [lookup_putF, if_neg h]
  rfl
/-- an instance at p, its tuple at t holds the names zs -/
structure PathAt (C : Addr) (H : Hp) (p t : Addr) (zs : List Str) : Prop where
  ob : ∃ dx, H p = some (.ins C dx (fNames t))
  tu : H t = some (.tup (zs.map V.str))
theorem PathAt.same {C : Addr} {H H' : Hp} {p t : Addr} {zs : List Str} (h : PathAt C H p t zs) (s : Same H H') : PathAt C H' p t zs :=
  ⟨let ⟨dx, e⟩ := h.ob; ⟨dx, s _ _ e⟩, s _ _ h.tu⟩
/-- what is wrong with a list of walkers: seen ones, those to come -/
def scan : List V → List V → Option Nat
  | seen, [] => if seen.length < 2 then some seen.length else none
  | seen, x :: r => if (nameV x && !decide (x ∈ seen)) = true then scan (seen ++ [x]) r else some seen.length
def wrongIx (xs : List V) : Option Nat := scan [] xs
theorem scan_good {seen r : List V} {x : V} (h1 : nameV x = true) (h2 : x ∉ seen) : scan seen (x :: r) = scan (seen ++ [x]) r := by
  show (if _ then _ else _) = _
  rw [h1, decide_eq_false h2]
  rfl
theorem scan_bad1 {seen r : List V} {x : V} (h1 : nameV x = false) : scan seen (x :: r) = some seen.length := by
  show (if _ then _ else _) = _
  rw [h1]
  rfl
theorem scan_bad2 {seen r : List V} {x : V} (h2 : x ∈ seen) : scan seen (x :: r) = some seen.length := by
  show (if _ then _ else _) = _
  rw [decide_eq_true h2, Bool.not_true, Bool.and_false]
  rfl
theorem drop_at {α : Type} {l : List α} {i : Nat} {x : α} (h : l[i]? = some x) : l.drop i = x :: l.drop (i + 1) := by
  obtain ⟨h1, h2⟩ := List.getElem?_eq_some_iff.mp h
  rw [List.drop_eq_getElem_cons h1, h2]
theorem seqL_keep {K : PySem.W.Frag} {H H' : Hp} {a d : Addr} {xs : List V} (q : SqL K H a xs) (h : a ≠ d) (sm : ∀ b o, b ≠ d → H b = some o → H' b = some o) : SqL K H' a xs := by
  rcases q with (q | ⟨o, q⟩) | q
  · exact .inl (.inl (sm _ _ h q))
  · exact .inl (.inr ⟨o, sm _ _ h q⟩)
  · exact .inr q
theorem seqT_keep {K : PySem.W.Frag} {H H' : Hp} {a d : Addr} {xs : List V} (q : SqT K H a xs) (h : a ≠ d) (sm : ∀ b o, b ≠ d → H b = some o → H' b = some o) : SqT K H' a xs := by
  rcases q with (q | ⟨o, q⟩) | q
  · exact .inl (.inl (sm _ _ h q))
  · exact .inl (.inr ⟨o, sm _ _ h q⟩)
  · exact .inr q
/-- a list or a tuple -/
def SeqAt2 (H : Hp) (a : Addr) (xs : List V) (k : Kd) : Prop := (H a = some (.lst xs) ∧ k = .list) ∨ (H a = some (.tup xs) ∧ k = .tup)
theorem SeqAt2.same {H H' : Hp} {a : Addr} {xs : List V} {k : Kd} (h : SeqAt2 H a xs k) (s : Same H H') : SeqAt2 H' a xs k := h.elim (fun e => .inl ⟨s _ _ e.1, e.2⟩) fun e => .inr ⟨s _ _ e.1, e.2⟩
theorem SeqAt2.th {K : PySem.W.Frag} {H : Hp} {a : Addr} {xs : List V} {k : Kd} (h : SeqAt2 H a xs k) : Th K H (.ref a) k ∧ k.isSeq = true := by
  rcases h with ⟨e, rfl⟩ | ⟨e, rfl⟩
  · exact ⟨.lst e, rfl⟩
  · exact ⟨.tup e, rfl⟩
/-- what Path(v) does: v a list or a tuple of things xs (wrongIx tells), or a thing that is none -/
def spInit (K : PySem.W.Frag) (C CB : Addr) : Sp := fun vs H Q E => ∃ (p dx : Addr) (v : V) (k : Kd), vs = [.ref p, v] ∧ H p = some (.ins C dx []) ∧ Th K H v k ∧
  (k.isSeq = false → ∀ d H', Same H H' → H' d = some (.xd [("index", .int 0)]) → E (.ref CB) (some d) H') ∧
  (k.isSeq = true → ∃ a xs, v = .ref a ∧ SeqAt2 H a xs k ∧ xs.length ≤ 1000 ∧ (∀ x ∈ xs, ∃ kx, Th K H x kx) ∧
    (∀ i, wrongIx xs = some i → ∀ d H', Same H H' → H' d = some (.xd [("index", .int i)]) → E (.ref CB) (some d) H') ∧
    (wrongIx xs = none → ∀ zs t H', xs = zs.map V.str → PathAt C H' p t zs → (∀ b o, H b = some o → b ≠ p → H' b = some o) → Q .non H'))
theorem val_names : ∀ {zs : List Str} {z : Str}, (valV (zs.map fun z => ((Sum.inr z : Key), V.bl true)) (Sum.inr z : Key)).isSome = decide (V.str z ∈ zs.map V.str)
  | [], z => rfl
  | y :: r, z => by
    rw [List.map_cons, List.map_cons]
    by_cases e : y = z
    · subst e
      rw [valV_pos rfl]
      simp
    · rw [valV_neg (fun q => e (Sum.inr.inj q)), val_names (zs := r)]
      have e' : ¬ z = y := fun q => e q.symm
      simp [e']
section
variable {P : Program} {w : World} {K : PySem.W.Frag} {mg : Str → Option Value} {base : Heap} {C CB fB : Addr}
theorem scInit : FnScope ["self", "walkers", "met", "index", "name"] ["self", "walkers"] (defScope sInit) := ⟨rfl, rfl, rfl, by decide +kernel, rfl, by decide +kernel, by decide +kernel⟩
theorem ok_init {f fL fN : Addr} {fd fdL fdN : FuncData} (F : Fun K "__init__" "Path.__init__" sInit f fd) (B : B0 K mg) (T : PT0 P K mg C CB fB)
    (FL : Fun K "is_list" "is_list" sIsList fL fdL) (bL : Binds K fdL ["thing"] []) (gL : mg "is_list" = some (.ref fL)) (FN : Fun K "is_name" "is_name" sIsName fN fdN) (bN : Binds K fdN ["thing"] []) (gN : mg "is_name" = some (.ref fN)) :
    FnOk P w K mg base (L2.CX P w) 2 f fd ["self", "walkers"] (spInit K C CB) := by
  have GL : FnOk P w K mg base CX0 1 fL fdL ["thing"] (spIsList K) := ok_isList FL B
  have GN : FnOk P w K mg base CX0 1 fN fdN ["thing"] (spIsName K) := ok_isName FN B
  refine F.okX scInit (fun vs H Q E h => ?_) (fun cdv A outer s H vs Q E hr h => ?_)
  · obtain ⟨p, dx, v, k, rfl, _⟩ := h
    rfl
  · obtain ⟨p, dx, v, k, rfl, hp, ht, k1, k2⟩ := h
    have hu := hu_of hr
    refine ⟨_, pss_cons (ps_if (pt_not (pt_val (pe_call GL hr (by rfl) gL FL.kp bL .nil pass0 (pa_cons (pv 1) pa_nil)))) (pss_one (ps_raiseX rfl T.bad T.gB hr (takes_of rfl rfl rfl rfl) (by exact (pa_cons pe_int pa_nil)))) pss_nil)
      (pss_cons (ps_set (i := 2) scInit.nd rfl (Or.inl rfl) pe_dnewK)
      (pss_cons (ps_for PassesOwn.leaving rfl (pi_enumA (by rfl) B.enum (pa_cons (pv 1) pa_nil)) (pg_tup rfl (pgs_cons (pg_name (i := 3) scInit.nd rfl (Or.inl rfl)) (pgs_cons (pg_name (i := 4) scInit.nd rfl (Or.inl rfl)) pgs_nil)))
        (pss_cons (ps_if (PW.pt (pw_or (pt_not (pt_val (pe_call GN hr (by rfl) gN FN.kp bN .nil pass0 (pa_cons (pv 4) pa_nil)))) (pw_or1 (pt_cmp (pc_din hu (pv 4) (pv 2)))))) (pss_one (ps_raiseX rfl T.bad T.gB hr (takes_of rfl rfl rfl rfl) (by exact (pa_cons (pv 3) pa_nil)))) pss_nil)
          (pss_one (ps_dput hu (pv 2) (pv 4) pe_bl rfl))))
      (pss_cons (ps_if (pt_cmpR op_lt (pe_callB call_lenD (by rfl) B.len PySem.boot_len (pa_cons (pv 2) pa_nil)) pe_int (nomark _)) (pss_one (ps_raiseX rfl T.bad T.gB hr (takes_of rfl rfl rfl rfl) (by exact (pa_cons (pe_callB call_lenD (by rfl) B.len PySem.boot_len (pa_cons (pv 2) pa_nil)) pa_nil)))) pss_nil)
      (pss_one (ps_fld (pv 0) (pe_callTy (call_tuple_dK rfl) (by rfl) B.tuple (by decide +kernel) (pa_cons (pv 2) pa_nil)) rfl))))), ?_⟩
    -- if not is_list(walkers): raise BadWalkers(0)
    refine ⟨_, rfl, v, k, rfl, ht, fun H1 s1 => ⟨k.isSeq, rfl, ?_⟩⟩
    cases hk : k.isSeq with
    | false =>
      refine iteT ?_
      exact ⟨_, rfl, fun d hd => k1 hk d _ (s1.trans (same_upd hd)) upd_same⟩
    | true =>
      refine iteF ?_
      obtain ⟨a, xs, rfl, hsq, hlen, hth, kbad, kgood⟩ := k2 hk
      -- met = {}
      intro d hd
      have s2 : Same H (upd H1 d (.dK [])) := s1.trans (same_upd hd)
      have npd : p ≠ d := ne_of_none (s1 _ _ hp) hd
      -- for index, name in enumerate(walkers)
      have hnd : ∀ {b : Addr} {o : HO}, H b = some o → b ≠ d := fun e => ne_of_none (s1 _ _ e) hd
      have hq0 : SqL K (upd H1 d (.dK [])) a xs ∨ SqT K (upd H1 d (.dK [])) a xs := hsq.elim (fun e => .inl (SqL.of (s2 _ _ e.1))) fun e => .inr (SqT.of (s2 _ _ e.1))
      have had : a ≠ d := hsq.elim (fun e => hnd e.1) fun e => hnd e.1
      refine ⟨_, rfl, a, xs, rfl, for_enumA hq0 (fun i σ H' => ∃ (w3 w4 : Option V) (zs : List Str), σ = [some (.ref p), some (.ref a), some (.ref d), w3, w4] ∧ xs.take i = zs.map V.str ∧ wrongIx xs = scan (xs.take i) (xs.drop i) ∧
            H' d = some (.dK (zs.map fun z => ((Sum.inr z : Key), V.bl true))) ∧ ∀ b o, b ≠ d → (upd H1 d (.dK [])) b = some o → H' b = some o) ⟨none, none, [], rfl, rfl, rfl, upd_same, fun b o _ e => e⟩ (fun q i σ' H' ⟨_, _, zs, _, _, _, _, sm⟩ => ?_) (fun q i σ' H' ⟨_, _, zs, _, _, _, _, sm⟩ => ?_) ?_ ?_⟩
      · exact seqL_keep q had sm
      · exact seqT_keep q had sm
      · rintro i y T σ H' hy ⟨w3, w4, zs, rfl, htk, hsc, hdk, sm⟩ hT
        have hym : y ∈ xs := List.mem_of_getElem? hy
        obtain ⟨ky, hky⟩ := hth y hym
        have sm' : Same H H' := fun b o e => sm b o (hnd e) (s2 b o e)
        have smT : Same H' (upd H' T (.tup [.int (i : Nat), y])) := same_upd hT
        have hdT : (upd H' T (.tup [.int (i : Nat), y])) d = some (.dK (zs.map fun z => ((Sum.inr z : Key), V.bl true))) := smT _ _ hdk
        have hlen_i : (xs.take i).length = i := by
          rw [List.length_take]
          have := (List.getElem?_eq_some_iff.mp hy).1
          omega
        refine ⟨T, _, rfl, SqT.of upd_same, rfl, _, _, rfl, _, _, rfl, rfl, ?_⟩
        -- if not is_name(name) or name in met: raise BadWalkers(index)
        refine ⟨_, rfl, y, ky, rfl, (hky.same sm').same smT, fun H2 sm2 => ⟨nameV y, rfl, ?_⟩⟩
        have hall : Same H H2 := fun b o e => sm2 b o (smT b o (sm' b o e))
        cases hn : nameV y with
        | false =>
          have hw : wrongIx xs = some i := by rw [hsc, drop_at hy, scan_bad1 hn, hlen_i]
          refine iteT (iteT ?_)
          exact ⟨_, rfl, _, rfl, fun d2 hd2 => kbad i hw d2 _ (hall.trans (same_upd hd2)) upd_same⟩
        | true =>
          refine iteF ?_
          obtain ⟨z, rfl⟩ : ∃ z, y = .str z := by
            cases y <;> first | exact ⟨_, rfl⟩ | cases hn
          refine ⟨_, rfl, _, rfl, d, _, rfl, DGet.k (k := Sum.inr z) (sm2 _ _ hdT), _, rfl, ?_⟩
          rw [val_names]
          refine ite2 (fun hin => ?_) (fun hin => ?_)
          · have hin' : V.str z ∈ zs.map V.str := of_decide_eq_true hin
            have hw : wrongIx xs = some i := by rw [hsc, drop_at hy, scan_bad2 (by rw [htk]; exact hin'), hlen_i]
            exact ⟨_, rfl, _, rfl, fun d2 hd2 => kbad i hw d2 _ (hall.trans (same_upd hd2)) upd_same⟩
          · have hin' : V.str z ∉ zs.map V.str := fun q => hin (decide_eq_true q)
            have hnone : valV (zs.map fun z => ((Sum.inr z : Key), V.bl true)) (Sum.inr z : Key) = none := by
              have q := val_names (zs := zs) (z := z)
              rw [decide_eq_false hin'] at q
              simpa using q
            have hzl : zs.length = i := by
              have := congrArg List.length htk
              rw [hlen_i, List.length_map] at this
              exact this.symm
            have hi1 : i < xs.length := (List.getElem?_eq_some_iff.mp hy).1
            refine ⟨_, rfl, _, rfl, d, _, rfl, DPut.k (k := Sum.inr z) (sm2 _ _ hdT) (small1000 (by rw [List.length_map, hzl]; omega)), ?_⟩
            refine ⟨_, _, zs ++ [z], rfl, ?_, ?_, ?_, fun b o hb e => ?_⟩
            · rw [take_more hy, htk, List.map_append]; rfl
            · rw [hsc, drop_at hy, scan_good hn (by rw [htk]; exact hin'), take_more hy]
            · rw [upd_same, putK_new _ hnone, List.map_append]; rfl
            · rw [upd_ne hb]
              exact sm2 _ _ (smT _ _ (sm b o hb e))
      · rintro σ H' ⟨w3, w4, zs, rfl, htk, hsc, hdk, sm⟩
        rw [List.take_length] at htk hsc
        rw [List.drop_length] at hsc
        have sm' : Same H H' := fun b o e => sm b o (hnd e) (s2 b o e)
        have hl : zs.length = xs.length := by rw [htk, List.length_map]
        -- if len(met) < 2: raise BadWalkers(len(met))
        refine ⟨_, rfl, d, _, rfl, hdk, _, _, rfl, rfl, _, rfl, ?_⟩
        rw [List.length_map]
        refine ite2 (fun h2 => ?_) (fun h2 => ?_)
        · have h2' : xs.length < 2 := by have := of_decide_eq_true h2; omega
          have hw : wrongIx xs = some xs.length := by
            rw [hsc]
            show (if _ then _ else _) = _
            rw [if_pos h2']
          refine ⟨_, rfl, d, _, rfl, hdk, _, rfl, fun d2 hd2 => kbad _ hw d2 _ (sm'.trans (same_upd hd2)) ?_⟩
          rw [upd_same, List.length_map, hl]
        · have h2' : ¬ xs.length < 2 := fun q => h2 (decide_eq_true (by omega))
          have hw : wrongIx xs = none := by
            rw [hsc]
            show (if _ then _ else _) = _
            rw [if_neg h2']
          -- self._names = tuple(met)
          refine ⟨_, rfl, d, _, rfl, hdk, fun t ht' => ?_⟩
          have hpt : p ≠ t := ne_of_none (sm' _ _ hp) ht'
          refine ⟨_, rfl, p, C, dx, _, rfl, by rw [upd_ne hpt]; exact sm' _ _ hp, T.cl, T.nN, (by show 0 < 1000; decide), ?_⟩
          refine kgood hw zs t _ htk ⟨⟨dx, upd_same⟩, ?_⟩ fun b o e hb => ?_
          · rw [upd_ne (Ne.symm hpt), upd_same, List.map_map]; rfl
          · rw [upd_ne hb, upd_ne (ne_of_none (sm' b o e) ht')]
            exact sm' b o e
end
end RK

namespace RK
open PySem L2
/-- what isinstance and == ask of the class -/
structure PT1 (K : PySem.W.Frag) (C fE : Addr) : Prop where
  cls1 : PySem.W.findIn K (.ref C) "__class__" = some (some (.builtin "object.__class__"))
  spec : PySem.W.specialIn K (.builtin "object.__class__") "__get__" = some (some (.builtin "getset_descriptor.__get__"))
  tak : PySem.W.takesIn K (.builtin "object.__class__") = some true
  mo : PySem.W.mroIn K C (.type "object") = some true
  isC : ((PySem.W.clsIn K C).isSome && PySem.W.typeIn K (.ref C) == some (.type "type")) = true
  eqF : PySem.W.findIn K (.ref C) "__eq__" = some (some (.ref fE))
  eqI : PySem.W.isFn K (.ref fE) = true
  neF : PySem.W.findIn K (.ref C) "__ne__" = some (some (.builtin "object.__ne__"))
theorem sub_no {K : PySem.W.Frag} {C : Addr} (k : Kd) : PySem.W.subIn K (.type k.nm) (.ref C) = some false := by
  cases k <;> rfl
theorem kit_no {K : PySem.W.Frag} {C fE : Addr} (T : PT1 K C fE) (k : Kd) : PySem.W.kitOne K (.type k.nm) (.ref C) = some false := by
  show (if (Value.type k.nm == Value.ref C) = true then some true else PySem.W.kitCls K (.type k.nm) (.ref C)) = some false
  rw [if_neg (by intro h; cases h)]
  show (if _ then _ else _) = some false
  rw [if_pos T.isC]
  exact sub_no k
theorem kit_yes {K : PySem.W.Frag} {C : Addr} : PySem.W.kitOne K (.ref C) (.ref C) = some true := by
  show (if (Value.ref C == Value.ref C) = true then some true else _) = some true
  rw [if_pos (by simp)]
theorem notFirst_k {K : PySem.W.Frag} {C : Addr} (k : Kd) : PySem.W.notFirst K C (.type k.nm) = true := by
  unfold PySem.W.notFirst
  rw [sub_no k]
  simp
theorem PathAt.ty {P : Program} {K : PySem.W.Frag} {mg : Str → Option Value} {C CB fB fE : Addr} {H : Hp} {p t : Addr} {zs : List Str} (T : PT0 P K mg C CB fB) (T1 : PT1 K C fE) (h : PathAt C H p t zs) : TyZ K H (.ref p) (.ref C) := by
  obtain ⟨dx, e⟩ := h.ob
  exact .x (.base (.ins e T.cl T1.cls1 T1.spec T1.tak T1.mo))
/-! ### names -/
def Nm (zs : List Str) : Prop := ∀ z ∈ zs, nameB z = true
theorem laterC_small : ∀ c ∈ laterC, c < 0x110000 := by decide +kernel
theorem name_all {z : Str} (h : nameB z = true) : (z.cps.toList.all fun c => decide (c ∈ laterC)) = true := by
  unfold nameB at h
  exact (Bool.and_eq_true_iff.mp h).2
theorem name_short {z : Str} (h : nameB z = true) : z.length ≤ 8 := by
  unfold nameB at h
  have h1 := (Bool.and_eq_true_iff.mp (Bool.and_eq_true_iff.mp (Bool.and_eq_true_iff.mp h).1).1).2
  exact of_decide_eq_true h1
theorem name_ok {z : Str} (h : nameB z = true) : PyData.strOk z = true := by
  have q := List.all_eq_true.mp (name_all h)
  unfold PyData.strOk
  rw [← Array.all_toList, List.all_eq_true]
  intro c hc
  exact decide_eq_true (laterC_small c (of_decide_eq_true (q c hc)))
theorem shaped_strs {zs : List Str} (h : Nm zs) : SeqAt.shaped (.tuple (zs.map PyData.str)) = true := by
  have k1 : ∀ l : List Str, Nm l → PyData.canLayAll0 (l.map PyData.str) = true := by
    intro l
    induction l with
    | nil => intro _; rw [List.map_nil, PyData.canLayAll0]
    | cons z r ih =>
      intro h
      rw [List.map_cons, PyData.canLayAll0, ih fun y hy => h y (List.mem_cons_of_mem _ hy), PyData.canLay0, name_ok (h z List.mem_cons_self)]
      rfl
  have k2 : ∀ l : List Str, PyData.depthAll (l.map PyData.str) = 0 := by
    intro l
    induction l with
    | nil => rw [List.map_nil, PyData.depthAll]
    | cons z r ih => rw [List.map_cons, PyData.depthAll, ih, PyData.depth]; rfl
  unfold SeqAt.shaped
  rw [PyData.canLay0, k1 zs h, PyData.depth, k2]
  rfl
/-! ### path.walkers() and == -/
def spWalkers (C : Addr) : Sp := fun vs H Q _ => ∃ (p t : Addr) (zs : List Str), vs = [.ref p] ∧ PathAt C H p t zs ∧ ∀ l, H l = none → Q (.ref l) (upd H l (.lst (zs.map V.str)))
def spEq (K : PySem.W.Frag) (C : Addr) : Sp := fun vs H Q _ => ∃ (p t : Addr) (zs : List Str) (v : V), vs = [.ref p, v] ∧ PathAt C H p t zs ∧ Nm zs ∧
  ((∃ k, Th K H v k ∧ Q (.bl false) H) ∨ ∃ (p2 t2 : Addr) (ys : List Str), v = .ref p2 ∧ PathAt C H p2 t2 ys ∧ Nm ys ∧ Q (.bl (decide (zs = ys))) H)
theorem dpAll_strs {K : PySem.W.Frag} {H : Hp} : ∀ zs : List Str, DpAll K H (zs.map V.str) (zs.map PyData.str)
  | [] => .nil
  | z :: r => .cons (.str z) (dpAll_strs r)
theorem beq_dec (z y : Str) : (z == y) = decide (z = y) := by
  by_cases e : z = y
  · subst e
    simp
  · rw [decide_eq_false e]
    simpa using e
theorem eqv_strs : ∀ zs ys : List Str, PyData.eqv (.tuple (zs.map PyData.str)) (.tuple (ys.map PyData.str)) = decide (zs = ys) := by
  have key : ∀ zs ys : List Str, PyData.eqvAll (zs.map PyData.str) (ys.map PyData.str) = decide (zs = ys) := by
    intro zs
    induction zs with
    | nil => intro ys; cases ys <;> simp [PyData.eqvAll]
    | cons z r ih =>
      intro ys
      cases ys with
      | nil => simp [PyData.eqvAll]
      | cons y t =>
        rw [List.map_cons, List.map_cons, PyData.eqvAll, ih t]
        have e1 : PyData.eqv (PyData.str z) (PyData.str y) = decide (z = y) := by rw [PyData.eqv]; exact beq_dec z y
        rw [e1]
        simp
  intro zs ys
  rw [PyData.eqv]
  exact key zs ys
section
variable {P : Program} {w : World} {K : PySem.W.Frag} {mg : Str → Option Value} {base : Heap} {C CB fB fE : Addr}
theorem scWalkers : FnScope ["self"] ["self"] (defScope sWalkers) := ⟨rfl, rfl, rfl, by decide +kernel, rfl, by decide +kernel, by decide +kernel⟩
theorem ok_walkers {f : Addr} {fd : FuncData} (F : Fun K "walkers" "Path.walkers" sWalkers f fd) (B : B0 K mg) (T : PT0 P K mg C CB fB) : FnOk P w K mg base CX0 1 f fd ["self"] (spWalkers C) := by
  refine F.ok scWalkers (fun vs H Q E h => ?_) (fun cdv A outer s H vs Q E hr h => ?_)
  · obtain ⟨p, t, zs, rfl, _⟩ := h
    rfl
  · obtain ⟨p, t, zs, rfl, hp, k⟩ := h
    obtain ⟨dx, ho⟩ := hp.ob
    refine ⟨_, pss_one (ps_ret (pe_callTy call_list_of (by rfl) B.list (by decide +kernel) (pa_cons (pe_fld (pv 0) rfl) pa_nil))), ?_⟩
    exact ⟨_, rfl, p, C, dx, _, _, rfl, ho, T.cl, T.nN, fNames_get t, t, _, rfl, .inr (SqT.of hp.tu), k⟩
theorem scEq : FnScope ["self", "other"] ["self", "other"] (defScope sEq) := ⟨rfl, rfl, rfl, by decide +kernel, rfl, by decide +kernel, by decide +kernel⟩
theorem ok_eq {f : Addr} {fd : FuncData} (F : Fun K "__eq__" "Path.__eq__" sEq f fd) (B : B0 K mg) (T : PT0 P K mg C CB fB) (T1 : PT1 K C fE) : FnOk P w K mg base CX0 1 f fd ["self", "other"] (spEq K C) := by
  refine F.ok scEq (fun vs H Q E h => ?_) (fun cdv A outer s H vs Q E hr h => ?_)
  · obtain ⟨p, t, zs, v, rfl, _⟩ := h
    rfl
  · obtain ⟨p, t, zs, v, rfl, hp, hl, k⟩ := h
    obtain ⟨dx, ho⟩ := hp.ob
    refine ⟨_, pss_one (ps_ret (pe_and (pe_callB call_isiZ (by rfl) B.isi (by decide +kernel) (pa_cons (pv 1) (pa_cons (pe_glob (v := .ref C) (by rfl) T.mgC rfl) pa_nil)))
      (pe_one (pe_cmpR (op_eqD hr.units) (pe_fld (pv 0) rfl) (pe_fld (pv 1) rfl) (nomark _))))), ?_⟩
    rcases k with ⟨kd, ht, q⟩ | ⟨p2, t2, ys, rfl, hp2, hn2, q⟩
    · refine ⟨_, rfl, v, .ref C, _, .ref C, false, rfl, .own C, ht.ty, kit_no T1 kd, false, rfl, ?_⟩
      exact iteF q
    · refine ⟨_, rfl, .ref p2, .ref C, _, .ref C, true, rfl, .own C, hp2.ty T T1, kit_yes, true, rfl, ?_⟩
      refine iteT ?_
      obtain ⟨dy, ho2⟩ := hp2.ob
      refine ⟨_, rfl, p, C, dx, _, _, rfl, ho, T.cl, T.nN, fNames_get t, _, rfl, p2, C, dy, _, _, rfl, ho2, T.cl, T.nN, fNames_get t2, _, _, .tup (SqT.of hp.tu) (dpAll_strs zs), .tup (SqT.of hp2.tu) (dpAll_strs ys), ?_, ?_, ?_⟩
      · exact shaped_strs hl
      · exact shaped_strs hn2
      · rw [eqv_strs]
        exact q
end
end RK

namespace RK
open PySem L2
/-! ### draws -/
def SpOk (m : Nat) (o : HO) : Prop := ∃ x y c : Int, o = .lst [.int x, .int y, .int c] ∧ 0 ≤ y ∧ y < 2147483648 ∧ 0 ≤ c ∧ c ≤ (m : Int)
def SpAt (H : Hp) (a : Addr) (m : Nat) : Prop := ∃ o, H a = some o ∧ SpOk m o
theorem SpOk.mono {m n : Nat} {o : HO} (h : SpOk m o) (e : m ≤ n) : SpOk n o := by
  obtain ⟨x, y, c, h1, h2, h3, h4, h5⟩ := h
  exact ⟨x, y, c, h1, h2, h3, h4, by omega⟩
def spDraw : Sp := fun vs H Q _ => ∃ (a : Addr) (n : Int) (m : Nat), vs = [.ref a, .int n] ∧ 0 < n ∧ n < 1000000000 ∧ SpAt H a m ∧ m < 4000000000 ∧ ∀ r o, 0 ≤ r → r < n → SpOk (m + 1) o → Q (.int r) (upd H a o)
theorem fmod_range {i n : Int} (h : 0 < n) : 0 ≤ i.fmod n ∧ i.fmod n < n := by
  rw [Int.fmod_eq_emod_of_nonneg _ (Int.le_of_lt h)]
  exact ⟨Int.emod_nonneg _ (by omega), Int.emod_lt_of_pos _ h⟩
section
variable {P : Program} {w : World} {K : PySem.W.Frag} {mg : Str → Option Value} {base : Heap}
theorem scDraw : FnScope ["spring", "many", "digit", "mixed"] ["spring", "many"] (defScope sDraw) := ⟨rfl, rfl, rfl, by decide +kernel, rfl, by decide +kernel, by decide +kernel⟩
theorem ok_draw {f : Addr} {fd : FuncData} (F : Fun K "_law_draw" "_law_draw" sDraw f fd) (B : B0 K mg) : FnOk P w K mg base CX0 1 f fd ["spring", "many"] spDraw := by
  refine F.ok scDraw (fun vs H Q E h => ?_) (fun cdv A outer s H vs Q E hr h => ?_)
  · obtain ⟨a, n, m, rfl, _⟩ := h
    rfl
  · obtain ⟨a, n, m, rfl, hn, hn2, ⟨o, ho, x, y, c, rfl, hy0, hy1, hc0, hc1⟩, hm, k⟩ := h
    refine ⟨_, pss_cons (ps_if (pt_cmpR op_gt (pe_ix ix_list (pv 0) pe_int (fun _ _ => rfl)) pe_int (nomark _))
        (pss_cons (ps_set (i := 2) scDraw.nd rfl (Or.inl rfl) (pe_op op_modN (pe_callTy call_int1 (by rfl) B.int (by decide +kernel) (pa_cons (pe_ix ix_list (pv 0) pe_int (fun _ _ => rfl)) pa_nil)) (pv 1)))
        (pss_cons (ps_asg (pe_op op_fdivN (pe_ix ix_list (pv 0) pe_int (fun _ _ => rfl)) (pv 1)) (pg_sub (pv 0) pe_int set_list))
        (pss_one (ps_ret (pv 2))))) pss_nil)
      (pss_cons (ps_asg (pe_op op_add (pe_ix ix_list (pv 0) pe_int (fun _ _ => rfl)) pe_int) (pg_sub (pv 0) pe_int set_list))
      (pss_cons (ps_set (i := 3) scDraw.nd rfl (Or.inl rfl) (pe_op op_mod (pe_op op_pow (pe_callTy call_int1 (by rfl) B.int (by decide +kernel) (pa_cons (pe_op op_add (pe_op op_add (pe_ix ix_list (pv 0) pe_int (fun _ _ => rfl)) (pe_op op_mul pe_int (pe_ix ix_list (pv 0) pe_int (fun _ _ => rfl)))) pe_int) pa_nil)) pe_int) pe_int))
      (pss_one (ps_ret (pe_op op_modN (pe_op op_fdiv (pe_op op_mod (pe_op op_pow (pe_callTy call_int1 (by rfl) B.int (by decide +kernel) (pa_cons (pe_op op_add (pe_op op_mul (pv 3) pe_int) (pe_op op_mul pe_int (pe_ix ix_list (pv 0) pe_int (fun _ _ => rfl)))) pa_nil)) pe_int) pe_int) pe_int) (pv 1)))))), ?_⟩
    -- if spring[0] > 0
    refine ⟨_, rfl, a, _, 0, _, rfl, rfl, SqL.of ho, atI_nat (j := 0) rfl, _, _, rfl, rfl, _, rfl, ?_⟩
    refine ite2 (fun hx => ?_) (fun hx => ?_)
    · have hx' : 0 < x := of_decide_eq_true hx
      refine ⟨_, rfl, a, _, 0, _, rfl, rfl, SqL.of ho, atI_nat (j := 0) rfl, .inl ⟨_, rfl, _, rfl, _, _, rfl, rfl, by omega, ?_⟩⟩
      refine ⟨_, rfl, a, _, 0, _, rfl, rfl, SqL.of ho, atI_nat (j := 0) rfl, _, rfl, _, _, rfl, rfl, ⟨by omega, by omega⟩, ?_⟩
      refine ⟨_, rfl, a, _, 0, 0, rfl, rfl, ho, by rfl, ?_⟩
      exact ⟨_, rfl, k _ _ (fmod_range hn).1 (fmod_range hn).2 ⟨_, y, c, rfl, hy0, hy1, hc0, by omega⟩⟩
    · refine ⟨_, rfl, a, _, 2, _, rfl, rfl, SqL.of ho, atI_nat (j := 2) rfl, _, _, rfl, rfl, ?_⟩
      refine ⟨_, rfl, a, _, 2, 2, rfl, rfl, ho, by rfl, ?_⟩
      have ho2 : (upd H a (.lst [.int x, .int y, .int (c + 1)])) a = some (.lst [.int x, .int y, .int (c + 1)]) := upd_same
      have b1 : (y + 6364137 * (c + 1) + 1442695).natAbs < 2 ^ 64 := by omega
      refine ⟨_, rfl, a, _, 1, _, rfl, rfl, SqL.of ho2, atI_nat (j := 1) rfl, _, rfl, a, _, 2, _, rfl, rfl, SqL.of ho2, atI_nat (j := 2) rfl, _, _, rfl, rfl, .inl ⟨by decide, by decide⟩, _, _, rfl, rfl, _, _, rfl, rfl, ?_⟩
      refine .inl ⟨_, rfl, _, _, rfl, rfl, ⟨by decide, by decide, b1⟩, _, _, rfl, rfl, (by show (0 : Int) < 2147483647; decide), ?_⟩
      have hb : ∀ z : Int, 0 ≤ z % 2147483647 ∧ z % 2147483647 < 2147483647 ∧ (z % 2147483647 * 48271 + 11 * (c + 1)).natAbs < 2 ^ 64 := fun z => by omega
      obtain ⟨b3, b4, b2⟩ := hb ((y + 6364137 * (c + 1) + 1442695) ^ Int.toNat 3)
      refine ⟨_, rfl, _, _, rfl, rfl, .inl ⟨Int.lt_of_lt_of_le (by decide) b3, Int.lt_trans b4 (by decide)⟩, _, rfl, a, _, 2, _, rfl, rfl, SqL.of ho2, atI_nat (j := 2) rfl, _, _, rfl, rfl, .inl ⟨by decide, by decide⟩, _, _, rfl, rfl, ?_⟩
      refine .inl ⟨_, rfl, _, _, rfl, rfl, ⟨by decide, by decide, b2⟩, _, _, rfl, rfl, (by show (0 : Int) < 2147483629; decide), _, _, rfl, rfl, ⟨by decide, by decide⟩, _, rfl, _, _, rfl, rfl, by omega, ?_⟩
      exact k _ _ (fmod_range hn).1 (fmod_range hn).2 ⟨x, y, c + 1, rfl, hy0, hy1, by omega, by omega⟩
end
end RK

namespace RK
open PySem L2
theorem seqIx {j n : Nat} (h : j < n) : seqIndex? (j : Int) n = some j := by
  rw [PySem.seqIndex_of (by omega) (by omega)]
  rfl
theorem perm_erase {α : Type} : ∀ {l : List α} {j : Nat} (h : j < l.length), ([l[j]] ++ l.eraseIdx j).Perm l
  | [], j, h => by simp at h
  | x :: r, 0, h => List.Perm.refl _
  | x :: r, j + 1, h => by
    have hj : j < r.length := by simpa using h
    have ih := perm_erase (l := r) (j := j) hj
    exact (List.Perm.swap x (r[j]'hj) (r.eraseIdx j)).trans (List.Perm.cons x ih)
def rLenS (K : PySem.W.Frag) : List V → Hp → VK → Prop := fun xs H Q => ∃ p ys, xs = [.ref p] ∧ (SqL K H p ys ∨ SqT K H p ys) ∧ Q (.int ys.length) H
theorem call_lenS {X : Cx} : CallR X (.builtin "len") (rLenS X.K) := call_len_seq
theorem mtr_popAt {X : Cx} : MtR X "list.pop" rPopAt := mt_popAt
/-- all but the object at a stand as they stood -/
def But (a : Addr) (H H' : Hp) : Prop := ∀ b o, b ≠ a → H b = some o → H' b = some o
theorem But.trans {a : Addr} {H H1 H2 : Hp} (x : But a H H1) (y : But a H1 H2) : But a H H2 := fun b o h e => y b o h (x b o h e)
theorem Same.but {a : Addr} {H H' : Hp} (s : Same H H') : But a H H' := fun b o _ e => s b o e
theorem But.upd {a : Addr} {H : Hp} {o : HO} : But a H (upd H a o) := fun b u h e => by rw [upd_ne h]; exact e
def spPick : Sp := fun vs H Q _ => ∃ (a l : Addr) (xs : List V) (m : Nat), vs = [.ref a, .ref l] ∧ a ≠ l ∧ SpAt H a m ∧ m < 4000000000 ∧ H l = some (.lst xs) ∧ 0 < xs.length ∧ xs.length ≤ 1000 ∧ ∀ v o, v ∈ xs → SpOk (m + 1) o → Q v (upd H a o)
def spMixed : Sp := fun vs H Q _ => ∃ (a l : Addr) (xs : List V) (m : Nat), vs = [.ref a, .ref l] ∧ a ≠ l ∧ SpAt H a m ∧ m < 3000000000 ∧ H l = some (.lst xs) ∧ xs.length ≤ 1000 ∧
  ∀ p ys H', ys.Perm xs → H p = none → H' p = some (.lst ys) → SpAt H' a (m + xs.length) → But a H H' → Q (.ref p) H'
section
variable {P : Program} {w : World} {K : PySem.W.Frag} {mg : Str → Option Value} {base : Heap}
theorem scPick : FnScope ["spring", "some"] ["spring", "some"] (defScope sPick) := ⟨rfl, rfl, rfl, by decide +kernel, rfl, by decide +kernel, by decide +kernel⟩
theorem ok_pick {f fD : Addr} {fd fdD : FuncData} (F : Fun K "_law_pick" "_law_pick" sPick f fd) (B : B0 K mg) (FD : Fun K "_law_draw" "_law_draw" sDraw fD fdD) (bD : Binds K fdD ["spring", "many"] []) (gD : mg "_law_draw" = some (.ref fD)) :
    FnOk P w K mg base CX0 2 f fd ["spring", "some"] spPick := by
  have GD : FnOk P w K mg base CX0 1 fD fdD ["spring", "many"] spDraw := ok_draw FD B
  refine F.ok scPick (fun vs H Q E h => ?_) (fun cdv A outer s H vs Q E hr h => ?_)
  · obtain ⟨a, l, xs, m, rfl, _⟩ := h
    rfl
  · obtain ⟨a, l, xs, m, rfl, hal, hsp, hm, hl, h0, h1, k⟩ := h
    refine ⟨_, pss_one (ps_ret (pe_ix ix_list (pv 1) (pe_call GD hr (by rfl) gD FD.kp bD .nil pass0 (pa_cons (pv 0) (pa_cons (pe_callB call_len_seq (by rfl) B.len PySem.boot_len (pa_cons (pv 1) pa_nil)) pa_nil))) (fun _ _ => rfl))), ?_⟩
    refine ⟨_, rfl, _, rfl, _, rfl, l, _, rfl, .inl (SqL.of hl), a, xs.length, m, rfl, by omega, by omega, hsp, hm, fun r o hr0 hr1 ho => ?_⟩
    obtain ⟨i, rfl⟩ : ∃ i : Nat, r = (i : Int) := ⟨r.toNat, by omega⟩
    have hi : i < xs.length := by omega
    refine ⟨l, xs, _, xs[i], rfl, rfl, SqL.of (by rw [upd_ne (Ne.symm hal)]; exact hl), atI_nat (by simp [hi]), k _ _ (List.getElem_mem hi) ho⟩
theorem scMixed : FnScope ["spring", "some", "left", "k"] ["spring", "some"] (defScope sMixed) := ⟨rfl, rfl, rfl, by decide +kernel, rfl, by decide +kernel, by decide +kernel⟩
theorem ok_mixed {f fD : Addr} {fd fdD : FuncData} (F : Fun K "_law_mixed" "_law_mixed" sMixed f fd) (B : B0 K mg) (FD : Fun K "_law_draw" "_law_draw" sDraw fD fdD) (bD : Binds K fdD ["spring", "many"] []) (gD : mg "_law_draw" = some (.ref fD)) :
    FnOk P w K mg base CX0 2 f fd ["spring", "some"] spMixed := by
  have GD : FnOk P w K mg base CX0 1 fD fdD ["spring", "many"] spDraw := ok_draw FD B
  refine F.ok scMixed (fun vs H Q E h => ?_) (fun cdv A outer s H vs Q E hr h => ?_)
  · obtain ⟨a, l, xs, m, rfl, _⟩ := h
    rfl
  · obtain ⟨a, l, xs, m, rfl, hal, hsp, hm, hl, h1, k⟩ := h
    refine ⟨_, pss_cons (ps_set (i := 2) scMixed.nd rfl (Or.inr rfl) (pe_callTy call_list_of (by rfl) B.list (by decide +kernel) (pa_cons (pv 1) pa_nil)))
      (pss_one (ps_ret (pe_lc (te := tBM K "list" rPopAt (tVar 2) (tCons (tCall spDraw [] E0 (tCons (tVar 0) (tCons (tCB (rLenS K) (tCons (tVar 2) tNil)) tNil))) tNil)) (own := [("k", 3)]) (g := gName 3) (tt := tYes) rfl scMixed.nd (pi_range1 (by rfl) B.range (pa_cons (pe_callB call_len_seq (by rfl) B.len PySem.boot_len (pa_cons (pv 2) pa_nil)) pa_nil)) (blkOk_by (N := ["spring", "some", "left", "k"]) (sc := defScope sMixed) (by decide +kernel))
        (fun _ _ _ _ _ => pg_name (i := 3) scMixed.nd rfl (Or.inl rfl)) (fun _ _ _ _ _ => pts_nil)
        (fun _ _ _ _ _ => by exact (pe_bm PySem.F.plainAttrs_list PySem.F.slot_list_pop PySem.F.type_list_pop mtr_popAt (pv 2) (pa_cons (by exact (pe_call GD hr (by rfl) gD FD.kp bD .nil pass0 (pa_cons (pv 0) (pa_cons (by exact (pe_callB call_lenS (by rfl) B.len PySem.boot_len (pa_cons (pv 2) pa_nil))) pa_nil)))) pa_nil)))))), ?_⟩
    -- left = list(some)
    refine ⟨_, rfl, l, xs, rfl, .inl (SqL.of hl), fun L hL => ?_⟩
    obtain ⟨osp, hosp, hok0⟩ := id hsp
    have naL : a ≠ L := ne_of_none hosp hL
    have s1 : Same H (upd H L (.lst xs)) := same_upd hL
    refine ⟨_, rfl, L, xs, rfl, .inl (SqL.of upd_same), xs.length, rfl, by omega, by omega, fun D hD => ?_⟩
    have nLD : L ≠ D := ne_of_none upd_same hD
    have naD : a ≠ D := ne_of_none (s1 _ _ hosp) hD
    refine lc_it (walk_range (lo := 0) (n := (xs.length : Int).toNat)) (fun i H' => ∃ (rest acc : List V), H' L = some (.lst rest) ∧ H' D = some (.lst acc) ∧ (acc ++ rest).Perm xs ∧ acc.length = i ∧ SpAt H' a (m + i) ∧ But a H H') ?_ (fun _ _ _ _ => True.intro) ?_ ?_
    · refine ⟨xs, [], by rw [upd_ne nLD, upd_same], upd_same, List.Perm.refl _, rfl, ⟨osp, ?_, hok0⟩, ?_⟩
      · rw [upd_ne naD]; exact s1 _ _ hosp
      · exact Same.but (s1.trans (same_upd hD))
    · rintro i x H1 H2 hi ⟨rest, acc, hr1, hd1, hperm, hacc, ⟨o1, ho1, hok1⟩, hbut⟩ ⟨rfl, rfl⟩
      have hlen : acc.length + rest.length = xs.length := by rw [← List.length_append]; exact hperm.length_eq
      have hi' : i < xs.length := by omega
      refine ⟨rfl, tyes ?_⟩
      have hpos : 0 < rest.length := by omega
      have hrL : L ≠ a := Ne.symm naL
      refine ⟨_, rfl, .inl ⟨rfl, _, SqL.of hr1⟩, _, rfl, _, rfl, L, rest, rfl, .inl (SqL.of hr1), a, rest.length, m + i, rfl, by omega, by omega, ⟨o1, ho1, hok1⟩, by omega, fun r o hr0 hr2 ho => ?_⟩
      obtain ⟨j, rfl⟩ : ∃ j : Nat, r = (j : Int) := ⟨r.toNat, by omega⟩
      have hj : j < rest.length := by omega
      refine ⟨L, rest, (j : Int), j, rest[j], rfl, rfl, by rw [upd_ne hrL]; exact hr1, by omega, by omega, seqIx hj, by simp [hj], ?_⟩
      refine ⟨acc, by rw [upd_ne (Ne.symm nLD), upd_ne (Ne.symm naD)]; exact hd1, Nat.lt_of_le_of_lt (show acc.length ≤ 1000 by omega) (by decide), rest.eraseIdx j, acc ++ [rest[j]], ?_, upd_same, ?_, ?_, ⟨o, ?_, ho.mono (by omega)⟩, ?_⟩
      · rw [upd_ne nLD, upd_same]
      · refine List.Perm.trans ?_ hperm
        rw [List.append_assoc]
        exact List.Perm.append_left acc (perm_erase hj)
      · rw [List.length_append, hacc]; rfl
      · rw [upd_ne naD, upd_ne naL, upd_same]
      · refine fun b u hb e => ?_
        rw [upd_ne (ne_of_none (s1 b u e) hD), upd_ne (ne_of_none e hL), upd_ne hb]
        exact hbut b u hb e
    · rintro H1 ⟨rest, acc, hr1, hd1, hperm, hacc, ho1, hbut⟩
      have hlen : acc.length + rest.length = xs.length := by rw [← List.length_append]; exact hperm.length_eq
      have hrest : rest = [] := by
        have : rest.length = 0 := by omega
        exact List.length_eq_zero_iff.mp this
      subst hrest
      rw [List.append_nil] at hperm
      have e : (xs.length : Int).toNat = xs.length := by omega
      rw [e] at ho1
      have hDn : H D = none := by
        cases q : H D with
        | none => rfl
        | some u => rw [s1 _ _ q] at hD; cases hD
      exact k D acc H1 hperm hDn hd1 ho1 hbut
end
end RK

namespace RK
open PySem L2
/-! ### the names drawn -/
def pool : List Str := ["b", "aa", "c1", "zz", "h9", "eightlet", "m", "q7", "x", "d4", "k", "ab3", "a", "t0", "u", "w2", "y", "e5", "g", "n"]
theorem pool_nodup : pool.Nodup := by decide +kernel
theorem pool_names : Nm pool := by unfold Nm pool; decide +kernel
def spNames : Sp := fun vs H Q _ => ∃ (a : Addr) (lo hi : Int) (m : Nat), vs = [.ref a, .int lo, .int hi] ∧ 0 ≤ lo ∧ lo ≤ hi ∧ hi ≤ 20 ∧ SpAt H a m ∧ m < 2000000000 ∧
  ∀ p (zs : List Str) H', zs.Nodup → (∀ z ∈ zs, z ∈ pool) → (zs.length : Int) ≤ hi → lo ≤ zs.length → H p = none → H' p = some (.lst (zs.map V.str)) → SpAt H' a (m + 21) → But a H H' → Q (.ref p) H'
def unStr : V → Str
  | .str z => z
  | _ => "b"
theorem perm_strs {ys : List V} {l : List Str} (h : ys.Perm (l.map V.str)) : ∃ zs : List Str, zs.Perm l ∧ ys = zs.map V.str := by
  refine ⟨ys.map unStr, ?_, ?_⟩
  · have q := h.map unStr
    rw [List.map_map] at q
    have e : (unStr ∘ V.str) = id := rfl
    rw [e, List.map_id] at q
    exact q
  · rw [List.map_map]
    have e : ∀ y ∈ ys, (V.str ∘ unStr) y = y := fun y hy => by
      obtain ⟨z, _, rfl⟩ := List.mem_map.mp (h.mem_iff.mp hy)
      rfl
    rw [List.map_congr_left e, List.map_id'']
    intro x
    rfl
section
variable {P : Program} {w : World} {K : PySem.W.Frag} {mg : Str → Option Value} {base : Heap}
theorem scNames : FnScope ["spring", "least", "most", "some"] ["spring", "least", "most"] (defScope sNames) := ⟨rfl, rfl, rfl, by decide +kernel, rfl, by decide +kernel, by decide +kernel⟩
theorem ok_names {f fD fM : Addr} {fd fdD fdM : FuncData} (F : Fun K "_law_w_names" "_law_w_names" sNames f fd) (B : B0 K mg) (FD : Fun K "_law_draw" "_law_draw" sDraw fD fdD) (bD : Binds K fdD ["spring", "many"] []) (gD : mg "_law_draw" = some (.ref fD))
    (FM : Fun K "_law_mixed" "_law_mixed" sMixed fM fdM) (bM : Binds K fdM ["spring", "some"] []) (gM : mg "_law_mixed" = some (.ref fM)) :
    FnOk P w K mg base CX0 3 f fd ["spring", "least", "most"] spNames := by
  have GD : FnOk P w K mg base CX0 1 fD fdD ["spring", "many"] spDraw := ok_draw FD B
  have GM : FnOk P w K mg base CX0 2 fM fdM ["spring", "some"] spMixed := ok_mixed FM B FD bD gD
  refine F.ok scNames (fun vs H Q E h => ?_) (fun cdv A outer s H vs Q E hr h => ?_)
  · obtain ⟨a, lo, hi, m, rfl, _⟩ := h
    rfl
  · obtain ⟨a, lo, hi, m, rfl, h0, h1, h2, hsp, hm, k⟩ := h
    have hr1 : Room 1 _ := hr.mono (by decide)
    refine ⟨_, pss_cons (ps_set (i := 3) scNames.nd rfl (Or.inl rfl) (pe_lst (pa_cons pe_str (pa_cons pe_str (pa_cons pe_str (pa_cons pe_str (pa_cons pe_str (pa_cons pe_str (pa_cons pe_str (pa_cons pe_str (pa_cons pe_str (pa_cons pe_str (pa_cons pe_str (pa_cons pe_str (pa_cons pe_str (pa_cons pe_str (pa_cons pe_str (pa_cons pe_str (pa_cons pe_str pa_nil)))))))))))))))))))
      (pss_one (ps_ret (pe_slice sl_list (pe_call GM hr (by rfl) gM FM.kp bM .nil pass0 (pa_cons (pv 0) (pa_cons (pe_op op_cat (pv 3) (pe_lst (pa_cons pe_str (pa_cons pe_str (pa_cons pe_str pa_nil))))) pa_nil))) po_none
        (po_some (pe_op op_add (pv 1) (pe_call GD hr1 (by rfl) gD FD.kp bD .nil pass0 (pa_cons (pv 0) (pa_cons (pe_op op_add (pe_op op_sub (pv 2) (pv 1)) pe_int) pa_nil)))))))), ?_⟩
    refine ⟨by show 17 ≤ sizeLine; decide, fun L hL => ?_⟩
    obtain ⟨osp, hosp, hok0⟩ := id hsp
    have s1 := same_upd (o := .lst [V.str "b", V.str "aa", V.str "c1", V.str "zz", V.str "h9", V.str "eightlet", V.str "m", V.str "q7", V.str "x", V.str "d4", V.str "k", V.str "ab3", V.str "a", V.str "t0", V.str "u", V.str "w2", V.str "y"]) hL
    refine ⟨_, rfl, _, rfl, by show 3 ≤ sizeLine; decide, fun M hM => ?_⟩
    have s2 := same_upd (o := .lst [V.str "e5", V.str "g", V.str "n"]) hM
    have eL : ∀ {o : HO}, (upd (upd H L (.lst [V.str "b", V.str "aa", V.str "c1", V.str "zz", V.str "h9", V.str "eightlet", V.str "m", V.str "q7", V.str "x", V.str "d4", V.str "k", V.str "ab3", V.str "a", V.str "t0", V.str "u", V.str "w2", V.str "y"])) M o) L = some (.lst [V.str "b", V.str "aa", V.str "c1", V.str "zz", V.str "h9", V.str "eightlet", V.str "m", V.str "q7", V.str "x", V.str "d4", V.str "k", V.str "ab3", V.str "a", V.str "t0", V.str "u", V.str "w2", V.str "y"]) := by
      intro o
      rw [upd_ne (ne_of_none upd_same hM), upd_same]
    refine ⟨L, M, _, _, rfl, rfl, eL, upd_same, by show 17 + 3 ≤ sizeLine; decide, fun N hN => ?_⟩
    have s3 := same_upd (o := .lst (pool.map V.str)) hN
    have hosp3 := s3 _ _ (s2 _ _ (s1 _ _ hosp))
    refine ⟨a, N, pool.map V.str, m, rfl, ne_of_none (s2 _ _ (s1 _ _ hosp)) hN, ⟨osp, hosp3, hok0⟩, by omega, upd_same, by show 20 ≤ 1000; decide, fun p ys H' hperm hp hp' hsp' hbut => ?_⟩
    have hpool : (pool.map V.str).length = 20 := by decide +kernel
    rw [hpool] at hsp'
    refine ⟨_, rfl, _, rfl, _, rfl, _, rfl, _, _, rfl, rfl, _, _, rfl, rfl, a, hi - lo + 1, m + 20, rfl, by omega, by omega, hsp', by omega, fun r o hr0 hr2 ho => ?_⟩
    obtain ⟨osp', hosp', _⟩ := id hsp'
    have hap : a ≠ p := ne_of_none hosp3 hp
    obtain ⟨zs, hzs, rfl⟩ := perm_strs hperm
    have hlen : zs.length = 20 := hzs.length_eq
    have hp2 : (upd H' a o) p = some (.lst (zs.map V.str)) := by rw [upd_ne (Ne.symm hap)]; exact hp'
    refine ⟨_, _, rfl, rfl, _, rfl, p, zs.map V.str, rfl, SqL.of hp2, fun R hR => ?_⟩
    have hRa : a ≠ R := ne_of_none upd_same hR
    have sall : ∀ b u, H b = some u → b ≠ R := fun b u e => by
      by_cases hb : b = a
      · rw [hb]; exact hRa
      · exact ne_of_none (show (upd H' a o) b = some u by rw [upd_ne hb]; exact hbut b u hb (s3 _ _ (s2 _ _ (s1 _ _ e)))) hR
    have hRn : H R = none := by
      cases q : H R with
      | none => rfl
      | some u => exact absurd rfl (sall R u q)
    obtain ⟨t, ht⟩ : ∃ t : Nat, lo + r = (t : Int) := ⟨(lo + r).toNat, by omega⟩
    have hcut : cutV (zs.map V.str) none (some (lo + r)) = (zs.take t).map V.str := by
      unfold cutV
      rw [ht, HT.sIx_none, HT.sIx_nat, List.drop_zero, List.length_map, hlen, Nat.sub_zero, Nat.min_eq_left (by omega), List.map_take]
    have hnd : zs.Nodup := hzs.nodup_iff.mpr pool_nodup
    have htl : (zs.take t).length = t := by rw [List.length_take, hlen]; omega
    refine k R (zs.take t) _ (hnd.sublist (List.take_sublist _ _)) (fun z hz => hzs.mem_iff.mp (List.mem_of_mem_take hz)) (by rw [htl]; omega) (by rw [htl]; omega) hRn (by rw [hcut, upd_same]) ⟨o, by rw [upd_ne hRa, upd_same], ho⟩ fun b u hb e => ?_
    rw [upd_ne (sall b u e), upd_ne hb]
    exact hbut b u hb (s3 _ _ (s2 _ _ (s1 _ _ e)))
end
end RK

namespace RK
open PySem L2
def spSpring (K : PySem.W.Frag) : Sp := fun vs H Q _ => ∃ (sc : Addr) (ns : List Int) (t : Nat), vs = [.ref sc, .int t] ∧ SqL K H sc (ns.map V.int) ∧ ns.length ≤ 63 ∧ t ≤ 100 ∧ ∀ p o H', H p = none → H' p = some o → SpOk 0 o → Same H H' → Q (.ref p) H'
theorem cutV_ints {ns : List Int} (h : ns.length ≤ 63) : cutV (ns.map V.int) none (some 63) = ns.map V.int := by
  unfold cutV
  rw [HT.sIx_none, show (63 : Int) = ((63 : Nat) : Int) from rfl, HT.sIx_nat, List.drop_zero, List.length_map, Nat.sub_zero, Nat.min_eq_right h]
  exact List.take_of_length_le (by rw [List.length_map]; exact Nat.le_refl _)
section
variable {P : Program} {w : World} {K : PySem.W.Frag} {mg : Str → Option Value} {base : Heap}
theorem scSpring : FnScope ["script", "turn", "cell", "mix", "at", "one"] ["script", "turn"] (defScope sSpring) := ⟨rfl, rfl, rfl, by decide +kernel, rfl, by decide +kernel, by decide +kernel⟩
theorem ok_spring {f : Addr} {fd : FuncData} (F : Fun K "_law_spring" "_law_spring" sSpring f fd) (B : B0 K mg) : FnOk P w K mg base CX0 1 f fd ["script", "turn"] (spSpring K) := by
  refine F.ok scSpring (fun vs H Q E h => ?_) (fun cdv A outer s H vs Q E hr h => ?_)
  · obtain ⟨sc, ns, t, rfl, _⟩ := h
    rfl
  · obtain ⟨sc, ns, t, rfl, hS, hl, ht, k⟩ := h
    refine ⟨_, Evl.pss_cut (ps_par (i := 2) (j := 3) rfl scSpring.nd rfl rfl (by decide) rfl rfl (pa_cons (pe_ifExp (pt_cmpR op_lt (pv 1) (pe_callB call_len_seq (by rfl) B.len PySem.boot_len (pa_cons (pv 0) pa_nil)) (nomark _)) (pe_ix ix_list (pv 0) (pv 1) (fun _ _ => rfl))
          (pe_op op_add (pe_op op_mul pe_int (pv 1)) (pe_callB call_len_seq (by rfl) B.len PySem.boot_len (pa_cons (pv 0) pa_nil)))) (pa_cons (pe_op op_add pe_int (pe_op op_mul pe_int (pv 1))) pa_nil)) (by rfl))
      (pss_cons (ps_for PassesOwn.never rfl (pi_enum (by rfl) B.enum (pa_cons (pe_slice sl_list (pv 0) po_none (po_some pe_int)) pa_nil)) (pg_tup rfl (pgs_cons (pg_name (i := 4) scSpring.nd rfl (Or.inl rfl)) (pgs_cons (pg_name (i := 5) scSpring.nd rfl (Or.inl rfl)) pgs_nil)))
        (pss_one (ps_set (i := 3) scSpring.nd rfl (Or.inl rfl) (pe_op op_mod (pe_callTy call_int1 (by rfl) B.int (by decide +kernel) (pa_cons (pe_op op_add (pe_op op_add (pe_op op_add (pe_op op_mul (pv 3) pe_int) (pv 5)) (pe_op op_mul pe_int (pv 4))) pe_int) pa_nil)) pe_int))))
      (pss_one (ps_ret (pe_lst (pa_cons (pe_ifExp (pt_cmpR op_ge (pv 2) (pe_op op_pow pe_int pe_int) (nomark _)) (pv 2) pe_int) (pa_cons (pe_op op_mod (pe_callTy call_int1 (by rfl) B.int (by decide +kernel) (pa_cons (pe_op op_add (pv 3) (pe_op op_mul (pv 2) pe_int)) pa_nil)) pe_int) (pa_cons pe_int pa_nil))))))), ?_⟩
    -- cell, mix = (..)
    refine ⟨fun σ H1 => H1 = H ∧ ∃ cell : Int, σ = [some (.ref sc), some (.int t), some (.int cell), some (.int (1009 + 97 * t)), none, none], ?_, ?_⟩
    · refine ⟨_, rfl, _, rfl, sc, _, rfl, .inl hS, _, _, rfl, rfl, _, rfl, ?_⟩
      rw [List.length_map]
      refine ite2 (fun h1 => ?_) (fun h1 => ?_)
      · have h1' : t < ns.length := by have := of_decide_eq_true h1; omega
        exact ⟨_, rfl, _, rfl, sc, _, _, _, rfl, rfl, hS, atI_nat (by rw [List.getElem?_map, List.getElem?_eq_getElem h1']; rfl), _, rfl, _, _, rfl, rfl, .inl ⟨by decide, by decide⟩, _, _, rfl, rfl, _, _, rfl, rfl, _, rfl⟩
      · exact ⟨_, rfl, _, _, rfl, rfl, .inl ⟨by decide, by decide⟩, _, rfl, sc, _, rfl, .inl hS, _, _, rfl, rfl, _, rfl, _, _, rfl, rfl, .inl ⟨by decide, by decide⟩, _, _, rfl, rfl, _, _, rfl, rfl, _, rfl⟩
    · rintro σ H1 ⟨rfl, cell, rfl⟩
      -- for at, one in enumerate(script[:63])
      refine ⟨_, rfl, _, rfl, sc, _, rfl, hS, fun L hL => ?_⟩
      rw [cutV_ints hl]
      have s1 := same_upd (o := .lst (ns.map V.int)) hL
      refine ⟨L, _, rfl, SqL.of upd_same, for_it (walk_enum (K := K) (a := L) (xs := ns.map V.int)) (fun i σ H' => ∃ (w4 w5 : Option V) (mx : Int), σ = [some (.ref sc), some (.int t), some (.int cell), some (.int mx), w4, w5] ∧ 0 ≤ mx ∧ mx < 2147483629 ∧ Same (upd H1 L (.lst (ns.map V.int))) H')
        ⟨none, none, _, rfl, by omega, by omega, Same.refl _⟩ (fun i σ H' _ ⟨_, _, _, _, _, _, sm⟩ => SqL.of (sm _ _ upd_same)) ?_ ?_⟩
      · rintro i x σ H2 H3 hi ⟨w4, w5, mx, rfl, hm0, hm1, sm⟩ ⟨T, x1, y, rfl, hT, rfl, hx1, hy⟩
        cases hx1
        replace hy : (ns.map V.int)[i]? = some y := hy
        obtain ⟨z, rfl⟩ : ∃ z, y = V.int z := by
          rw [List.getElem?_map] at hy
          cases e : ns[i]? with
          | none => rw [e] at hy; cases hy
          | some z => rw [e] at hy; exact ⟨z, (Option.some.inj hy).symm⟩
        refine ⟨T, _, rfl, SqT.of upd_same, rfl, _, _, rfl, _, _, rfl, rfl, ?_⟩
        refine ⟨_, rfl, _, _, rfl, rfl, .inl ⟨by omega, by omega⟩, _, rfl, _, _, rfl, rfl, _, rfl, _, _, rfl, rfl, .inl ⟨by decide, by decide⟩, _, _, rfl, rfl, _, _, rfl, rfl, .inl ⟨_, rfl, _, _, rfl, rfl, (by show (0 : Int) < 2147483629; decide), ?_⟩⟩
        exact ⟨_, _, _, rfl, Int.emod_nonneg _ (by decide), Int.emod_lt_of_pos _ (by decide), sm.trans (same_upd hT)⟩
      · rintro σ H2 ⟨w4, w5, mx, rfl, hm0, hm1, sm⟩
        -- return [..]
        refine ⟨_, rfl, _, _, rfl, rfl, ⟨by decide, by decide, by decide⟩, _, _, rfl, rfl, _, rfl, ?_⟩
        have fin : ∀ cl : Int, ∀ p, H2 p = none → Q (.ref p) (upd H2 p (.lst [.int cl, .int ((mx + cell * 31) % 2147483647), .int 0])) := fun cl p hp =>
          k p _ _ (s1.free (sm.free hp)) upd_same ⟨_, _, _, rfl, Int.emod_nonneg _ (by decide), Int.lt_trans (Int.emod_lt_of_pos _ (by decide)) (by decide), by decide, by decide⟩ (s1.trans (sm.trans (same_upd hp)))
        refine ite2 (fun h1 => ?_) (fun h1 => ?_)
        · refine ⟨_, rfl, _, rfl, _, rfl, _, _, rfl, rfl, .inr ⟨by decide, by decide⟩, _, _, rfl, rfl, .inl ⟨_, rfl, _, _, rfl, rfl, (by show (0 : Int) < 2147483647; decide), by show 3 ≤ sizeLine; decide, fun p hp => fin _ p hp⟩⟩
        · refine ⟨_, rfl, _, rfl, _, _, rfl, rfl, .inr ⟨by decide, by decide⟩, _, _, rfl, rfl, .inl ⟨_, rfl, _, _, rfl, rfl, (by show (0 : Int) < 2147483647; decide), by show 3 ≤ sizeLine; decide, fun p hp => fin _ p hp⟩⟩
end
end RK

namespace RK
open PySem L2
section
variable {P : Program} {w : World} {K : PySem.W.Frag} {mg : Str → Option Value} {base : Heap}
theorem scLName : FnScope ["thing", "letters", "sign"] ["thing"] (defScope sLName) := ⟨rfl, rfl, rfl, by decide +kernel, rfl, by decide +kernel, by decide +kernel⟩
theorem iteN2 {c A B : Prop} [Decidable c] (hc : ¬ c) (h : A) : if (!decide c) = true then A else B := by
  rw [decide_eq_false hc]
  exact iteT h
theorem letters_cat : (("abcdefghijklmnopqrstuvwxyz" : Str) ++ ("0123456789" : Str)).cps.toList = laterC := by decide +kernel
theorem ok_lname {f : Addr} {fd : FuncData} (F : Fun K "_law_is_name" "_law_is_name" sLName f fd) (B : B0 K mg) : FnOk P w K mg base CX0 1 f fd ["thing"] (spIsName K) := by
  refine F.ok scLName (fun vs H Q E h => ?_) (fun cdv A outer s H vs Q E hr h => ?_)
  · obtain ⟨v, k, rfl, _⟩ := h
    rfl
  · obtain ⟨v, k, rfl, ht, q⟩ := h
    refine ⟨_, pss_cons (ps_set (i := 1) scLName.nd rfl (Or.inr rfl) pe_str)
      (pss_cons (ps_if (PW.pt (pw_or (pt_not (pt_val (pe_callB call_isiZ (by rfl) B.isi (by decide +kernel) (pa_cons (pv 0) (pa_cons (pe_bltn (v := .ty "str") (by rfl) B.str (by decide +kernel) rfl) pa_nil)))))
          (pw_or (pt_not (pt_chain op_le op_le pe_int (pe_callB call_len_str (by rfl) B.len PySem.boot_len (pa_cons (pv 0) pa_nil)) pe_int))
            (pw_or1 (pt_cmpR op_notIn_sign (pe_ix ix_str (pv 0) pe_int (fun _ _ => rfl)) (pv 1) rfl))))) (pss_one (ps_ret pe_bl)) pss_nil)
      (pss_one (ps_ret (pe_callB (cr_all rfl) (by rfl) B.all (by decide +kernel) (pa_cons (pe_lc (own := [("sign", 2)]) (g := gName 2) (tt := tYes) rfl scLName.nd (pi_str (pv 0)) (blkOk_by (N := ["thing", "letters", "sign"]) (sc := defScope sLName) (by decide +kernel))
          (fun _ _ _ _ _ => pg_name (i := 2) scLName.nd rfl (Or.inl rfl)) (fun _ _ _ _ _ => pts_nil) (fun _ _ _ _ _ => pe_cmpR op_in_sign (pv 2) (pe_op op_add_str (pv 1) pe_str) rfl)) pa_nil))))), ?_⟩
    -- not isinstance(thing, str)
    refine ⟨_, rfl, v, .ty "str", _, .type "str", k.isStr, rfl, .ty _, ht.ty, kit_str k, k.isStr, rfl, ?_⟩
    cases hk : k.isStr with
    | false =>
      refine iteT ?_
      have e := ht.not_name hk
      have q' := q H (Same.refl H)
      rw [e] at q'
      exact iteT q'
    | true =>
      obtain ⟨z, rfl, hz⟩ := ht.str_of hk
      refine iteF ?_
      have hzs : z.length ≤ sizeLine := Nat.le_trans hz (by decide)
      -- not 1 <= len(thing) <= 8
      refine ⟨_, rfl, z, rfl, hzs, 1, z.length, rfl, rfl, _, rfl, ?_⟩
      refine ite2 (fun h1 => ?_) (fun h1 => ?_)
      · have h1' : 1 ≤ z.length := by have := of_decide_eq_true h1; omega
        refine ⟨_, _, rfl, rfl, _, rfl, ?_⟩
        by_cases h2 : z.length ≤ 8
        · have e2 : decide (((z.length : Nat) : Int) ≤ 8) = true := decide_eq_true (by omega)
          rw [e2]
          refine iteF ?_
          obtain ⟨c, r, hc⟩ : ∃ c r, z.cps.toList = c :: r := by
            cases hc : z.cps.toList with
            | nil =>
              have : z.length = 0 := by
                show z.cps.size = 0
                rw [← Array.length_toList, hc]; rfl
              omega
            | cons c r => exact ⟨c, r, rfl⟩
          have hname : nameB z = (decide (c ∈ firstC) && z.cps.toList.all fun c => decide (c ∈ laterC)) := by
            unfold nameB
            rw [decide_eq_true h1', decide_eq_true h2, hc]
            rfl
          -- thing[0] not in letters
          refine ⟨_, rfl, z, 0, c, rfl, rfl, hzs, atI_nat (j := 0) (by rw [hc]; rfl), _, rfl, c, _, rfl, rfl, _, rfl, ?_⟩
          by_cases hf : c ∈ firstC
          · have hf' : decide (c ∈ firstC) = true := decide_eq_true hf
            refine iteNS hf ?_
            refine ⟨_, rfl, z, rfl, fun D hD => lc_it walk_str (fun i H' => Same H H' ∧ H' D = some (.lst ((z.cps.toList.take i).map fun c => V.bl (decide (c ∈ laterC))))) ⟨same_upd hD, upd_same⟩ (fun _ _ _ _ => True.intro) ?_ ?_⟩
            · rintro i x H1 H2 hi ⟨sm, hl⟩ ⟨rfl, d, hd, rfl⟩
              have hd' : z.cps.toList[i]? = some d := by rw [Array.getElem?_toList]; exact hd
              refine ⟨rfl, tyes ?_⟩
              refine ⟨_, rfl, _, rfl, _, _, rfl, rfl, by show 26 + 10 ≤ sizeLine; decide, d, _, rfl, rfl, _, hl, ?_, ?_, ?_⟩
              · rw [List.length_map, List.length_take]
                exact Nat.lt_of_le_of_lt (Nat.min_le_right _ _) (Nat.lt_of_le_of_lt (show z.cps.toList.length ≤ 1000 by rw [Array.length_toList]; exact hz) (by decide))
              · exact fun b o e => by rw [upd_ne (ne_of_none e hD)]; exact sm b o e
              · rw [upd_same, take_more hd', List.map_append, letters_cat]
                rfl
            · rintro H1 ⟨sm, hl⟩
              rw [show z.cps.size = z.cps.toList.length by rw [Array.length_toList], List.take_length] at hl
              refine ⟨D, z.cps.toList.map fun c => decide (c ∈ laterC), rfl, SqL.of (by rw [hl, List.map_map]; rfl), ?_⟩
              have q' := q H1 sm
              have e : nameV (.str z) = (z.cps.toList.map fun c => decide (c ∈ laterC)).all id := by
                show nameB z = _
                rw [hname, hf', Bool.true_and, List.all_map]
                rfl
              rw [e] at q'
              exact q'
          · have hf' : decide (c ∈ firstC) = false := decide_eq_false hf
            have q' := q H (Same.refl H)
            have e : nameV (.str z) = false := by
              show nameB z = _
              rw [hname, hf', Bool.false_and]
            rw [e] at q'
            exact iteN2 hf q'
        · have e2 : decide (((z.length : Nat) : Int) ≤ 8) = false := decide_eq_false (by omega)
          rw [e2]
          refine iteT ?_
          have q' := q H (Same.refl H)
          have e : nameV (.str z) = false := by
            show nameB z = false
            unfold nameB
            rw [decide_eq_false h2, Bool.and_false]
            rfl
          rw [e] at q'
          exact iteT q'
      · refine ⟨_, rfl, iteT ?_⟩
        have q' := q H (Same.refl H)
        have e : nameV (.str z) = false := by
          show nameB z = false
          unfold nameB
          rw [decide_eq_false (by intro h; exact h1 (decide_eq_true (by omega)))]
          rfl
        rw [e] at q'
        exact iteT q'
end
end RK

namespace RK
open PySem L2
def ixV : Option Nat → V
  | some i => .int i
  | none => .non
def spWrong (K : PySem.W.Frag) : Sp := fun vs H Q _ => ∃ (a : Addr) (xs : List V), vs = [.ref a] ∧ H a = some (.lst xs) ∧ xs.length ≤ 1000 ∧ (∀ x ∈ xs, ∃ k, Th K H x k) ∧ ∀ H', Same H H' → Q (ixV (wrongIx xs)) H'
theorem in_names : ∀ {zs : List Str} {z : Str}, inV (.str z) (zs.map V.str) = decide (V.str z ∈ zs.map V.str)
  | [], z => rfl
  | y :: r, z => by
    have ih := in_names (zs := r) (z := z)
    unfold inV at ih ⊢
    rw [List.map_cons, List.any_cons, ih]
    have e1 : eqV (V.str y) (V.str z) = decide (z = y) := by
      show (y == z) = _
      rw [beq_dec]
      by_cases e : y = z
      · subst e; rfl
      · rw [decide_eq_false e, decide_eq_false (fun q => e q.symm)]
    rw [e1]
    simp
theorem cutV_take {xs : List V} {i : Nat} (h : i ≤ xs.length) : cutV xs none (some (i : Int)) = xs.take i := by
  unfold cutV
  rw [HT.sIx_none, HT.sIx_nat, List.drop_zero, Nat.sub_zero, Nat.min_eq_left h]
theorem flat_names (zs : List Str) : (zs.map V.str).all flatV = true := by
  rw [List.all_map, List.all_eq_true]
  intro z _
  rfl
section
variable {P : Program} {w : World} {K : PySem.W.Frag} {mg : Str → Option Value} {base : Heap}
theorem scWrong : FnScope ["thing", "index", "one"] ["thing"] (defScope sWrong) := ⟨rfl, rfl, rfl, by decide +kernel, rfl, by decide +kernel, by decide +kernel⟩
theorem ok_wrong {f fN : Addr} {fd fdN : FuncData} (F : Fun K "_law_wrong" "_law_wrong" sWrong f fd) (B : B0 K mg) (FN : Fun K "_law_is_name" "_law_is_name" sLName fN fdN) (bN : Binds K fdN ["thing"] []) (gN : mg "_law_is_name" = some (.ref fN)) :
    FnOk P w K mg base CX0 2 f fd ["thing"] (spWrong K) := by
  have GN : FnOk P w K mg base CX0 1 fN fdN ["thing"] (spIsName K) := ok_lname FN B
  refine F.ok scWrong (fun vs H Q E h => ?_) (fun cdv A outer s H vs Q E hr h => ?_)
  · obtain ⟨a, xs, rfl, _⟩ := h
    rfl
  · obtain ⟨a, xs, rfl, ha, hlen, hth, k⟩ := h
    refine ⟨_, pss_cons (ps_if (pt_not (pt_val (pe_callB call_isiTZ (by rfl) B.isi (by decide +kernel) (pa_cons (pv 0) (pa_cons (pe_tup (pa_cons (pe_bltn (v := .ty "list") (by rfl) B.list (by decide +kernel) rfl) (pa_cons (pe_bltn (v := .ty "tuple") (by rfl) B.tuple (by decide +kernel) rfl) pa_nil))) pa_nil))))) (pss_one (ps_ret pe_int)) pss_nil)
      (pss_cons (ps_for PassesOwn.never rfl (pi_enum (by rfl) B.enum (pa_cons (pv 0) pa_nil)) (pg_tup rfl (pgs_cons (pg_name (i := 1) scWrong.nd rfl (Or.inl rfl)) (pgs_cons (pg_name (i := 2) scWrong.nd rfl (Or.inl rfl)) pgs_nil)))
        (pss_one (ps_if (PW.pt (pw_or (pt_not (pt_val (pe_call GN hr (by rfl) gN FN.kp bN .nil pass0 (pa_cons (pv 2) pa_nil)))) (pw_or1 (pt_cmpR op_in_seq (pv 2) (pe_callTy call_list_of (by rfl) B.list (by decide +kernel) (pa_cons (pe_slice sl_list (pv 0) po_none (po_some (pv 1))) pa_nil)) (by rfl))))) (pss_one (ps_ret (pv 1))) pss_nil)))
      (pss_one (ps_ret (pe_ifExp (pt_cmpR op_lt (pe_callB call_len_seq (by rfl) B.len PySem.boot_len (pa_cons (pv 0) pa_nil)) pe_int (nomark _)) (pe_callB call_len_seq (by rfl) B.len PySem.boot_len (pa_cons (pv 0) pa_nil)) pe_non)))), ?_⟩
    -- if not isinstance(thing, (list, tuple))
    refine ⟨_, rfl, by show 2 ≤ sizeLine; decide, fun p hp => ?_⟩
    have s1 := same_upd (o := .tup [.ty "list", .ty "tuple"]) hp
    refine ⟨.ref a, p, [.ty "list", .ty "tuple"], _, [.type "list", .type "tuple"], true, rfl, upd_same, .cons (.ty _) (.cons (.ty _) .nil), (Th.lst (K := K) (s1 _ _ ha)).ty, kit_seq .list, true, rfl, iteF ?_⟩
    refine ⟨_, rfl, a, xs, rfl, SqL.of (s1 _ _ ha), for_it (walk_enum (K := K) (a := a) (xs := xs)) (fun i σ H' => ∃ (w1 w2 : Option V) (zs : List Str), σ = [some (.ref a), w1, w2] ∧ xs.take i = zs.map V.str ∧ wrongIx xs = scan (xs.take i) (xs.drop i) ∧ Same H H')
      ⟨none, none, [], rfl, rfl, rfl, s1⟩ (fun i σ H' _ ⟨_, _, _, _, _, _, sm⟩ => SqL.of (sm _ _ ha)) ?_ ?_⟩
    · rintro i x σ H1 H2 hi ⟨w1, w2, zs, rfl, htk, hsc, sm⟩ ⟨T, x1, y, rfl, hT, rfl, hx1, hy⟩
      cases hx1
      replace hy : xs[i]? = some y := hy
      obtain ⟨ky, hky⟩ := hth y (List.mem_of_getElem? hy)
      have sT := same_upd (o := .tup [.int (i : Nat), y]) hT
      have hlen_i : (xs.take i).length = i := by
        rw [List.length_take]
        omega
      refine ⟨T, _, rfl, SqT.of upd_same, rfl, _, _, rfl, _, _, rfl, rfl, ?_⟩
      refine ⟨_, rfl, y, ky, rfl, (hky.same sm).same sT, fun H3 sm3 => ⟨nameV y, rfl, ?_⟩⟩
      have hall : Same H H3 := sm.trans (sT.trans sm3)
      cases hn : nameV y with
      | false =>
        have hw : wrongIx xs = some i := by rw [hsc, drop_at hy, scan_bad1 hn, hlen_i]
        have q := k H3 hall
        rw [hw] at q
        exact iteT (iteT ⟨_, rfl, q⟩)
      | true =>
        refine iteF ?_
        obtain ⟨z, rfl⟩ : ∃ z, y = .str z := by
          cases y <;> first | exact ⟨_, rfl⟩ | cases hn
        refine ⟨_, rfl, _, rfl, _, rfl, _, rfl, a, xs, rfl, SqL.of (hall _ _ ha), fun L hL => ?_⟩
        rw [cutV_take (Nat.le_of_lt hi), htk]
        refine ⟨L, _, rfl, .inl (SqL.of upd_same), fun M hM => ?_⟩
        have s4 := same_upd (o := .lst (zs.map V.str)) hL
        have s5 := same_upd (o := .lst (zs.map V.str)) hM
        have hall5 : Same H _ := hall.trans (s4.trans s5)
        refine ⟨M, _, rfl, .inl (SqL.of upd_same), rfl, flat_names zs, _, rfl, ?_⟩
        rw [in_names]
        show if decide (V.str z ∈ zs.map V.str) = true then _ else _
        refine ite2 (fun hin => ?_) (fun hin => ?_)
        · have hin' : V.str z ∈ zs.map V.str := of_decide_eq_true hin
          have hw : wrongIx xs = some i := by rw [hsc, drop_at hy, scan_bad2 (by rw [htk]; exact hin'), hlen_i]
          have q := k _ hall5
          rw [hw] at q
          exact ⟨_, rfl, q⟩
        · have hin' : V.str z ∉ zs.map V.str := fun q => hin (decide_eq_true q)
          refine ⟨_, _, zs ++ [z], rfl, ?_, ?_, hall5⟩
          · rw [take_more hy, htk, List.map_append]; rfl
          · rw [hsc, drop_at hy, scan_good hn (by rw [htk]; exact hin'), take_more hy]
    · rintro σ H1 ⟨w1, w2, zs, rfl, htk, hsc, sm⟩
      rw [List.take_length] at hsc
      rw [List.drop_length] at hsc
      refine ⟨_, rfl, a, xs, rfl, .inl (SqL.of (sm _ _ ha)), _, _, rfl, rfl, _, rfl, ?_⟩
      have q := k H1 sm
      rw [hsc] at q
      refine ite2 (fun h2 => ?_) (fun h2 => ?_)
      · have h2' : xs.length < 2 := by have := of_decide_eq_true h2; omega
        have hw : scan xs [] = some xs.length := by
          show (if _ then _ else _) = _
          rw [if_pos h2']
        rw [hw] at q
        exact ⟨_, rfl, a, xs, rfl, .inl (SqL.of (sm _ _ ha)), q⟩
      · have h2' : ¬ xs.length < 2 := fun q => h2 (decide_eq_true (by omega))
        have hw : scan xs [] = none := by
          show (if _ then _ else _) = _
          rw [if_neg h2']
        rw [hw] at q
        exact q
end
end RK

namespace RK
open PySem L2 RZ
/-- two things that are told alike, to the depth n -/
inductive SameD (H : Hp) : Nat → V → V → Prop where
  | int {n : Nat} (i : Int) : SameD H n (.int i) (.int i)
  | str {n : Nat} {z : Str} (h : z.length ≤ 1000) : SameD H n (.str z) (.str z)
  | lst {n : Nat} {a b : Addr} {xs ys : List V} (ha : H a = some (.lst xs)) (hb : H b = some (.lst ys)) (hl : xs.length = ys.length) (h1 : xs.length ≤ 1000) (h : ∀ (i : Nat) (x y : V), xs[i]? = some x → ys[i]? = some y → SameD H n x y) : SameD H (n + 1) (.ref a) (.ref b)
  | tup {n : Nat} {a b : Addr} {xs ys : List V} (ha : H a = some (.tup xs)) (hb : H b = some (.tup ys)) (hl : xs.length = ys.length) (h1 : xs.length ≤ 1000) (h : ∀ (i : Nat) (x y : V), xs[i]? = some x → ys[i]? = some y → SameD H n x y) : SameD H (n + 1) (.ref a) (.ref b)
theorem SameD.mono {H H' : Hp} (s : Same H H') : ∀ {n : Nat} {x y : V}, SameD H n x y → SameD H' n x y
  | _, _, _, .int i => .int i
  | _, _, _, .str h => .str h
  | _, _, _, .lst ha hb hl h1 h => .lst (s _ _ ha) (s _ _ hb) hl h1 fun i x y e1 e2 => SameD.mono s (h i x y e1 e2)
  | _, _, _, .tup ha hb hl h1 h => .tup (s _ _ ha) (s _ _ hb) hl h1 fun i x y e1 e2 => SameD.mono s (h i x y e1 e2)
/-- both are of one kind -/
theorem SameD.kd {K : PySem.W.Frag} {H : Hp} {n : Nat} {x y : V} (h : SameD H n x y) : ∃ k, Th K H x k ∧ Th K H y k ∧ k.isDict = false ∧ k.isBool = false ∧ (k.isSeq = false → x = y ∧ scal x y = true) := by
  cases h with
  | int i => exact ⟨.int, .int i, .int i, rfl, rfl, fun _ => ⟨rfl, rfl⟩⟩
  | str h => exact ⟨.str, .str h, .str h, rfl, rfl, fun _ => ⟨rfl, rfl⟩⟩
  | lst ha hb hl h1 h => exact ⟨.list, .lst ha, .lst hb, rfl, rfl, fun q => nomatch q⟩
  | tup ha hb hl h1 h => exact ⟨.tup, .tup ha, .tup hb, rfl, rfl, fun q => nomatch q⟩
def spSame (n : Nat) : Sp := fun vs H Q _ => ∃ x y, vs = [x, y] ∧ SameD H n x y ∧ ∀ H', Same H H' → Q (.bl true) H'
theorem kit_seq3 {K : PySem.W.Frag} (k : Kd) : PySem.W.kitAny K (.type k.nm) [.type "dict", .type "list", .type "tuple"] = some (k.isDict || k.isSeq) := by
  cases k <;> first
    | exact kitAny_cons (b := true) (kit_ty (by decide +kernel)) (fun z => nomatch z) (fun _ => rfl)
    | exact kitAny_cons (b := false) (kit_ty (by decide +kernel)) (fun _ => kit_seq _) (fun z => nomatch z)
section
variable {P : Program} {w : World} {K : PySem.W.Frag} {mg : Str → Option Value} {base : Heap}
theorem scSame : FnScope ["found", "due", "one", "other"] ["found", "due"] (defScope sSame) := ⟨rfl, rfl, rfl, by decide +kernel, rfl, by decide +kernel, by decide +kernel⟩
theorem ok_same0 {f : Addr} {fd : FuncData} (F : Fun K "_law_same" "_law_same" sSame f fd) (B : B0 K mg) : FnOk P w K mg base CX0 1 f fd ["found", "due"] (spSame 0) := by
  refine F.ok scSame (fun vs H Q E h => ?_) (fun cdv A outer s H vs Q E hr h => ?_)
  · obtain ⟨x, y, rfl, _⟩ := h
    rfl
  · obtain ⟨x, y, rfl, hd, q⟩ := h
    refine ⟨_, pss_cons (ps_if (pt_val (pe_callB call_isiZ (by rfl) B.isi (by decide +kernel) (pa_cons (pv 1) (pa_cons (pe_bltn (v := .ty "dict") (by rfl) B.dict (by decide +kernel) rfl) pa_nil)))) pss_never pss_nil)
      (pss_cons (ps_if (pt_val (pe_callB call_isiTZ (by rfl) B.isi (by decide +kernel) (pa_cons (pv 1) (pa_cons (pe_tup (pa_cons (pe_bltn (v := .ty "list") (by rfl) B.list (by decide +kernel) rfl) (pa_cons (pe_bltn (v := .ty "tuple") (by rfl) B.tuple (by decide +kernel) rfl) pa_nil))) pa_nil)))) pss_never pss_nil)
      (pss_cons (ps_if (PW.pt (pw_or (pt_val (pe_callB call_isiTZ (by rfl) B.isi (by decide +kernel) (pa_cons (pv 0) (pa_cons (pe_tup (pa_cons (pe_bltn (v := .ty "dict") (by rfl) B.dict (by decide +kernel) rfl) (pa_cons (pe_bltn (v := .ty "list") (by rfl) B.list (by decide +kernel) rfl) (pa_cons (pe_bltn (v := .ty "tuple") (by rfl) B.tuple (by decide +kernel) rfl) pa_nil)))) pa_nil))))
          (pw_or1 (pt_cmpR op_ne (pe_callB call_isiZ (by rfl) B.isi (by decide +kernel) (pa_cons (pv 0) (pa_cons (pe_bltn (v := .ty "bool") (by rfl) B.bool (by decide +kernel) rfl) pa_nil))) (pe_callB call_isiZ (by rfl) B.isi (by decide +kernel) (pa_cons (pv 1) (pa_cons (pe_bltn (v := .ty "bool") (by rfl) B.bool (by decide +kernel) rfl) pa_nil))) (nomark _))))) (pss_one (ps_ret pe_bl)) pss_nil)
      (pss_one (ps_ret (pe_cmpR op_eq (pv 0) (pv 1) (nomark _)))))), ?_⟩
    obtain ⟨k, hx, hy, kdict, kbool, kleaf⟩ := hd.kd (K := K)
    have kseq : k.isSeq = false := by
      cases hd <;> cases hx <;> first | rfl | contradiction
    refine ⟨_, rfl, y, .ty "dict", _, .type "dict", false, rfl, .ty _, hy.ty, kdict ▸ kit_dict k, false, rfl, iteF ?_⟩
    refine ⟨_, rfl, by show 2 ≤ sizeLine; decide, fun p hp => ?_⟩
    have s1 := same_upd (o := .tup [.ty "list", .ty "tuple"]) hp
    refine ⟨y, p, [.ty "list", .ty "tuple"], _, [.type "list", .type "tuple"], false, rfl, upd_same, .cons (.ty _) (.cons (.ty _) .nil), (hy.same s1).ty, kseq ▸ kit_seq k, false, rfl, iteF ?_⟩
    refine ⟨_, rfl, by show 3 ≤ sizeLine; decide, fun p2 hp2 => ?_⟩
    have s2 := s1.trans (same_upd (o := .tup [.ty "dict", .ty "list", .ty "tuple"]) hp2)
    refine ⟨x, p2, [.ty "dict", .ty "list", .ty "tuple"], _, [.type "dict", .type "list", .type "tuple"], false, rfl, upd_same, .cons (.ty _) (.cons (.ty _) (.cons (.ty _) .nil)), (hx.same s2).ty, ?_, false, rfl, iteF ?_⟩
    · rw [kit_seq3, kdict, kseq]; rfl
    refine ⟨_, rfl, x, .ty "bool", _, .type "bool", false, rfl, .ty _, (hx.same s2).ty, kbool ▸ kit_bool k, _, rfl, y, .ty "bool", _, .type "bool", false, rfl, .ty _, (hy.same s2).ty, kbool ▸ kit_bool k, rfl, _, rfl, iteNS rfl ?_⟩
    refine ⟨_, rfl, _, rfl, ?_, ?_⟩
    · cases hd <;> rfl
    · have e : x = y := by cases hd <;> rfl
      rw [decide_eq_true e]
      exact q _ s2
theorem SameD.seq {H : Hp} {n : Nat} {x y : V} {k : Kd} (h : SameD H n x y) (hx : Th K H x k) (e : k.isSeq = true) : ∃ m a b xs ys, n = m + 1 ∧ x = .ref a ∧ y = .ref b ∧ xs.length = ys.length ∧ xs.length ≤ 1000 ∧ (∀ (i : Nat) (x y : V), xs[i]? = some x → ys[i]? = some y → SameD H m x y) ∧
    ((H a = some (.lst xs) ∧ H b = some (.lst ys) ∧ k.isList = true ∧ k.isTup = false) ∨ (H a = some (.tup xs) ∧ H b = some (.tup ys) ∧ k.isList = false ∧ k.isTup = true)) := by
  cases h with
  | int i => cases hx; cases e
  | str h => cases hx; cases e
  | lst ha hb hl h1 h =>
    cases hx with
    | lst q => exact ⟨_, _, _, _, _, rfl, rfl, rfl, hl, h1, h, .inl ⟨ha, hb, rfl, rfl⟩⟩
    | tup q => rw [ha] at q; cases q
    | dict q => cases e
    | fn q c => cases e
  | tup ha hb hl h1 h =>
    cases hx with
    | lst q => rw [ha] at q; cases q
    | tup q => exact ⟨_, _, _, _, _, rfl, rfl, rfl, hl, h1, h, .inr ⟨ha, hb, rfl, rfl⟩⟩
    | dict q => cases e
    | fn q c => cases e
theorem ok_same {f : Addr} {fd : FuncData} (F : Fun K "_law_same" "_law_same" sSame f fd) (B : B0 K mg) (bS : Binds K fd ["found", "due"] []) (gS : mg "_law_same" = some (.ref f)) : ∀ n, FnOk P w K mg base CX0 (n + 1) f fd ["found", "due"] (spSame n)
  | 0 => ok_same0 F B
  | n + 1 => by
    have G : FnOk P w K mg base CX0 (n + 1) f fd ["found", "due"] (spSame n) := ok_same F B bS gS n
    refine F.ok scSame (fun vs H Q E h => ?_) (fun cdv A outer s H vs Q E hr h => ?_)
    · obtain ⟨x, y, rfl, _⟩ := h
      rfl
    · obtain ⟨x, y, rfl, hd, q⟩ := h
      refine ⟨_, pss_cons (ps_if (pt_val (pe_callB call_isiZ (by rfl) B.isi (by decide +kernel) (pa_cons (pv 1) (pa_cons (pe_bltn (v := .ty "dict") (by rfl) B.dict (by decide +kernel) rfl) pa_nil)))) pss_never pss_nil)
        (pss_cons (ps_if (pt_val (pe_callB call_isiTZ (by rfl) B.isi (by decide +kernel) (pa_cons (pv 1) (pa_cons (pe_tup (pa_cons (pe_bltn (v := .ty "list") (by rfl) B.list (by decide +kernel) rfl) (pa_cons (pe_bltn (v := .ty "tuple") (by rfl) B.tuple (by decide +kernel) rfl) pa_nil))) pa_nil))))
          (pss_cons (ps_if (PW.pt (pw_or (pt_cmpR op_ne (pe_callB call_isiZ (by rfl) B.isi (by decide +kernel) (pa_cons (pv 0) (pa_cons (pe_bltn (v := .ty "list") (by rfl) B.list (by decide +kernel) rfl) pa_nil))) (pe_callB call_isiZ (by rfl) B.isi (by decide +kernel) (pa_cons (pv 1) (pa_cons (pe_bltn (v := .ty "list") (by rfl) B.list (by decide +kernel) rfl) pa_nil))) (nomark _))
              (pw_or1 (pt_cmpR op_ne (pe_callB call_isiZ (by rfl) B.isi (by decide +kernel) (pa_cons (pv 0) (pa_cons (pe_bltn (v := .ty "tuple") (by rfl) B.tuple (by decide +kernel) rfl) pa_nil))) (pe_callB call_isiZ (by rfl) B.isi (by decide +kernel) (pa_cons (pv 1) (pa_cons (pe_bltn (v := .ty "tuple") (by rfl) B.tuple (by decide +kernel) rfl) pa_nil))) (nomark _))))) (pss_one (ps_ret pe_bl)) pss_nil)
          (pss_one (ps_ret (pe_and (pe_cmpR op_eq (pe_callB call_len_seq (by rfl) B.len PySem.boot_len (pa_cons (pv 0) pa_nil)) (pe_callB call_len_seq (by rfl) B.len PySem.boot_len (pa_cons (pv 1) pa_nil)) (nomark _))
            (pe_one (pe_callB (cr_all rfl) (by rfl) B.all (by decide +kernel) (pa_cons (pe_lc (te := tCall (spSame n) [] E0 (tCons (tVar 2) (tCons (tVar 3) tNil))) (own := [("one", 2), ("other", 3)]) (g := gTup K 2 (gCons (gName 2) (gCons (gName 3) gNil))) (tt := tYes) rfl scSame.nd (pi_zipA (by rfl) B.zip (pa_cons (pv 0) (pa_cons (pv 1) pa_nil)))
              (blkOk_by (N := ["found", "due", "one", "other"]) (sc := defScope sSame) (by decide +kernel)) (fun _ _ _ _ _ => by exact (pg_tup rfl (pgs_cons (pg_name (i := 2) scSame.nd rfl (Or.inl rfl)) (pgs_cons (pg_name (i := 3) scSame.nd rfl (Or.inl rfl)) pgs_nil)))) (fun _ _ _ _ _ => pts_nil)
              (fun _ _ _ _ _ => by exact (pe_call G hr (by rfl) gS F.kp bS .nil pass0 (pa_cons (pv 2) (pa_cons (pv 3) pa_nil))))) pa_nil))))))) pss_nil)
        (pss_cons (ps_if (PW.pt (pw_or (pt_val (pe_callB call_isiTZ (by rfl) B.isi (by decide +kernel) (pa_cons (pv 0) (pa_cons (pe_tup (pa_cons (pe_bltn (v := .ty "dict") (by rfl) B.dict (by decide +kernel) rfl) (pa_cons (pe_bltn (v := .ty "list") (by rfl) B.list (by decide +kernel) rfl) (pa_cons (pe_bltn (v := .ty "tuple") (by rfl) B.tuple (by decide +kernel) rfl) pa_nil)))) pa_nil))))
            (pw_or1 (pt_cmpR op_ne (pe_callB call_isiZ (by rfl) B.isi (by decide +kernel) (pa_cons (pv 0) (pa_cons (pe_bltn (v := .ty "bool") (by rfl) B.bool (by decide +kernel) rfl) pa_nil))) (pe_callB call_isiZ (by rfl) B.isi (by decide +kernel) (pa_cons (pv 1) (pa_cons (pe_bltn (v := .ty "bool") (by rfl) B.bool (by decide +kernel) rfl) pa_nil))) (nomark _))))) (pss_one (ps_ret pe_bl)) pss_nil)
        (pss_one (ps_ret (pe_cmpR op_eq (pv 0) (pv 1) (nomark _)))))), ?_⟩
      obtain ⟨k, hx, hy, kdict, kbool, kleaf⟩ := hd.kd (K := K)
      refine ⟨_, rfl, y, .ty "dict", _, .type "dict", false, rfl, .ty _, hy.ty, kdict ▸ kit_dict k, false, rfl, iteF ?_⟩
      refine ⟨_, rfl, by show 2 ≤ sizeLine; decide, fun p hp => ?_⟩
      have s1 := same_upd (o := .tup [.ty "list", .ty "tuple"]) hp
      refine ⟨y, p, [.ty "list", .ty "tuple"], _, [.type "list", .type "tuple"], k.isSeq, rfl, upd_same, .cons (.ty _) (.cons (.ty _) .nil), (hy.same s1).ty, kit_seq k, _, rfl, ?_⟩
      cases kseq : k.isSeq with
      | true =>
        refine iteT ?_
        obtain ⟨m, a, b, xs, ys, hm, rfl, rfl, hl, h1, hin, hkind⟩ := hd.seq hx kseq
        cases hm
        refine ⟨_, rfl, .ref a, .ty "list", _, .type "list", _, rfl, .ty _, (hx.same s1).ty, kit_list k, _, rfl, .ref b, .ty "list", _, .type "list", _, rfl, .ty _, (hy.same s1).ty, kit_list k, rfl, _, rfl, iteNS rfl ?_⟩
        refine ⟨_, rfl, .ref a, .ty "tuple", _, .type "tuple", _, rfl, .ty _, (hx.same s1).ty, kit_tup k, _, rfl, .ref b, .ty "tuple", _, .type "tuple", _, rfl, .ty _, (hy.same s1).ty, kit_tup k, rfl, _, rfl, iteNS rfl ?_⟩
        have hq0 : (SqL K _ a xs ∧ SqL K _ b ys) ∨ (SqT K _ a xs ∧ SqT K _ b ys) := hkind.elim (fun e => .inl ⟨SqL.of (s1 _ _ e.1), SqL.of (s1 _ _ e.2.1)⟩) fun e => .inr ⟨SqT.of (s1 _ _ e.1), SqT.of (s1 _ _ e.2.1)⟩
        have la : SqL K _ a xs ∨ SqT K _ a xs := hq0.elim (fun e => .inl e.1) fun e => .inr e.1
        have lb : SqL K _ b ys ∨ SqT K _ b ys := hq0.elim (fun e => .inl e.2) fun e => .inr e.2
        refine ⟨_, rfl, a, xs, rfl, la, _, rfl, b, ys, rfl, lb, rfl, true, by rw [hl]; exact congrArg V.bl (decide_eq_true rfl), iteT ?_⟩
        refine ⟨_, rfl, _, rfl, a, b, xs, ys, rfl, lc_zipA hl hq0 (fun D i H' => Same (upd H p (.tup [.ty "list", .ty "tuple"])) H' ∧ H' D = some (.lst (List.replicate i (V.bl true)))) (fun D hD => ⟨same_upd hD, upd_same⟩) (fun D i H' hD pv => pv.1) ?_ ?_⟩
        · rintro D i x y T H' hD ex ey ⟨sm, hacc⟩ hT
          have sT := same_upd (o := .tup [x, y]) hT
          refine ⟨T, _, rfl, SqT.of upd_same, rfl, _, _, rfl, _, _, rfl, rfl, rfl, tyes ?_⟩
          refine ⟨_, rfl, _, rfl, x, y, rfl, (hin i x y ex ey).mono (s1.trans (sm.trans sT)), fun H3 sm3 => ⟨_, sm3 _ _ (sT _ _ hacc), ?_, ?_, ?_⟩⟩
          · rw [List.length_replicate]
            exact Nat.lt_of_lt_of_le (List.getElem?_eq_some_iff.mp ex).1 (Nat.le_trans h1 (by decide))
          · exact fun c o e => by rw [upd_ne (ne_of_none e hD)]; exact sm3 _ _ (sT _ _ (sm c o e))
          · rw [upd_same, ← List.replicate_succ']
        · rintro D H' hD ⟨sm, hacc⟩
          refine ⟨D, List.replicate xs.length true, rfl, SqL.of (by rw [hacc, List.map_replicate]), ?_⟩
          have e : (List.replicate xs.length true).all id = true := by simp
          rw [e]
          exact q _ (s1.trans sm)
      | false =>
        refine iteF ?_
        refine ⟨_, rfl, by show 3 ≤ sizeLine; decide, fun p2 hp2 => ?_⟩
        have s2 := s1.trans (same_upd (o := .tup [.ty "dict", .ty "list", .ty "tuple"]) hp2)
        refine ⟨x, p2, [.ty "dict", .ty "list", .ty "tuple"], _, [.type "dict", .type "list", .type "tuple"], false, rfl, upd_same, .cons (.ty _) (.cons (.ty _) (.cons (.ty _) .nil)), (hx.same s2).ty, ?_, false, rfl, iteF ?_⟩
        · rw [kit_seq3, kdict, kseq]; rfl
        refine ⟨_, rfl, x, .ty "bool", _, .type "bool", false, rfl, .ty _, (hx.same s2).ty, kbool ▸ kit_bool k, _, rfl, y, .ty "bool", _, .type "bool", false, rfl, .ty _, (hy.same s2).ty, kbool ▸ kit_bool k, rfl, _, rfl, iteNS rfl ?_⟩
        have hleaf : x = y ∧ scal x y = true := kleaf kseq
        refine ⟨_, rfl, _, rfl, hleaf.2, ?_⟩
        rw [decide_eq_true hleaf.1]
        exact q _ s2
end
end RK

namespace RK
open PySem L2
def spMet (K : PySem.W.Frag) : Sp := fun vs H Q _ => ∃ v k, vs = [v] ∧ Th K H v k ∧
  (k.isSeq = false → ∀ p H', H' p = some (.tup [.str "wrong", .int 0]) → Same H H' → Q (.ref p) H') ∧
  (k.isSeq = true → ∃ a xs, v = .ref a ∧ SeqAt2 H a xs k ∧ xs.length ≤ 1000 ∧ (∀ x ∈ xs, ∃ kx, Th K H x kx) ∧
    (∀ i : Nat, wrongIx xs = some i → ∀ p H', H' p = some (.tup [.str "wrong", .int i]) → Same H H' → Q (.ref p) H') ∧
    (wrongIx xs = none → ∀ (zs : List Str) p l H', xs = zs.map V.str → H' p = some (.tup [.str "told", .ref l]) → H' l = some (.lst (zs.map V.str)) → Same H H' → Q (.ref p) H'))
def EW (W : WX) : XK := fun c d H => ∀ σ : St, σ.length = 2 → W c d σ H
section
variable {P : Program} {w : World} {K : PySem.W.Frag} {mg : Str → Option Value} {base : Heap} {C CB fB : Addr}
theorem xfc_of (T : PT0 P K mg C CB fB) : XfC K CB := ⟨T.bad.ga, T.bad.gg, T.bad.exC, T.bad.hdC⟩
theorem scMet : FnScope ["thing", "e"] ["thing"] (defScope sMet) := ⟨rfl, rfl, rfl, by decide +kernel, rfl, by decide +kernel, by decide +kernel⟩
theorem ok_met {f fI fW : Addr} {fd fdI fdW : FuncData} (F : Fun K "_law_met" "_law_met" sMet f fd) (B : B0 K mg) (T : PT0 P K mg C CB fB)
    (GI : FnOk P w K mg base (L2.CX P w) 2 fI fdI ["self", "walkers"] (spInit K C CB)) (bI : Binds K fdI ["self", "walkers"] []) (M : Mk K C fI)
    (GW : FnOk P w K mg base CX0 1 fW fdW ["self"] (spWalkers C)) (bW : Binds K fdW ["self"] []) (mW : Meth K C "walkers" fW) :
    FnOk P w K mg base CX0 4 f fd ["thing"] (spMet K) := by
  refine F.ok scMet (fun vs H Q E h => ?_) (fun cdv A outer s H vs Q E hr h => ?_)
  · obtain ⟨v, k, rfl, _⟩ := h
    rfl
  · obtain ⟨v, k, rfl, ht, k1, k2⟩ := h
    have hr1 : Room 1 _ := hr.mono (by decide)
    refine ⟨_, pss_one (ps_try_as (i := 1) (tb := fun W => tRet (tTup (tCons (tC (.str "told")) (tCons (tMeth C "walkers" (spWalkers C) [] E0 (tMake C (spInit K C CB) [] (EW W) (tCons (tVar 0) tNil)) tNil) tNil))))
        (ts := fun a cls d => tRet (tTup (tCons (tC (.str "wrong")) (tCons (tXf a cls d CB "index" (tVar 1)) tNil)))) (Wout := fun _ _ _ _ => False) rfl rfl scMet.nd rfl rfl ⟨rfl, by decide, Or.inl T.gB⟩ takes0
      (fun W pn xe tk _ => pss_one (ps_ret (by exact (pe_tup (pa_cons pe_str (pa_cons (by exact (pe_meth0 (by exact (pe_make M GI hr (by rfl) T.mgC bI .nil (fun pins σ H s e s' I c => tk e s' (XE.of_call I (fun cls d H' h => h σ I.len) c)) (pa_cons (pv 0) pa_nil))) T.cl mW GW hr1 bW .nil pass0)) pa_nil))))))
      (fun a oe cls d pn hz hf => pss_one (ps_ret (by exact (pe_tup (pa_cons pe_str (pa_cons (by exact (pe_xf (xfc_of T) T.bad.noN hz hf (pv 1))) pa_nil))))))), ?_⟩
    refine ⟨_, rfl, fun x dx nx ndx nex => ?_⟩
    have s0 : Same H (upd (upd H dx (.own x)) x (.ins C dx [])) := fun b o e => by
      rw [upd_ne (ne_of_none e nx), upd_ne (ne_of_none e ndx)]
      exact e
    refine ⟨x, dx, v, k, rfl, upd_same, ht.same s0, fun hk d H1 s1 hd => ?_, fun hk => ?_⟩
    · rintro σ hσ
      obtain ⟨u0, u1, rfl⟩ : ∃ u0 u1, σ = [u0, u1] := by
        match σ, hσ with
        | [u0, u1], _ => exact ⟨u0, u1, rfl⟩
      refine ⟨true, T.bad.te, fun _ a0 ha0 => ?_, fun q => nomatch q⟩
      refine ⟨_, rfl, rfl, rfl, d, _, _, rfl, hd, rfl, by show 2 ≤ sizeLine; decide, fun p hp => ?_⟩
      exact k1 hk p _ upd_same (s0.trans (s1.trans (same_upd hp)))
    · obtain ⟨a, xs, rfl, hsq, hlen, hth, kbad, kgood⟩ := k2 hk
      refine ⟨a, xs, rfl, hsq.same s0, hlen, fun y hy => let ⟨ky, q⟩ := hth y hy; ⟨ky, q.same s0⟩, fun i hi d H1 s1 hd => ?_, fun hw zs t H1 hxs hpa hbut => ⟨rfl, ?_⟩⟩
      · rintro σ hσ
        obtain ⟨u0, u1, rfl⟩ : ∃ u0 u1, σ = [u0, u1] := by
          match σ, hσ with
          | [u0, u1], _ => exact ⟨u0, u1, rfl⟩
        refine ⟨true, T.bad.te, fun _ a0 ha0 => ?_, fun q => nomatch q⟩
        refine ⟨_, rfl, rfl, rfl, d, _, _, rfl, hd, rfl, by show 2 ≤ sizeLine; decide, fun p hp => ?_⟩
        exact kbad i hi p _ upd_same (s0.trans (s1.trans (same_upd hp)))
      · obtain ⟨dy, ho⟩ := hpa.ob
        have sx : Same H H1 := fun b o e => hbut b o (s0 b o e) (ne_of_none e nx)
        refine ⟨x, dy, _, rfl, ho, fNames_no t (by decide +kernel), x, t, zs, rfl, hpa, fun l hl => ?_⟩
        refine ⟨by show 2 ≤ sizeLine; decide, fun p hp => ?_⟩
        refine kgood hw zs p l _ hxs upd_same ?_ (sx.trans ((same_upd hl).trans (same_upd hp)))
        rw [upd_ne (ne_of_none upd_same hp), upd_same]
end
end RK

namespace RK
open PySem L2
theorem kb_init {K : PySem.W.Frag} {f : Addr} {fd : FuncData} (F : Fun K "__init__" "Path.__init__" sInit f fd) : KBn K fd ["self", "walkers"] 1 ["walkers"] (fun us ws => us ++ ws) (fun vs zs => vs ++ zs) := by
  obtain ⟨oc, od, kV, doc, pm, an, cdv, ct, osl, rfl, lk, hcd⟩ := F.ex
  refine ⟨fun s us ws X l1 l2 => ?_, fun r1 r2 => r1.append r2⟩
  match us, ws, l1, l2 with
  | [u], [w], _, _ => exact .of_eq rfl
theorem scan_none : ∀ {r seen : List Str}, (seen ++ r).Nodup → Nm r → 2 ≤ (seen ++ r).length → scan (seen.map V.str) (r.map V.str) = none
  | [], seen, _, _, h2 => by
    rw [List.append_nil] at h2
    show (if _ then _ else _) = _
    rw [if_neg (by rw [List.length_map]; omega)]
  | z :: r, seen, hnd, hnm, h2 => by
    have e : seen ++ z :: r = (seen ++ [z]) ++ r := by simp
    have hz : z ∉ seen := fun hm => by
      have := (List.nodup_append.mp hnd).2.2
      exact this z hm z List.mem_cons_self rfl
    rw [List.map_cons, scan_good (x := V.str z) (show nameV (.str z) = true from hnm z List.mem_cons_self) (fun q => hz (by obtain ⟨y, hy, e⟩ := List.mem_map.mp q; cases e; exact hy))]
    have ih := scan_none (r := r) (seen := seen ++ [z]) (by rw [← e]; exact hnd) (fun y hy => hnm y (List.mem_cons_of_mem _ hy)) (by rw [← e]; exact h2)
    rw [List.map_append] at ih
    exact ih
theorem wrong_none {zs : List Str} (hnd : zs.Nodup) (hnm : Nm zs) (h2 : 2 ≤ zs.length) : wrongIx (zs.map V.str) = none := scan_none (seen := []) hnd hnm h2
theorem map_str_inj {zs ys : List Str} (h : zs.map V.str = ys.map V.str) : zs = ys := by
  have q := congrArg (List.map unStr) h
  rw [List.map_map, List.map_map] at q
  have e : (unStr ∘ V.str) = id := rfl
  rw [e, List.map_id, List.map_id] at q
  exact q
theorem rev_ne {zs : List Str} (hnd : zs.Nodup) (h2 : 2 ≤ zs.length) : zs ≠ zs.reverse := by
  match zs, hnd, h2 with
  | x :: y :: r, hnd, _ =>
    intro e
    rw [List.reverse_cons] at e
    obtain ⟨u, s, hs⟩ : ∃ u s, (y :: r).reverse = u :: s := by
      cases q : (y :: r).reverse with
      | nil => simp at q
      | cons u s => exact ⟨u, s, rfl⟩
    rw [hs, List.cons_append] at e
    have hx : x = u := (List.cons.inj e).1
    have hu : u ∈ (y :: r) := by
      have : u ∈ (y :: r).reverse := by rw [hs]; exact List.mem_cons_self
      exact List.mem_reverse.mp this
    rw [← hx] at hu
    exact (List.nodup_cons.mp hnd).1 hu
theorem notFirst_own {K : PySem.W.Frag} {C : Addr} : PySem.W.notFirst K C (.ref C) = true := by simp [PySem.W.notFirst]
theorem th_names {K : PySem.W.Frag} {H : Hp} {zs : List Str} (hnm : Nm zs) : ∀ x ∈ zs.map V.str, ∃ k, Th K H x k := fun x hx => by
  obtain ⟨z, hz, rfl⟩ := List.mem_map.mp hx
  exact ⟨.str, .str (Nat.le_trans (name_short (hnm z hz)) (by decide))⟩
/-! ### paths that are told right -/
def spTold : Sp := fun vs H Q _ => ∃ (a l : Addr) (zs : List Str) (m : Nat), vs = [.ref a, .ref l] ∧ a ≠ l ∧ SpAt H a m ∧ m < 1000000000 ∧ H l = some (.lst (zs.map V.str)) ∧ zs.Nodup ∧ Nm zs ∧ 2 ≤ zs.length ∧ zs.length ≤ 500 ∧
  ∀ H', SpAt H' a (m + 1) → But a H H' → Q (.bl true) H'
section
variable {P : Program} {w : World} {K : PySem.W.Frag} {mg : Str → Option Value} {base : Heap} {C CB fB fE : Addr}
theorem scTold : FnScope ["spring", "names", "handed", "made", "again", "told", "mate", "turned", "odd"] ["spring", "names"] (defScope sTold) := ⟨rfl, rfl, rfl, by decide +kernel, rfl, by decide +kernel, by decide +kernel⟩
theorem ok_told {f fI fW fP fS : Addr} {fd fdI fdW fdE fdP fdS : FuncData} (F : Fun K "_law_told_right" "_law_told_right" sTold f fd) (B : B0 K mg) (T : PT0 P K mg C CB fB) (TE : PT1 K C fE)
    (GI : FnOk P w K mg base (L2.CX P w) 2 fI fdI ["self", "walkers"] (spInit K C CB)) (bI : Binds K fdI ["self", "walkers"] []) (kI : KBn K fdI ["self", "walkers"] 1 ["walkers"] (fun us ws => us ++ ws) (fun vs zs => vs ++ zs)) (M : Mk K C fI)
    (GW : FnOk P w K mg base CX0 1 fW fdW ["self"] (spWalkers C)) (bW : Binds K fdW ["self"] []) (mW : Meth K C "walkers" fW)
    (GE : FnOk P w K mg base CX0 1 fE fdE ["self", "other"] (spEq K C)) (bE : Binds K fdE ["self", "other"] [])
    (GP : FnOk P w K mg base CX0 2 fP fdP ["spring", "some"] spPick) (bP : Binds K fdP ["spring", "some"] []) (gP : mg "_law_pick" = some (.ref fP)) (kP : PySem.W.keepIn K (.ref fP) = true)
    (GS : FnOk P w K mg base CX0 2 fS fdS ["found", "due"] (spSame 1)) (bS : Binds K fdS ["found", "due"] []) (gS : mg "_law_same" = some (.ref fS)) (kS : PySem.W.keepIn K (.ref fS) = true) :
    FnOk P w K mg base CX0 4 f fd ["spring", "names"] spTold := by
  refine F.ok scTold (fun vs H Q E h => ?_) (fun cdv A outer s H vs Q E hr h => ?_)
  · obtain ⟨a, l, zs, m, rfl, _⟩ := h
    rfl
  · obtain ⟨a, l, zs, m, rfl, hal, hsp, hm, hl, hnd, hnm, h2, h500, k⟩ := h
    have hr1 : Room 1 _ := hr.mono (by decide)
    have hr2 : Room 2 _ := hr.mono (by decide)
    refine ⟨_, pss_cons (ps_set (i := 2) scTold.nd rfl (Or.inl rfl) (by exact (pe_call GP hr2 (by rfl) gP kP bP .nil pass0 (pa_cons (pv 0) (pa_cons (pe_lst (pa_cons (pe_callTy call_list_of (by rfl) B.list (by decide +kernel) (pa_cons (pv 1) pa_nil)) (pa_cons (pe_callTy call_tuple_of (by rfl) B.tuple (by decide +kernel) (pa_cons (pv 1) pa_nil)) pa_nil))) pa_nil)))))
      (pss_cons (ps_set (i := 3) scTold.nd rfl (Or.inr rfl) (pe_make M GI hr (by rfl) T.mgC bI .nil passL (pa_cons (pv 2) pa_nil)))
      (Evl.pss_cut (ps_if (pt_val (pe_callB call_isiZ (by rfl) B.isi (by decide +kernel) (pa_cons (pv 2) (pa_cons (pe_bltn (v := .ty "list") (by rfl) B.list (by decide +kernel) rfl) pa_nil)))) (pss_one (ps_expr (pe_bm PySem.F.plainAttrs_list PySem.F.slot_list_append PySem.F.type_list_append mt_append (pv 2) (pa_cons pe_str pa_nil)))) pss_nil)
      (pss_cons (ps_for PassesOwn.never rfl (pi_range1 (by rfl) B.range (pa_cons pe_int pa_nil)) (pg_name (i := 4) scTold.nd rfl (Or.inl rfl))
        (pss_cons (ps_set (i := 5) scTold.nd rfl (Or.inl rfl) (pe_meth0 (pv 3) T.cl mW GW hr1 bW .nil pass0))
        (pss_cons (ps_if (pt_not (pt_val (pe_call GS hr2 (by rfl) gS kS bS .nil pass0 (pa_cons (pv 5) (pa_cons (pv 1) pa_nil))))) (pss_one (ps_ret pe_bl)) pss_nil)
        (pss_one (ps_expr (pe_bm PySem.F.plainAttrs_list PySem.F.slot_list_append PySem.F.type_list_append mt_append (pv 5) (pa_cons pe_str pa_nil)))))))
      (pss_cons (ps_par (i := 6) (j := 7) rfl scTold.nd rfl rfl (by decide) rfl rfl (pa_cons (pe_makeK0 M GI hr (by rfl) T.mgC kI passL (pk_cons (pe_callTy call_tuple_of (by rfl) B.tuple (by decide +kernel) (pa_cons (pv 1) pa_nil)) pk_nil)) (pa_cons (pe_make M GI hr (by rfl) T.mgC bI .nil passL (pa_cons (pe_revL (pv 1)) pa_nil)) pa_nil)) (by rfl))
      (pss_cons (ps_if (PW.pt (pw_or (pt_not (pt_cmpR (op_eqO (C := C) GE hr1 bE pass0 TE.eqF TE.eqI) (pv 3) (pv 6) (nomark _))) (pw_or (pt_cmpR (op_neO (C := C) GE hr2 bE pass0 TE.eqF TE.eqI TE.neF TE.mo) (pv 3) (pv 6) (nomark _)) (pw_or (pt_cmpR (op_eqO (C := C) GE hr1 bE pass0 TE.eqF TE.eqI) (pv 3) (pv 7) (nomark _)) (pw_or1 (pt_not (pt_cmpR (op_neO (C := C) GE hr2 bE pass0 TE.eqF TE.eqI TE.neF TE.mo) (pv 3) (pv 7) (nomark _)))))))) (pss_one (ps_ret pe_bl)) pss_nil)
      (pss_one (ps_ret (pe_not (pe_callB (cr_any rfl) (by rfl) B.any (by decide +kernel) (pa_cons (pe_lc (te := tOrV (tOp (rOwn K C (spEq K C) E0 id) (tVar 3) (tVar 8)) (tNotV (tOp (rOwn K C (spEq K C) E0 not) (tVar 3) (tVar 8)))) (own := [("odd", 8)]) (g := gName 8) (tt := tYes) rfl scTold.nd
        (pi_tup (pe_tup (pa_cons pe_non (pa_cons pe_int (pa_cons pe_str (pa_cons (pv 1) (pa_cons (pe_callTy call_tuple_of (by rfl) B.tuple (by decide +kernel) (pa_cons (pv 1) pa_nil)) (pa_cons pe_dnewK (pa_cons pe_bl pa_nil)))))))))
        (blkOk_by (N := ["spring", "names", "handed", "made", "again", "told", "mate", "turned", "odd"]) (sc := defScope sTold) (by decide +kernel)) (fun _ _ _ _ _ => pg_name (i := 8) scTold.nd rfl (Or.inl rfl)) (fun _ _ _ _ _ => pts_nil)
        (fun _ _ _ _ _ => by exact (pe_or (pe_cmpR (by exact (op_eqO (C := C) GE hr1 bE pass0 TE.eqF TE.eqI)) (pv 3) (pv 8) (nomark _)) (pe_one (pe_not (pe_cmpR (by exact (op_neO (C := C) GE hr2 bE pass0 TE.eqF TE.eqI TE.neF TE.mo)) (pv 3) (pv 8) (nomark _))))))) pa_nil)))))))))), ?_⟩
    obtain ⟨osp, hosp, hok0⟩ := id hsp
    have hlen : (zs.map V.str).length = zs.length := List.length_map _
    have hwn := wrong_none hnd hnm h2
    -- handed = _law_pick(spring, [list(names), tuple(names)])
    refine ⟨_, rfl, _, rfl, l, _, rfl, .inl (SqL.of hl), fun L1 hL1 => ?_⟩
    have s1 := same_upd (o := .lst (zs.map V.str)) hL1
    refine ⟨_, rfl, l, _, rfl, .inl ⟨SqL.of (s1 _ _ hl), fun T1 hT1 => ?_⟩⟩
    have s2 := s1.trans (same_upd (o := .tup (zs.map V.str)) hT1)
    refine ⟨by show 2 ≤ sizeLine; decide, fun M1 hM1 => ?_⟩
    have s3 := s2.trans (same_upd (o := .lst [.ref L1, .ref T1]) hM1)
    refine ⟨a, M1, [.ref L1, .ref T1], m, rfl, ne_of_none (s2 _ _ hosp) hM1, ⟨osp, s3 _ _ hosp, hok0⟩, by omega, upd_same, by show 0 < 2; decide, by show 2 ≤ 1000; decide, fun v o hv ho => ?_⟩
    have hL1T : L1 ≠ T1 := ne_of_none upd_same hT1
    have hL1M : L1 ≠ M1 := ne_of_none (same_upd hT1 _ _ upd_same) hM1
    have hT1M : T1 ≠ M1 := ne_of_none upd_same hM1
    have haL : a ≠ L1 := ne_of_none hosp hL1
    have haT : a ≠ T1 := ne_of_none (s1 _ _ hosp) hT1
    obtain ⟨av, kd, rfl, hseq, hav, havn⟩ : ∃ av kd, v = .ref av ∧ SeqAt2 (upd (upd (upd (upd H L1 (.lst (zs.map V.str))) T1 (.tup (zs.map V.str))) M1 (.lst [.ref L1, .ref T1])) a o) av (zs.map V.str) kd ∧ av ≠ a ∧ H av = none := by
      rcases List.mem_cons.mp hv with rfl | hv
      · exact ⟨L1, .list, rfl, .inl ⟨by rw [upd_ne (Ne.symm haL), upd_ne hL1M, upd_ne hL1T, upd_same], rfl⟩, Ne.symm haL, hL1⟩
      · rcases List.mem_cons.mp hv with rfl | hv
        · exact ⟨T1, .tup, rfl, .inr ⟨by rw [upd_ne (Ne.symm haT), upd_ne hT1M, upd_same], rfl⟩, Ne.symm haT, s1.free hT1⟩
        · cases hv
    have b4 : But a H (upd (upd (upd (upd H L1 (.lst (zs.map V.str))) T1 (.tup (zs.map V.str))) M1 (.lst [.ref L1, .ref T1])) a o) := (Same.but s3).trans But.upd
    generalize hH4 : upd (upd (upd (upd H L1 (.lst (zs.map V.str))) T1 (.tup (zs.map V.str))) M1 (.lst [.ref L1, .ref T1])) a o = H4 at hseq b4
    have ha4 : H4 a = some o := by rw [← hH4, upd_same]
    have hl4 : H4 l = some (.lst (zs.map V.str)) := b4 _ _ (Ne.symm hal) hl
    -- made = Path(handed)
    refine ⟨_, rfl, fun x dx nx ndx nex => ?_⟩
    have s5 : Same H4 (upd (upd H4 dx (.own x)) x (.ins C dx [])) := fun b u e => by
      rw [upd_ne (ne_of_none e nx), upd_ne (ne_of_none e ndx)]
      exact e
    refine ⟨x, dx, .ref av, kd, rfl, upd_same, (hseq.same s5).th.1, fun hk => absurd (hseq.th (K := K)).2 (by rw [hk]; exact Bool.false_ne_true), fun _ => ?_⟩
    refine ⟨av, zs.map V.str, rfl, hseq.same s5, by omega, th_names hnm, fun i hi => absurd (hwn.symm.trans hi) (fun q => nomatch q), fun _ zs' t H5 hxs hpa hbut => ⟨rfl, ?_⟩⟩
    cases map_str_inj hxs
    have s6 : Same H4 H5 := fun b u e => hbut b u (s5 b u e) (ne_of_none e nx)
    have ha5 : H5 a = some o := s6 _ _ ha4
    have hl5 : H5 l = some (.lst (zs.map V.str)) := s6 _ _ hl4
    have b5 : But a H H5 := b4.trans (Same.but s6)
    have hseq5 := hseq.same s6
    have fNo : ∀ t', (fNames t').lookup ("walkers" : Str) = none := fun t' => fNames_no t' (by decide +kernel)
    -- if isinstance(handed, list): handed.append('late')
    refine ⟨fun σ H6 => σ = [some (.ref a), some (.ref l), some (.ref av), some (.ref x), none, none, none, none, none] ∧ PathAt C H6 x t zs ∧ H6 a = some o ∧ H6 l = some (.lst (zs.map V.str)) ∧ But a H H6, ?_, ?_⟩
    · refine ⟨_, rfl, .ref av, .ty "list", _, .type "list", kd.isList, rfl, .ty _, (hseq5.th (K := K)).1.ty, kit_list kd, _, rfl, ?_⟩
      rcases hseq5 with ⟨e, rfl⟩ | ⟨e, rfl⟩
      · refine iteT ?_
        refine ⟨_, rfl, .inl ⟨rfl, _, SqL.of e⟩, av, _, _, rfl, rfl, e, Nat.lt_of_le_of_lt (show (zs.map V.str).length ≤ 500 by omega) (by decide), rfl, ?_⟩
        obtain ⟨dx5, ho5⟩ := hpa.ob
        refine ⟨⟨⟨dx5, ?_⟩, ?_⟩, ?_, ?_, fun b u hb e' => ?_⟩
        · rw [upd_ne (ne_of ho5 e (fun q => nomatch q))]; exact ho5
        · rw [upd_ne (ne_of hpa.tu e (fun q => nomatch q))]; exact hpa.tu
        · rw [upd_ne (Ne.symm hav)]; exact ha5
        · rw [upd_ne (fun q => by rw [← q, hl] at havn; cases havn)]; exact hl5
        · rw [upd_ne (ne_of_none e' havn)]; exact b5 b u hb e'
      · exact iteF ⟨rfl, hpa, ha5, hl5, b5⟩
    · rintro σ H6 ⟨rfl, hp6, ha6, hl6, b6⟩
      -- for again in range(2)
      refine ⟨2, rfl, by decide, by decide, for_range (n := 2) (fun i σ H' => ∃ w4 w5 : Option V, σ = [some (.ref a), some (.ref l), some (.ref av), some (.ref x), w4, w5, none, none, none] ∧ PathAt C H' x t zs ∧ H' a = some o ∧ H' l = some (.lst (zs.map V.str)) ∧ But a H H')
        ⟨none, none, rfl, hp6, ha6, hl6, b6⟩ ?_ ?_⟩
      · rintro i σ H7 hi ⟨w4, w5, rfl, hp7, ha7, hl7, b7⟩
        obtain ⟨dx7, ho7⟩ := hp7.ob
        refine ⟨_, rfl, x, dx7, _, rfl, ho7, fNo t, x, t, zs, rfl, hp7, fun L hL => ?_⟩
        have s8 := same_upd (o := .lst (zs.map V.str)) hL
        refine ⟨_, rfl, _, rfl, .ref L, .ref l, rfl, .lst upd_same (s8 _ _ hl7) rfl (by omega) (fun i u v e1 e2 => ?_), fun H9 s9 => ⟨true, rfl, iteF ?_⟩⟩
        · rw [e1] at e2
          cases e2
          rw [List.getElem?_map] at e1
          cases q : zs[i]? with
          | none => rw [q] at e1; cases e1
          | some z =>
            rw [q] at e1
            cases e1
            exact .str (Nat.le_trans (name_short (hnm z (List.mem_of_getElem? q))) (by decide))
        · have eL := s9 _ _ (upd_same (H := H7) (a := L) (o := .lst (zs.map V.str)))
          refine ⟨_, rfl, .inl ⟨rfl, _, SqL.of eL⟩, L, _, _, rfl, rfl, eL, Nat.lt_of_le_of_lt (show (zs.map V.str).length ≤ 500 by omega) (by decide), ?_⟩
          have s10 : Same H7 H9 := s8.trans s9
          have nL : ∀ {b : Addr} {u : HO}, H7 b = some u → b ≠ L := fun e => ne_of_none e hL
          refine ⟨_, _, rfl, ⟨⟨dx7, ?_⟩, ?_⟩, ?_, ?_, fun b u hb e' => ?_⟩
          · rw [upd_ne (nL ho7)]; exact s10 _ _ ho7
          · rw [upd_ne (nL hp7.tu)]; exact s10 _ _ hp7.tu
          · rw [upd_ne (nL ha7)]; exact s10 _ _ ha7
          · rw [upd_ne (nL hl7)]; exact s10 _ _ hl7
          · rw [upd_ne (nL (b7 b u hb e'))]; exact s10 _ _ (b7 b u hb e')
      · rintro σ H7 ⟨w4, w5, rfl, hp7, ha7, hl7, b7⟩
        -- mate, turned = (Path(walkers=tuple(names)), Path(names[::-1]))
        refine ⟨_, rfl, l, _, rfl, .inl ⟨SqL.of hl7, fun T2 hT2 => ?_⟩⟩
        have s8 := same_upd (o := .tup (zs.map V.str)) hT2
        refine ⟨rfl, rfl, fun x2 dx2 nx2 ndx2 nex2 => ?_⟩
        have s9 : ∀ b u, (upd H7 T2 (.tup (zs.map V.str))) b = some u → (upd (upd (upd H7 T2 (.tup (zs.map V.str))) dx2 (.own x2)) x2 (.ins C dx2 [])) b = some u := fun b u e => by
          rw [upd_ne (ne_of_none e nx2), upd_ne (ne_of_none e ndx2)]
          exact e
        refine ⟨x2, dx2, .ref T2, .tup, rfl, upd_same, .tup (s9 _ _ upd_same), (fun hk => nomatch hk), fun _ => ⟨T2, zs.map V.str, rfl, .inr ⟨s9 _ _ upd_same, rfl⟩, by omega, th_names hnm, fun i hi => absurd (hwn.symm.trans hi) (fun q => nomatch q), fun _ zs2 t2 H10 hxs2 hpa2 hbut2 => ⟨rfl, ?_⟩⟩⟩
        cases map_str_inj hxs2
        have s10 : Same H7 H10 := fun b u e => hbut2 b u (s9 b u (s8 b u e)) (ne_of_none (s8 b u e) nx2)
        refine ⟨_, rfl, l, _, rfl, SqL.of (s10 _ _ hl7), fun R hR => ?_⟩
        rw [← List.map_reverse]
        have hndr : zs.reverse.Nodup := (List.reverse_perm zs).nodup_iff.mpr hnd
        have hnmr : Nm zs.reverse := fun z hz => hnm z (List.mem_reverse.mp hz)
        have s11 := same_upd (o := .lst (zs.reverse.map V.str)) hR
        intro x3 dx3 nx3 ndx3 nex3
        have s12 : ∀ b u, (upd H10 R (.lst (zs.reverse.map V.str))) b = some u → (upd (upd (upd H10 R (.lst (zs.reverse.map V.str))) dx3 (.own x3)) x3 (.ins C dx3 [])) b = some u := fun b u e => by
          rw [upd_ne (ne_of_none e nx3), upd_ne (ne_of_none e ndx3)]
          exact e
        have hwr := wrong_none hndr hnmr (by rw [List.length_reverse]; exact h2)
        refine ⟨x3, dx3, .ref R, .list, rfl, upd_same, .lst (s12 _ _ upd_same), (fun hk => nomatch hk), fun _ => ⟨R, zs.reverse.map V.str, rfl, .inl ⟨s12 _ _ upd_same, rfl⟩, by rw [List.length_map, List.length_reverse]; omega, th_names hnmr, fun i hi => absurd (hwr.symm.trans hi) (fun q => nomatch q), fun _ zs3 t3 H11 hxs3 hpa3 hbut3 => ⟨rfl, ?_⟩⟩⟩
        cases map_str_inj hxs3
        have s13 : Same H10 H11 := fun b u e => hbut3 b u (s12 b u (s11 b u e)) (ne_of_none (s11 b u e) nx3)
        have s14 : Same H7 H11 := s10.trans s13
        have pA := hp7.same s14
        have pB := hpa2.same s13
        refine ⟨_, _, rfl, ?_⟩
        obtain ⟨dxA, hoA⟩ := pA.ob
        have nf : PySem.W.notFirst K C (.ref C) = true := notFirst_own
        have dA : decide (zs = zs) = true := decide_eq_true rfl
        have dB : decide (zs = zs.reverse) = false := decide_eq_false (rev_ne hnd h2)
        have tB := pB.ty T TE
        have tC := hpa3.ty T TE
        refine ⟨_, rfl, _, rfl, x, dxA, _, .ref C, rfl, hoA, tB, nf, x, t, zs, .ref x2, rfl, pA, hnm, .inr ⟨x2, t2, zs, rfl, pB, hnm, _, rfl, ?_⟩⟩
        rw [dA]
        refine ⟨_, rfl, iteF ?_⟩
        refine ⟨_, rfl, _, rfl, x, dxA, _, .ref C, rfl, hoA, tB, nf, x, t, zs, .ref x2, rfl, pA, hnm, .inr ⟨x2, t2, zs, rfl, pB, hnm, _, rfl, ?_⟩⟩
        rw [dA]
        refine ⟨_, rfl, iteF ?_⟩
        refine ⟨_, rfl, _, rfl, x, dxA, _, .ref C, rfl, hoA, tC, nf, x, t, zs, .ref x3, rfl, pA, hnm, .inr ⟨x3, t3, zs.reverse, rfl, hpa3, hnmr, _, rfl, ?_⟩⟩
        rw [dB]
        refine ⟨_, rfl, iteF ?_⟩
        refine ⟨_, rfl, _, rfl, x, dxA, _, .ref C, rfl, hoA, tC, nf, x, t, zs, .ref x3, rfl, pA, hnm, .inr ⟨x3, t3, zs.reverse, rfl, hpa3, hnmr, _, rfl, ?_⟩⟩
        rw [dB]
        refine ⟨_, rfl, iteF ?_⟩
        -- not any([...])
        refine ⟨_, rfl, _, rfl, l, _, rfl, .inl ⟨SqL.of (s14 _ _ hl7), fun T3 hT3 => fun D2 hD2 => ⟨by show 7 ≤ sizeLine; decide, fun p hp => ⟨p, rfl, ⟨_, SqT.of upd_same⟩, fun D hD => ?_⟩⟩⟩⟩
        have s15 := same_upd (o := .tup (zs.map V.str)) hT3
        have s16 := s15.trans (same_upd (o := .dK []) hD2)
        have s17 := s16.trans (same_upd (o := .tup [.non, .int 5, .str "ab", .ref l, .ref T3, .ref D2, .bl true]) hp)
        have th : ∀ i v, [V.non, V.int 5, V.str "ab", V.ref l, V.ref T3, V.ref D2, V.bl true][i]? = some v → ∃ k, Th K (upd (upd (upd H11 T3 (.tup (zs.map V.str))) D2 (.dK [])) p (.tup [.non, .int 5, .str "ab", .ref l, .ref T3, .ref D2, .bl true])) v k := fun i v e => by
          match i, e with
          | 0, rfl => exact ⟨_, .non⟩
          | 1, rfl => exact ⟨_, .int 5⟩
          | 2, rfl => exact ⟨_, .str (by decide)⟩
          | 3, rfl => exact ⟨_, .lst (s17 _ _ (s14 _ _ hl7))⟩
          | 4, rfl => exact ⟨_, .tup ((same_upd hp) _ _ ((same_upd hD2) _ _ upd_same))⟩
          | 5, rfl => exact ⟨_, .dict ((same_upd hp) _ _ upd_same)⟩
          | 6, rfl => exact ⟨_, .bl true⟩
        have eTup : (upd (upd (upd H11 T3 (.tup (zs.map V.str))) D2 (.dK [])) p (.tup [.non, .int 5, .str "ab", .ref l, .ref T3, .ref D2, .bl true])) p = some (.tup [.non, .int 5, .str "ab", .ref l, .ref T3, .ref D2, .bl true]) := upd_same
        generalize hH14 : (upd (upd (upd H11 T3 (.tup (zs.map V.str))) D2 (.dK [])) p (.tup [.non, .int 5, .str "ab", .ref l, .ref T3, .ref D2, .bl true])) = H14 at s17 th eTup hD ⊢
        refine lc_it (walk_tup (K := K) (a := p) (xs := [.non, .int 5, .str "ab", .ref l, .ref T3, .ref D2, .bl true])) (fun i H' => Same H14 H' ∧ H' D = some (.lst (List.replicate i (.bl false)))) ⟨same_upd hD, upd_same⟩ (fun i H' _ q => SqT.of (q.1 _ _ eTup)) ?_ ?_
        · rintro i v H16 H15 hi ⟨sm, hD15⟩ ⟨rfl, hv⟩
          have sAll : Same H7 H15 := s14.trans (s17.trans sm)
          have pR := pA.same (s17.trans sm)
          obtain ⟨dxR, hoR⟩ := pR.ob
          obtain ⟨kd2, hk0⟩ := th i v hv
          have hk2 : Th K H15 v kd2 := hk0.same sm
          refine ⟨rfl, tyes ?_⟩
          have fin : ∃ acc, H15 D = some (.lst acc) ∧ acc.length < sizeLine ∧ Same H14 (upd H15 D (.lst (acc ++ [.bl false]))) ∧ upd H15 D (.lst (acc ++ [.bl false])) D = some (.lst (List.replicate (i + 1) (V.bl false))) := by
            refine ⟨_, hD15, ?_, fun b u e => ?_, ?_⟩
            · rw [List.length_replicate]
              exact Nat.lt_trans hi (by show 7 < sizeLine; decide)
            · rw [upd_ne (ne_of_none e hD)]
              exact sm _ _ e
            · rw [upd_same, List.replicate_succ']
          refine ⟨_, rfl, _, rfl, x, dxR, _, .type kd2.nm, rfl, hoR, hk2.ty, notFirst_k kd2, x, t, zs, v, rfl, pR, hnm, .inl ⟨kd2, hk2, _, rfl, ?_⟩⟩
          refine ⟨_, rfl, iteF ?_⟩
          exact ⟨_, rfl, _, rfl, x, dxR, _, .type kd2.nm, rfl, hoR, hk2.ty, notFirst_k kd2, x, t, zs, v, rfl, pR, hnm, .inl ⟨kd2, hk2, _, rfl, _, rfl, fin⟩⟩
        · rintro H15 ⟨sm, hD15⟩
          refine ⟨D, List.replicate 7 false, rfl, SqL.of hD15, false, rfl, ?_⟩
          have sAll : Same H7 H15 := s14.trans (s17.trans sm)
          exact k _ ⟨o, sAll _ _ ha7, ho⟩ (b7.trans (Same.but sAll))
end
end RK

namespace RK
open PySem L2
theorem Th.but {K : PySem.W.Frag} {H H' : Hp} {a : Addr} {v : V} {k : Kd} {ys ys' : List V} (h : Th K H v k) (b : But a H H') (e : H a = some (.lst ys)) (e' : H' a = some (.lst ys')) : Th K H' v k := by
  cases h with
  | non => exact .non
  | int i => exact .int i
  | bl b => exact .bl b
  | str h => exact .str h
  | @lst p xs q =>
    by_cases hp : p = a
    · subst hp; exact .lst e'
    · exact .lst (b _ _ hp q)
  | @tup p xs q => exact .tup (b _ _ (fun hp => by subst hp; rw [e] at q; cases q) q)
  | @dict p xs q => exact .dict (b _ _ (fun hp => by subst hp; rw [e] at q; cases q) q)
  | fn q c => exact .fn q c
theorem SpAt.lst {H : Hp} {a : Addr} {m : Nat} (h : SpAt H a m) : ∃ ys, H a = some (.lst ys) := by
  obtain ⟨o, ho, x, y, c, rfl, _⟩ := h
  exact ⟨_, ho⟩
theorem Th.spring {K : PySem.W.Frag} {H H' : Hp} {a : Addr} {v : V} {k : Kd} {m m' : Nat} (h : Th K H v k) (b : But a H H') (e : SpAt H a m) (e' : SpAt H' a m') : Th K H' v k := by
  obtain ⟨ys, q⟩ := e.lst
  obtain ⟨ys', q'⟩ := e'.lst
  exact h.but b q q'
theorem newH {H : Hp} {p : Addr} {o : HO} (hp : H p = none) {R : Hp → Prop} (h : ∀ H', Same H H' → H' p = some o → R H') : R (upd H p o) := h _ (same_upd hp) upd_same
theorem mem_cutV {xs : List V} {lo hi : Option Int} {x : V} (h : x ∈ cutV xs lo hi) : x ∈ xs := List.mem_of_mem_drop (List.mem_of_mem_take h)
theorem SpAt.same {H H' : Hp} {a : Addr} {m : Nat} (h : SpAt H a m) (s : Same H H') : SpAt H' a m := by
  obtain ⟨o, ho, q⟩ := h
  exact ⟨o, s _ _ ho, q⟩
theorem want_lem {σ : St} {H : Hp} {R : VK} {x d : V} (e6 : σ[6]? = some (some d)) (e5 : σ[5]? = some (some x))
    (key : ∀ it p, H p = none → ((d = .non ∧ it = [.str "told", x]) ∨ (d ≠ .non ∧ it = [.str "wrong", d])) → R (.ref p) (upd H p (.tup it))) :
    tIf (tTest (tOp (fun x y H Q => y = V.non ∧ Q (V.bl (decide (x = V.non))) H) (tVar 6) (L2.tC V.non))) (tTup (tCons (L2.tC (V.str "told")) (tCons (tVar 5) tNil))) (tTup (tCons (L2.tC (V.str "wrong")) (tCons (tVar 6) tNil))) σ H R := by
  refine ⟨_, e6, rfl, _, rfl, ?_⟩
  by_cases hd : d = .non
  · rw [decide_eq_true hd]
    refine iteT ?_
    exact ⟨_, e5, by show 2 ≤ sizeLine; decide, fun p hp => key _ p hp (.inl ⟨hd, rfl⟩)⟩
  · rw [decide_eq_false hd]
    refine iteF ?_
    exact ⟨_, e6, by show 2 ≤ sizeLine; decide, fun p hp => key _ p hp (.inr ⟨hd, rfl⟩)⟩
def spBent : Sp := fun vs H Q _ => ∃ (a l : Addr) (zs : List Str) (m : Nat), vs = [.ref a, .ref l] ∧ a ≠ l ∧ SpAt H a m ∧ m < 1000000000 ∧ H l = some (.lst (zs.map V.str)) ∧ Nm zs ∧ 2 ≤ zs.length ∧ zs.length ≤ 50 ∧
  ∀ H', SpAt H' a (m + 90) → But a H H' → Q (.bl true) H'
section
variable {P : Program} {w : World} {K : PySem.W.Frag} {mg : Str → Option Value} {base : Heap} {C CB fB fE : Addr}
theorem scBent : FnScope ["spring", "names", "odds", "odd", "at", "thing", "due", "want"] ["spring", "names"] (defScope sBent) := ⟨rfl, rfl, rfl, by decide +kernel, rfl, by decide +kernel, by decide +kernel⟩
theorem ok_bent {f fD fP fS fM fR : Addr} {fd fdD fdP fdS fdM fdR : FuncData} (F : Fun K "_law_bent_right" "_law_bent_right" sBent f fd) (B : B0 K mg)
    (GD : FnOk P w K mg base CX0 1 fD fdD ["spring", "many"] spDraw) (bD : Binds K fdD ["spring", "many"] []) (gD : mg "_law_draw" = some (.ref fD)) (kD : PySem.W.keepIn K (.ref fD) = true)
    (GP : FnOk P w K mg base CX0 2 fP fdP ["spring", "some"] spPick) (bP : Binds K fdP ["spring", "some"] []) (gP : mg "_law_pick" = some (.ref fP)) (kP : PySem.W.keepIn K (.ref fP) = true)
    (GS : FnOk P w K mg base CX0 3 fS fdS ["found", "due"] (spSame 2)) (bS : Binds K fdS ["found", "due"] []) (gS : mg "_law_same" = some (.ref fS)) (kS : PySem.W.keepIn K (.ref fS) = true)
    (GM : FnOk P w K mg base CX0 4 fM fdM ["thing"] (spMet K)) (bM : Binds K fdM ["thing"] []) (gM : mg "_law_met" = some (.ref fM)) (kM : PySem.W.keepIn K (.ref fM) = true)
    (GR : FnOk P w K mg base CX0 2 fR fdR ["thing"] (spWrong K)) (bR : Binds K fdR ["thing"] []) (gR : mg "_law_wrong" = some (.ref fR)) (kR : PySem.W.keepIn K (.ref fR) = true) :
    FnOk P w K mg base CX0 5 f fd ["spring", "names"] spBent := by
  refine F.ok scBent (fun vs H Q E h => ?_) (fun cdv A outer s H vs Q E hr h => ?_)
  · obtain ⟨a, l, zs, m, rfl, _⟩ := h
    rfl
  · obtain ⟨a, l, zs, m, rfl, hal, hsp, hm, hl, hnm, h2, h50, k⟩ := h
    have hr1 : Room 1 _ := hr.mono (by decide)
    have hr2 : Room 2 _ := hr.mono (by decide)
    have hr3 : Room 3 _ := hr.mono (by decide)
    refine ⟨_, pss_cons (ps_set (i := 2) scBent.nd rfl (Or.inl rfl) (pe_lst (pa_cons pe_non (pa_cons pe_int (pa_cons pe_int (pa_cons pe_bl (pa_cons pe_str (pa_cons pe_str (pa_cons pe_str (pa_cons pe_str (pa_cons pe_str (pa_cons pe_str (pa_cons pe_str
        (pa_cons (pe_lst pa_nil) (pa_cons pe_dnewK (pa_cons (pe_lst (pa_cons pe_str pa_nil)) (pa_cons (pe_tup (pa_cons pe_str pa_nil)) (pa_cons (pe_ix ix_list (pv 1) pe_int (fun _ _ => rfl)) pa_nil))))))))))))))))))
      (pss_cons (ps_for PassesOwn.never rfl (pi_list (pe_op op_cat (pv 2) (pe_lst (pa_cons (pe_ix ix_list (pv 1) (pe_un un_neg pe_int) (fun _ _ => rfl)) (pa_cons pe_str pa_nil))))) (pg_name (i := 3) scBent.nd rfl (Or.inl rfl))
        (pss_cons (ps_set (i := 4) scBent.nd rfl (Or.inl rfl) (pe_call GD hr1 (by rfl) gD kD bD .nil pass0 (pa_cons (pv 0) (pa_cons (pe_op op_add (pe_callB call_len_seq (by rfl) B.len PySem.boot_len (pa_cons (pv 1) pa_nil)) pe_int) pa_nil))))
        (pss_one (ps_for PassesOwn.never rfl (pi_tup (pe_tup (pa_cons (pe_op op_cat (pe_op op_cat (pe_slice sl_list (pv 1) po_none (po_some (pv 4))) (pe_lst (pa_cons (pv 3) pa_nil))) (pe_slice sl_list (pv 1) (po_some (pv 4)) po_none))
            (pa_cons (pe_op op_cat (pe_op op_cat (pe_slice sl_list (pv 1) po_none (po_some (pv 4))) (pe_lst (pa_cons (pv 3) pa_nil))) (pe_slice sl_list (pv 1) (po_some (pe_op op_add (pv 4) pe_int)) po_none))
            (pa_cons (pe_lst (pa_cons (pv 3) (pa_cons (pv 3) pa_nil))) (pa_cons (pe_lst (pa_cons (pv 3) pa_nil)) pa_nil)))))) (pg_name (i := 5) scBent.nd rfl (Or.inl rfl))
          (pss_cons (ps_set (i := 6) scBent.nd rfl (Or.inl rfl) (pe_call GR hr2 (by rfl) gR kR bR .nil pass0 (pa_cons (pv 5) pa_nil)))
          (pss_cons (ps_set (i := 7) scBent.nd rfl (Or.inl rfl) (pe_ifExp (pt_cmpR op_isN (pv 6) pe_non (nomark _)) (pe_tup (pa_cons pe_str (pa_cons (pv 5) pa_nil))) (pe_tup (pa_cons pe_str (pa_cons (pv 6) pa_nil)))))
          (pss_one (ps_if (pt_not (pt_val (pe_call GS hr3 (by rfl) gS kS bS .nil pass0 (pa_cons (pe_call GM hr (by rfl) gM kM bM .nil pass0 (pa_cons (pe_call GP hr2 (by rfl) gP kP bP .nil pass0 (pa_cons (pv 0) (pa_cons (pe_lst (pa_cons (pe_callTy call_list_of (by rfl) B.list (by decide +kernel) (pa_cons (pv 5) pa_nil)) (pa_cons (pe_callTy call_tuple_of (by rfl) B.tuple (by decide +kernel) (pa_cons (pv 5) pa_nil)) pa_nil))) pa_nil))) pa_nil)) (pa_cons (pv 7) pa_nil))))) (pss_one (ps_ret pe_bl)) pss_nil))))))))
      (pss_one (ps_ret pe_bl))), ?_⟩
    obtain ⟨z0, zt, rfl⟩ : ∃ z0 zt, zs = z0 :: zt := by
      cases zs with
      | nil => exact absurd h2 (by decide)
      | cons z0 zt => exact ⟨z0, zt, rfl⟩
    obtain ⟨zl, hzl, hlast⟩ : ∃ zl, zl ∈ z0 :: zt ∧ atI ((z0 :: zt).map V.str) (-1) = some (.str zl) := by
      obtain ⟨ys, y, e⟩ : ∃ ys y, z0 :: zt = ys ++ [y] := ⟨_, _, (List.dropLast_concat_getLast (List.cons_ne_nil z0 zt)).symm⟩
      rw [e]
      refine ⟨y, by simp, ?_⟩
      rw [List.map_append]
      exact atI_last _ _
    generalize hzs : z0 :: zt = zs at *
    have hlen : (zs.map V.str).length = zs.length := List.length_map _
    have hz0 : z0 ∈ zs := by rw [← hzs]; exact List.mem_cons_self
    -- odds
    refine ⟨by show 0 ≤ sizeLine; decide, fun p1 hp1 => ?_⟩
    generalize hE : upd H p1 _ = H1
    have s1 : Same H H1 := hE ▸ same_upd hp1
    have e1 := congrFun hE.symm p1
    rw [upd_same] at e1
    clear hE
    refine fun p2 hp2 => ?_
    generalize hE : upd H1 p2 _ = H2
    have s2 : Same H1 H2 := hE ▸ same_upd hp2
    have e2 := congrFun hE.symm p2
    rw [upd_same] at e2
    clear hE
    refine ⟨by show 1 ≤ sizeLine; decide, fun p3 hp3 => ?_⟩
    generalize hE : upd H2 p3 _ = H3
    have s3 : Same H2 H3 := hE ▸ same_upd hp3
    have e3 := congrFun hE.symm p3
    rw [upd_same] at e3
    clear hE
    refine ⟨by show 1 ≤ sizeLine; decide, fun p4 hp4 => ?_⟩
    generalize hE : upd H3 p4 _ = H4
    have s4 : Same H3 H4 := hE ▸ same_upd hp4
    have e4 := congrFun hE.symm p4
    rw [upd_same] at e4
    clear hE
    have sA : Same H H4 := s1.trans (s2.trans (s3.trans s4))
    refine ⟨_, rfl, l, zs.map V.str, 0, .str z0, rfl, rfl, SqL.of (sA _ _ hl), atI_nat (j := 0) (by rw [← hzs]; rfl), by show 16 ≤ sizeLine; decide, fun p5 hp5 => ?_⟩
    generalize hE : upd H4 p5 _ = H5
    have s5 : Same H4 H5 := hE ▸ same_upd hp5
    have e5 := congrFun hE.symm p5
    rw [upd_same] at e5
    clear hE
    -- odds + [names[-1], 'new']
    refine ⟨_, rfl, _, rfl, _, rfl, l, zs.map V.str, -1, .str zl, rfl, rfl, SqL.of (s5 _ _ (sA _ _ hl)), hlast, by show 2 ≤ sizeLine; decide, fun p6 hp6 => ?_⟩
    generalize hE : upd H5 p6 _ = H6
    have s6 : Same H5 H6 := hE ▸ same_upd hp6
    have e6 := congrFun hE.symm p6
    rw [upd_same] at e6
    clear hE
    refine ⟨p5, p6, _, _, rfl, rfl, s6 _ _ e5, e6, by show 16 + 2 ≤ sizeLine; decide, fun p7 hp7 => ?_⟩
    generalize hE : upd H6 p7 _ = H7
    have s7 : Same H6 H7 := hE ▸ same_upd hp7
    have e7 := congrFun hE.symm p7
    rw [upd_same] at e7
    clear hE
    have sB : Same H H7 := sA.trans (s5.trans (s6.trans s7))
    have hth : ∀ x ∈ [V.non, .int 5, .int 0, .bl true, .str "", .str "A", .str "1a", .str "a_b", .str "ninesigns", .str "a b", .str "a\n", .ref p1, .ref p2, .ref p3, .ref p4, .str z0] ++ [.str zl, .str "new"], ∃ k, Th K H7 x k := by
      have q1 := s7 _ _ (s6 _ _ (s5 _ _ (s4 _ _ (s3 _ _ (s2 _ _ e1)))))
      have q2 := s7 _ _ (s6 _ _ (s5 _ _ (s4 _ _ (s3 _ _ e2))))
      have q3 := s7 _ _ (s6 _ _ (s5 _ _ (s4 _ _ e3)))
      have q4 := s7 _ _ (s6 _ _ (s5 _ _ e4))
      have n0 := Nat.le_trans (name_short (hnm z0 hz0)) (show 8 ≤ 1000 by decide)
      have nl := Nat.le_trans (name_short (hnm zl hzl)) (show 8 ≤ 1000 by decide)
      intro x hx
      simp only [List.cons_append, List.nil_append, List.mem_cons, List.not_mem_nil, or_false] at hx
      rcases hx with rfl | rfl | rfl | rfl | rfl | rfl | rfl | rfl | rfl | rfl | rfl | rfl | rfl | rfl | rfl | rfl | rfl | rfl
      · exact ⟨_, .non⟩
      · exact ⟨_, .int 5⟩
      · exact ⟨_, .int 0⟩
      · exact ⟨_, .bl true⟩
      · exact ⟨_, .str (by decide)⟩
      · exact ⟨_, .str (by decide)⟩
      · exact ⟨_, .str (by decide)⟩
      · exact ⟨_, .str (by decide)⟩
      · exact ⟨_, .str (by decide)⟩
      · exact ⟨_, .str (by decide)⟩
      · exact ⟨_, .str (by decide)⟩
      · exact ⟨_, .lst q1⟩
      · exact ⟨_, .dict q2⟩
      · exact ⟨_, .lst q3⟩
      · exact ⟨_, .tup q4⟩
      · exact ⟨_, .str n0⟩
      · exact ⟨_, .str nl⟩
      · exact ⟨_, .str (by decide)⟩
    generalize hod : [V.non, .int 5, .int 0, .bl true, .str "", .str "A", .str "1a", .str "a_b", .str "ninesigns", .str "a b", .str "a\n", .ref p1, .ref p2, .ref p3, .ref p4, .str z0] ++ [.str zl, .str "new"] = odds at e7 hth
    have hol : odds.length = 18 := by rw [← hod]; rfl
    have hspB : SpAt H7 a m := hsp.same sB
    have hlB := sB _ _ hl
    have hap7 : p7 ≠ a := by
      obtain ⟨o, ho, _⟩ := id hsp
      exact Ne.symm (ne_of_none (s6 _ _ (s5 _ _ (sA _ _ ho))) hp7)
    refine ⟨p7, rfl, ⟨_, SqL.of e7⟩, for_list (xs := odds) (fun i σ H' => ∃ w3 w4 w5 w6 w7 : Option V, σ = [some (.ref a), some (.ref l), some (.ref p5), w3, w4, w5, w6, w7] ∧ SpAt H' a (m + 5 * i) ∧ But a H7 H')
      ⟨none, none, none, none, none, rfl, hspB, fun _ _ _ e => e⟩ (fun i σ H' _ ⟨_, _, _, _, _, _, _, b⟩ => SqL.of (b _ _ hap7 e7)) ?_ ?_⟩
    · rintro i v σ H8 hv ⟨w3, w4, w5, w6, w7, rfl, hsp8, b8⟩
      have hi : i < 18 := by
        rw [← hol]
        exact (List.getElem?_eq_some_iff.mp hv).1
      have hl8 := b8 _ _ (Ne.symm hal) hlB
      obtain ⟨kv, hkv⟩ := hth v (List.mem_of_getElem? hv)
      refine ⟨_, rfl, _, rfl, l, _, rfl, .inl (SqL.of hl8), _, _, rfl, rfl, a, _, m + 5 * i, rfl, by rw [hlen]; omega, by rw [hlen]; omega, hsp8, by omega, fun r o hr0 hr9 ho => ?_⟩
      have hsp9 : SpAt (upd H8 a o) a (m + 5 * i + 1) := ⟨o, upd_same, ho⟩
      have b9 : But a H7 (upd H8 a o) := b8.trans But.upd
      generalize upd H8 a o = H9 at hsp9 b9 ⊢
      have hl9 := b9 _ _ (Ne.symm hal) hlB
      have hkv9 : Th K H9 v kv := hkv.spring b9 hspB hsp9
      have hc : ∀ lo hi, (cutV (zs.map V.str) lo hi).length ≤ 50 := fun lo hi => Nat.le_trans (cutV_length _ _ _) (by omega)
      have hsz : 200 ≤ sizeLine := by decide
      have hc1 := hc none (some r)
      have hc2 := hc (some r) none
      have hc3 := hc (some (r + 1)) none
      -- four lists
      refine ⟨_, rfl, _, rfl, _, rfl, l, _, rfl, SqL.of hl9, fun q1 hq1 => ?_⟩
      generalize hE : upd H9 q1 _ = G1
      have t1 : Same H9 G1 := hE ▸ same_upd hq1
      have f1 := congrFun hE.symm q1
      rw [upd_same] at f1
      clear hE
      refine ⟨_, rfl, by show 1 ≤ sizeLine; decide, fun q2 hq2 => ?_⟩
      generalize hE : upd G1 q2 _ = G2
      have t2 : Same G1 G2 := hE ▸ same_upd hq2
      have f2 := congrFun hE.symm q2
      rw [upd_same] at f2
      clear hE
      refine ⟨q1, q2, _, _, rfl, rfl, t2 _ _ f1, f2, by simp only [List.length_cons, List.length_nil]; omega, fun q3 hq3 => ?_⟩
      generalize hE : upd G2 q3 _ = G3
      have t3 : Same G2 G3 := hE ▸ same_upd hq3
      have f3 := congrFun hE.symm q3
      rw [upd_same] at f3
      clear hE
      have u3 : Same H9 G3 := t1.trans (t2.trans t3)
      refine ⟨_, rfl, _, rfl, _, rfl, l, _, rfl, SqL.of (u3 _ _ hl9), fun q4 hq4 => ?_⟩
      generalize hE : upd G3 q4 _ = G4
      have t4 : Same G3 G4 := hE ▸ same_upd hq4
      have f4 := congrFun hE.symm q4
      rw [upd_same] at f4
      clear hE
      refine ⟨q3, q4, _, _, rfl, rfl, t4 _ _ f3, f4, by simp only [List.length_append, List.length_cons, List.length_nil]; omega, fun q5 hq5 => ?_⟩
      generalize hE : upd G4 q5 _ = G5
      have t5 : Same G4 G5 := hE ▸ same_upd hq5
      have f5 := congrFun hE.symm q5
      rw [upd_same] at f5
      clear hE
      have u5 : Same H9 G5 := u3.trans (t4.trans t5)
      refine ⟨_, rfl, _, rfl, _, rfl, l, _, rfl, SqL.of (u5 _ _ hl9), fun q6 hq6 => ?_⟩
      generalize hE : upd G5 q6 _ = G6
      have t6 : Same G5 G6 := hE ▸ same_upd hq6
      have f6 := congrFun hE.symm q6
      rw [upd_same] at f6
      clear hE
      refine ⟨_, rfl, by show 1 ≤ sizeLine; decide, fun q7 hq7 => ?_⟩
      generalize hE : upd G6 q7 _ = G7
      have t7 : Same G6 G7 := hE ▸ same_upd hq7
      have f7 := congrFun hE.symm q7
      rw [upd_same] at f7
      clear hE
      refine ⟨q6, q7, _, _, rfl, rfl, t7 _ _ f6, f7, by simp only [List.length_cons, List.length_nil]; omega, fun q8 hq8 => ?_⟩
      generalize hE : upd G7 q8 _ = G8
      have t8 : Same G7 G8 := hE ▸ same_upd hq8
      have f8 := congrFun hE.symm q8
      rw [upd_same] at f8
      clear hE
      have u8 : Same H9 G8 := u5.trans (t6.trans (t7.trans t8))
      refine ⟨_, rfl, _, rfl, _, _, rfl, rfl, _, rfl, l, _, rfl, SqL.of (u8 _ _ hl9), fun q9 hq9 => ?_⟩
      generalize hE : upd G8 q9 _ = G9
      have t9 : Same G8 G9 := hE ▸ same_upd hq9
      have f9 := congrFun hE.symm q9
      rw [upd_same] at f9
      clear hE
      refine ⟨q8, q9, _, _, rfl, rfl, t9 _ _ f8, f9, by simp only [List.length_append, List.length_cons, List.length_nil]; omega, fun q10 hq10 => ?_⟩
      generalize hE : upd G9 q10 _ = G10
      have t10 : Same G9 G10 := hE ▸ same_upd hq10
      have f10 := congrFun hE.symm q10
      rw [upd_same] at f10
      clear hE
      refine ⟨_, rfl, _, rfl, by show 2 ≤ sizeLine; decide, fun q11 hq11 => ?_⟩
      generalize hE : upd G10 q11 _ = G11
      have t11 : Same G10 G11 := hE ▸ same_upd hq11
      have f11 := congrFun hE.symm q11
      rw [upd_same] at f11
      clear hE
      refine ⟨_, rfl, by show 1 ≤ sizeLine; decide, fun q12 hq12 => ?_⟩
      generalize hE : upd G11 q12 _ = G12
      have t12 : Same G11 G12 := hE ▸ same_upd hq12
      have f12 := congrFun hE.symm q12
      rw [upd_same] at f12
      clear hE
      refine ⟨by show 4 ≤ sizeLine; decide, fun q13 hq13 => ?_⟩
      generalize hE : upd G12 q13 _ = G13
      have t13 : Same G12 G13 := hE ▸ same_upd hq13
      have f13 := congrFun hE.symm q13
      rw [upd_same] at f13
      clear hE
      have u13 : Same H9 G13 := u8.trans (t9.trans (t10.trans (t11.trans (t12.trans t13))))
      obtain ⟨oa, hoa, _⟩ := id hsp9
      have hkv13 : Th K G13 v kv := hkv9.same u13
      have hnames : ∀ x ∈ zs.map V.str, ∃ k, Th K G13 x k := th_names hnm
      have hgood : ∀ x ∈ [V.ref q5, .ref q10, .ref q11, .ref q12], ∃ q xs, x = .ref q ∧ q ≠ a ∧ G13 q = some (.lst xs) ∧ xs.length ≤ 200 ∧ ∀ y ∈ xs, ∃ k, Th K G13 y k := by
        have hv1 : ∀ y ∈ [v], ∃ k, Th K G13 y k := fun y hy => by
          rw [List.mem_singleton.mp hy]
          exact ⟨_, hkv13⟩
        have hcut : ∀ lo hi, ∀ y ∈ cutV (zs.map V.str) lo hi, ∃ k, Th K G13 y k := fun lo hi y hy => hnames y (mem_cutV hy)
        intro x hx
        simp only [List.mem_cons, List.not_mem_nil, or_false] at hx
        rcases hx with rfl | rfl | rfl | rfl
        · refine ⟨q5, _, rfl, Ne.symm (ne_of_none ((u3.trans t4) _ _ hoa) hq5), t13 _ _ (t12 _ _ (t11 _ _ (t10 _ _ (t9 _ _ (t8 _ _ (t7 _ _ (t6 _ _ f5))))))), by simp only [List.length_append, List.length_cons, List.length_nil]; omega, fun y hy => ?_⟩
          rcases List.mem_append.mp hy with hy | hy
          · rcases List.mem_append.mp hy with hy | hy
            · exact hcut _ _ y hy
            · exact hv1 y hy
          · exact hcut _ _ y hy
        · refine ⟨q10, _, rfl, Ne.symm (ne_of_none ((u8.trans t9) _ _ hoa) hq10), t13 _ _ (t12 _ _ (t11 _ _ f10)), by simp only [List.length_append, List.length_cons, List.length_nil]; omega, fun y hy => ?_⟩
          rcases List.mem_append.mp hy with hy | hy
          · rcases List.mem_append.mp hy with hy | hy
            · exact hcut _ _ y hy
            · exact hv1 y hy
          · exact hcut _ _ y hy
        · refine ⟨q11, _, rfl, Ne.symm (ne_of_none ((u8.trans (t9.trans t10)) _ _ hoa) hq11), t13 _ _ (t12 _ _ f11), by show 2 ≤ 200; decide, fun y hy => ?_⟩
          simp only [List.mem_cons, List.not_mem_nil, or_false, or_self] at hy
          rw [hy]
          exact ⟨_, hkv13⟩
        · exact ⟨q12, _, rfl, Ne.symm (ne_of_none ((u8.trans (t9.trans (t10.trans t11))) _ _ hoa) hq12), t13 _ _ f12, by show 1 ≤ 200; decide, hv1⟩
      have hn13 : q13 ≠ a := Ne.symm (ne_of_none ((u8.trans (t9.trans (t10.trans (t11.trans t12)))) _ _ hoa) hq13)
      have hsp13 := hsp9.same u13
      refine ⟨q13, rfl, ⟨_, SqT.of f13⟩, for_tup (xs := [V.ref q5, .ref q10, .ref q11, .ref q12]) (fun j σ H' => ∃ w5 w6 w7 : Option V, σ = [some (.ref a), some (.ref l), some (.ref p5), some v, some (.int r), w5, w6, w7] ∧ SpAt H' a (m + 5 * i + 1 + j) ∧ But a G13 H')
        ⟨w5, w6, w7, rfl, hsp13, fun _ _ _ e => e⟩ (fun j σ H' _ ⟨_, _, _, _, _, b⟩ => SqT.of (b _ _ hn13 f13)) ?_ ?_⟩
      · rintro j th σ L1 hj ⟨w5, w6, w7, rfl, hspL, bL⟩
        have hj4 : j < 4 := (List.getElem?_eq_some_iff.mp hj).1
        obtain ⟨q, xs, rfl, hqa, hq, hxs, hxt⟩ := hgood _ (List.mem_of_getElem? hj)
        have hqL := bL _ _ hqa hq
        have hxtL : ∀ y ∈ xs, ∃ k, Th K L1 y k := fun y hy => let ⟨ky, e⟩ := hxt y hy; ⟨ky, e.spring bL hsp13 hspL⟩
        -- due = _law_wrong(thing)
        refine ⟨_, rfl, q, xs, rfl, hqL, by omega, hxtL, fun L2 v2 => ?_⟩
        -- want
        refine want_lem (x := .ref q) (d := ixV (wrongIx xs)) rfl rfl fun it p hp hit => ?_
        generalize hE : upd L2 p _ = L3
        have v3 : Same L2 L3 := hE ▸ same_upd hp
        have g3 := congrFun hE.symm p
        rw [upd_same] at g3
        clear hE
        have hq3 := v3 _ _ (v2 _ _ hqL)
        have hsp3 := hspL.same (v2.trans v3)
        obtain ⟨o3, ho3, hok3⟩ := id hsp3
        -- pick
        refine ⟨_, rfl, _, rfl, q, xs, rfl, .inl (SqL.of hq3), fun r1 hr1 => ?_⟩
        generalize hE : upd L3 r1 _ = L4
        have v4 : Same L3 L4 := hE ▸ same_upd hr1
        have g4 := congrFun hE.symm r1
        rw [upd_same] at g4
        clear hE
        refine ⟨_, rfl, q, xs, rfl, .inl ⟨SqL.of (v4 _ _ hq3), fun r2 hr2 => ?_⟩⟩
        generalize hE : upd L4 r2 _ = L5
        have v5 : Same L4 L5 := hE ▸ same_upd hr2
        have g5 := congrFun hE.symm r2
        rw [upd_same] at g5
        clear hE
        refine ⟨by show 2 ≤ sizeLine; decide, fun r3 hr3 => ?_⟩
        generalize hE : upd L5 r3 _ = L6
        have v6 : Same L5 L6 := hE ▸ same_upd hr3
        have g6 := congrFun hE.symm r3
        rw [upd_same] at g6
        clear hE
        have w36 : Same L3 L6 := v4.trans (v5.trans v6)
        refine ⟨a, r3, [.ref r1, .ref r2], m + 5 * i + 1 + j, rfl, ne_of_none (v5 _ _ (v4 _ _ ho3)) hr3, hsp3.same w36, by omega, g6, by show 0 < 2; decide, by show 2 ≤ 1000; decide, fun u o' hu ho' => ?_⟩
        have hsp7 : SpAt (upd L6 a o') a (m + 5 * i + 1 + (j + 1)) := ⟨o', upd_same, ho'⟩
        have b7 : But a L6 (upd L6 a o') := But.upd
        generalize upd L6 a o' = L7 at hsp7 b7 ⊢
        have b17 : But a L1 L7 := (Same.but (v2.trans (v3.trans w36))).trans b7
        have hr1a : r1 ≠ a := Ne.symm (ne_of_none ho3 hr1)
        have hr2a : r2 ≠ a := Ne.symm (ne_of_none (v4 _ _ ho3) hr2)
        obtain ⟨av, kd, rfl, hseq, hkd⟩ : ∃ av kd, u = .ref av ∧ SeqAt2 L7 av xs kd ∧ kd.isSeq = true := by
          rcases List.mem_cons.mp hu with rfl | hu
          · exact ⟨r1, .list, rfl, .inl ⟨b7 _ _ hr1a (v6 _ _ (v5 _ _ g4)), rfl⟩, rfl⟩
          · rcases List.mem_cons.mp hu with rfl | hu
            · exact ⟨r2, .tup, rfl, .inr ⟨b7 _ _ hr2a (v6 _ _ g5), rfl⟩, rfl⟩
            · cases hu
        have hpa : p ≠ a := Ne.symm (ne_of_none ((hspL.same v2).lst.choose_spec) hp)
        have hit7 : L7 p = some (.tup it) := b7 _ _ hpa (w36 _ _ g3)
        have hq7 : L7 q = some (.lst xs) := b17 _ _ hqa hqL
        have hxt7 : ∀ y ∈ xs, ∃ k, Th K L7 y k := fun y hy => let ⟨ky, e⟩ := hxtL y hy; ⟨ky, e.spring b17 hspL hsp7⟩
        have fin : ∀ L9, Same L7 L9 → SpAt L9 a (m + 5 * i + 1 + (j + 1)) ∧ But a G13 L9 := fun L9 s9 => ⟨hsp7.same s9, bL.trans (b17.trans (Same.but s9))⟩
        -- met
        refine ⟨.ref av, kd, rfl, (hseq.th (K := K)).1, fun hk => absurd hkd (by rw [hk]; exact Bool.false_ne_true), fun _ => ⟨av, xs, rfl, hseq, by omega, hxt7, fun ix hix y L8 hy s8 => ?_, fun hno ys y ly L8 hxs hy hly s8 => ?_⟩⟩
        · rcases hit with ⟨hd, _⟩ | ⟨_, rfl⟩
          · rw [hix] at hd
            cases hd
          · rw [hix] at hit7
            refine ⟨_, rfl, .ref y, .ref p, rfl, .tup hy (s8 _ _ hit7) rfl (by show 2 ≤ 1000; decide) (fun n x1 x2 e1 e2 => ?_), fun L9 s9 => ⟨true, rfl, iteF ?_⟩⟩
            · match n, e1, e2 with
              | 0, rfl, rfl => exact .str (by decide)
              | 1, rfl, rfl => exact .int _
            · obtain ⟨f1, f2⟩ := fin L9 (s8.trans s9)
              exact ⟨_, _, _, rfl, f1, f2⟩
        · rcases hit with ⟨_, rfl⟩ | ⟨hd, _⟩
          · refine ⟨_, rfl, .ref y, .ref p, rfl, .tup hy (s8 _ _ hit7) rfl (by show 2 ≤ 1000; decide) (fun n x1 x2 e1 e2 => ?_), fun L9 s9 => ⟨true, rfl, iteF ?_⟩⟩
            · match n, e1, e2 with
              | 0, rfl, rfl => exact .str (by decide)
              | 1, rfl, rfl =>
                refine .lst hly (s8 _ _ hq7) (by rw [hxs]) (by rw [← hxs]; omega) fun n z1 z2 e1 e2 => ?_
                rw [hxs] at e2
                rw [e1] at e2
                cases e2
                obtain ⟨kz, hz⟩ := hxt7 z1 (by rw [hxs]; exact List.mem_of_getElem? e1)
                rw [List.getElem?_map] at e1
                cases qz : ys[n]? with
                | none => rw [qz] at e1; cases e1
                | some z =>
                  rw [qz] at e1
                  cases e1
                  cases hz with
                  | str h => exact .str h
            · obtain ⟨f1, f2⟩ := fin L9 (s8.trans s9)
              exact ⟨_, _, _, rfl, f1, f2⟩
          · exact absurd (by rw [hno]; rfl) hd
      · rintro σ L1 ⟨w5, w6, w7, rfl, hspL, bL⟩
        exact ⟨some v, some (.int r), w5, w6, w7, rfl, hspL, b9.trans ((Same.but u13).trans bL)⟩
    · rintro σ H8 ⟨w3, w4, w5, w6, w7, rfl, hsp8, b8⟩
      rw [hol] at hsp8
      exact k H8 hsp8 ((Same.but sB).trans b8)
end
end RK

namespace RK
open PySem L2
def spLaw (K : PySem.W.Frag) : Sp := fun vs H Q _ => ∃ (a : Addr) (ns : List Int), vs = [.ref a] ∧ SqL K H a (ns.map V.int) ∧ ns.length ≤ 63 ∧ ∀ H', Q (.bl true) H'
theorem But.fresh {H H' : Hp} {a : Addr} (b : But a H H') (h : H a = none) : Same H H' := fun c o e => b c o (ne_of_none e h) e
section
variable {P : Program} {w : World} {K : PySem.W.Frag} {mg : Str → Option Value} {base : Heap} {C CB fB fE : Addr}
theorem scLaw : FnScope ["script", "turn", "spring", "names", "odd"] ["script"] (defScope sLaw) := ⟨rfl, rfl, rfl, by decide +kernel, rfl, by decide +kernel, by decide +kernel⟩
theorem ok_law {f fD fG fS fM fT fB fN : Addr} {fd fdG fdS fdM fdT fdB fdN : FuncData} (F : Fun K "law" "law" sLaw f fd) (B : B0 K mg)
    (gD : mg "_law_draw" = some (.ref fD)) (cD : ∃ o, K.lookup fD = some o ∧ o.cls = .type "function")
    (GG : FnOk P w K mg base CX0 1 fG fdG ["script", "turn"] (spSpring K)) (bG : Binds K fdG ["script", "turn"] []) (gG : mg "_law_spring" = some (.ref fG)) (kG : PySem.W.keepIn K (.ref fG) = true)
    (GN : FnOk P w K mg base CX0 3 fN fdN ["spring", "least", "most"] spNames) (bN : Binds K fdN ["spring", "least", "most"] []) (gN : mg "_law_w_names" = some (.ref fN)) (kN : PySem.W.keepIn K (.ref fN) = true)
    (GT : FnOk P w K mg base CX0 4 fT fdT ["spring", "names"] spTold) (bT : Binds K fdT ["spring", "names"] []) (gT : mg "_law_told_right" = some (.ref fT)) (kT : PySem.W.keepIn K (.ref fT) = true)
    (GB : FnOk P w K mg base CX0 5 fB fdB ["spring", "names"] spBent) (bB : Binds K fdB ["spring", "names"] []) (gB : mg "_law_bent_right" = some (.ref fB)) (kB : PySem.W.keepIn K (.ref fB) = true)
    (GS : FnOk P w K mg base CX0 3 fS fdS ["found", "due"] (spSame 2)) (bS : Binds K fdS ["found", "due"] []) (gS : mg "_law_same" = some (.ref fS)) (kS : PySem.W.keepIn K (.ref fS) = true)
    (GM : FnOk P w K mg base CX0 4 fM fdM ["thing"] (spMet K)) (bM : Binds K fdM ["thing"] []) (gM : mg "_law_met" = some (.ref fM)) (kM : PySem.W.keepIn K (.ref fM) = true) :
    FnOk P w K mg base CX0 6 f fd ["script"] (spLaw K) := by
  refine F.ok scLaw (fun vs H Q E h => ?_) (fun cdv A outer s H vs Q E hr h => ?_)
  · obtain ⟨a, ns, rfl, _⟩ := h
    rfl
  · obtain ⟨a, ns, rfl, hsc, hns, k⟩ := h
    have hr1 : Room 1 _ := hr.mono (by decide)
    have hr3 : Room 3 _ := hr.mono (by decide)
    have hr4 : Room 4 _ := hr.mono (by decide)
    refine ⟨_, pss_cons (ps_for PassesOwn.never rfl (pi_range1 (by rfl) B.range (pa_cons pe_int pa_nil)) (pg_name (i := 1) scLaw.nd rfl (Or.inl rfl))
        (pss_cons (ps_set (i := 2) scLaw.nd rfl (Or.inl rfl) (pe_call GG hr1 (by rfl) gG kG bG .nil pass0 (pa_cons (pv 0) (pa_cons (pv 1) pa_nil))))
        (pss_cons (ps_set (i := 3) scLaw.nd rfl (Or.inl rfl) (pe_call GN hr3 (by rfl) gN kN bN .nil pass0 (pa_cons (pv 2) (pa_cons pe_int (pa_cons pe_int pa_nil)))))
        (pss_one (ps_if (PW.pt (pw_or (pt_not (pt_val (pe_call GT hr4 (by rfl) gT kT bT .nil pass0 (pa_cons (pv 2) (pa_cons (pv 3) pa_nil)))))
          (pw_or1 (pt_not (pt_val (pe_call GB hr (by rfl) gB kB bB .nil pass0 (pa_cons (pv 2) (pa_cons (pe_slice sl_list (pv 3) po_none (po_some pe_int)) pa_nil)))))))) (pss_one (ps_ret pe_bl)) pss_nil)))))
      (pss_cons (ps_for PassesOwn.never rfl (pi_tup (pe_tup (pa_cons pe_non (pa_cons pe_int (pa_cons pe_str (pa_cons pe_dnewK (pa_cons pe_bl (pa_cons (pe_tup pa_nil) (pa_cons (pe_lst pa_nil) (pa_cons (pe_glob (v := .ref fD) (by rfl) gD rfl) (pa_cons (pe_disp (pps_cons pe_str pe_str pps_nil) (by rfl) (by rfl) (fun z => by cases z) (by decide)) pa_nil))))))))))) (pg_name (i := 4) scLaw.nd rfl (Or.inl rfl))
        (pss_one (ps_if (pt_not (pt_val (pe_call GS hr3 (by rfl) gS kS bS .nil pass0 (pa_cons (pe_call GM hr4 (by rfl) gM kM bM .nil pass0 (pa_cons (pv 4) pa_nil)) (pa_cons (pe_tup (pa_cons pe_str (pa_cons pe_int pa_nil))) pa_nil))))) (pss_one (ps_ret pe_bl)) pss_nil)))
      (pss_one (ps_ret (pe_call GS hr3 (by rfl) gS kS bS .nil pass0 (pa_cons (pe_lst (pa_cons (pe_call GM hr4 (by rfl) gM kM bM .nil pass0 (pa_cons (pe_lst (pa_cons pe_str pa_nil)) pa_nil)) (pa_cons (pe_call GM hr4 (by rfl) gM kM bM .nil pass0 (pa_cons (pe_tup (pa_cons pe_str (pa_cons pe_str pa_nil))) pa_nil)) pa_nil)))
        (pa_cons (pe_lst (pa_cons (pe_tup (pa_cons pe_str (pa_cons pe_int pa_nil))) (pa_cons (pe_tup (pa_cons pe_str (pa_cons pe_int pa_nil))) pa_nil))) pa_nil)))))), ?_⟩
    refine ⟨3, rfl, by decide, by decide, for_range (n := 3) (fun i σ H' => ∃ w1 w2 w3 : Option V, σ = [some (.ref a), w1, w2, w3, none] ∧ Same H H') ⟨none, none, none, rfl, fun _ _ e => e⟩ ?_ ?_⟩
    · rintro i σ H1 hi ⟨w1, w2, w3, rfl, s1⟩
      refine ⟨_, rfl, _, rfl, a, ns, i, by rw [Int.zero_add]; rfl, s1.seq hsc, hns, by omega, fun p o H2 hp hp2 ho s2 => ?_⟩
      have sp2 : SpAt H2 p 0 := ⟨o, hp2, ho⟩
      refine ⟨_, rfl, p, 2, 20, 0, rfl, by decide, by decide, by decide, sp2, by decide, fun q zs H3 hnd hpool hle hge hq hq3 sp3 b3 => ?_⟩
      have hqp : p ≠ q := ne_of_none hp2 hq
      have hnm : Nm zs := fun z hz => pool_names z (hpool z hz)
      refine ⟨_, rfl, _, rfl, p, q, zs, 21, rfl, hqp, sp3, by decide, hq3, hnd, hnm, by omega, by omega, fun H4 sp4 b4 => ?_⟩
      refine ⟨true, rfl, iteF ?_⟩
      have hq4 := b4 _ _ (Ne.symm hqp) hq3
      refine ⟨_, rfl, _, rfl, _, rfl, q, zs.map V.str, rfl, SqL.of hq4, fun u hu => ?_⟩
      have hcut : cutV (zs.map V.str) none (some 19) = (zs.take 19).map V.str := by
        unfold cutV
        rw [show (19 : Int) = ((19 : Nat) : Int) from rfl, HT.sIx_none, HT.sIx_nat, List.drop_zero, Nat.sub_zero, ← List.map_take]
        rw [List.length_map]
        by_cases h19 : 19 ≤ zs.length
        · rw [Nat.min_eq_left h19]
        · rw [Nat.min_eq_right (by omega), List.take_of_length_le (Nat.le_refl _), List.take_of_length_le (by omega)]
      rw [hcut]
      generalize hE : upd H4 u _ = H5
      have s5 : Same H4 H5 := hE ▸ same_upd hu
      have e5 := congrFun hE.symm u
      rw [upd_same] at e5
      clear hE
      have htl : (zs.take 19).length = min 19 zs.length := List.length_take
      obtain ⟨o4, ho4, _⟩ := id sp4
      refine ⟨p, u, zs.take 19, 22, rfl, ne_of_none ho4 hu, sp4.same s5, by decide, e5, fun z hz => hnm z (List.mem_of_mem_take hz), by rw [htl]; omega, by rw [htl]; omega, fun H6 sp6 b6 => ?_⟩
      refine ⟨true, rfl, iteF ?_⟩
      exact ⟨_, _, _, rfl, s1.trans (But.fresh ((Same.but s2).trans (b3.trans (b4.trans ((Same.but s5).trans b6)))) hp)⟩
    · rintro σ H1 ⟨w1, w2, w3, rfl, s1⟩
      refine fun p1 hp1 => ?_
      generalize hE : upd H1 p1 _ = H2
      have s2 : Same H1 H2 := hE ▸ same_upd hp1
      have e2 := congrFun hE.symm p1
      rw [upd_same] at e2
      clear hE
      refine ⟨by show 0 ≤ sizeLine; decide, fun p2 hp2 => ?_⟩
      generalize hE : upd H2 p2 _ = H3
      have s3 : Same H2 H3 := hE ▸ same_upd hp2
      have e3 := congrFun hE.symm p2
      rw [upd_same] at e3
      clear hE
      refine ⟨by show 0 ≤ sizeLine; decide, fun p3 hp3 => ?_⟩
      generalize hE : upd H3 p3 _ = H4
      have s4 : Same H3 H4 := hE ▸ same_upd hp3
      have e4 := congrFun hE.symm p3
      rw [upd_same] at e4
      clear hE
      refine fun p4 hp4 => ?_
      refine ⟨upd_same, [((Sum.inr "a" : Key), .str "b")], rfl, by decide, ?_⟩
      obtain ⟨H5, hH5, s5, e5⟩ : ∃ H5, upd (upd H4 p4 (.dK [])) p4 (.dK (mergeK [] [((Sum.inr "a" : Key), .str "b")])) = H5 ∧ Same H4 H5 ∧ H5 p4 = some (.dK (mergeK [] [((Sum.inr "a" : Key), .str "b")])) := by
        refine ⟨_, rfl, fun b u e => ?_, upd_same⟩
        rw [upd_ne (ne_of_none e hp4), upd_ne (ne_of_none e hp4)]
        exact e
      rw [hH5]
      refine ⟨by show 9 ≤ sizeLine; decide, fun p5 hp5 => ?_⟩
      generalize hE : upd H5 p5 _ = H6
      have s6 : Same H5 H6 := hE ▸ same_upd hp5
      have e6 := congrFun hE.symm p5
      rw [upd_same] at e6
      clear hE
      obtain ⟨od, hod, hcd⟩ := cD
      have hth : ∀ v ∈ [V.non, .int 5, .str "ab", .ref p1, .bl true, .ref p2, .ref p3, .ref fD, .ref p4], ∃ kd, Th K H6 v kd ∧ (kd.isSeq = true → ∃ b, v = .ref b ∧ SeqAt2 H6 b [] kd) := by
        have q1 := s6 _ _ (s5 _ _ (s4 _ _ (s3 _ _ e2)))
        have q2 := s6 _ _ (s5 _ _ (s4 _ _ e3))
        have q3 := s6 _ _ (s5 _ _ e4)
        have q4 := s6 _ _ e5
        intro v hv
        simp only [List.mem_cons, List.not_mem_nil, or_false] at hv
        rcases hv with rfl | rfl | rfl | rfl | rfl | rfl | rfl | rfl | rfl
        · exact ⟨_, .non, fun q => nomatch q⟩
        · exact ⟨_, .int 5, fun q => nomatch q⟩
        · exact ⟨_, .str (by decide), fun q => nomatch q⟩
        · exact ⟨_, .dict q1, fun q => nomatch q⟩
        · exact ⟨_, .bl true, fun q => nomatch q⟩
        · exact ⟨_, .tup q2, fun _ => ⟨p2, rfl, .inr ⟨q2, rfl⟩⟩⟩
        · exact ⟨_, .lst q3, fun _ => ⟨p3, rfl, .inl ⟨q3, rfl⟩⟩⟩
        · exact ⟨_, .fn hod hcd, fun q => nomatch q⟩
        · exact ⟨_, .dict q4, fun q => nomatch q⟩
      refine ⟨p5, rfl, ⟨_, SqT.of e6⟩, for_tup (xs := [V.non, .int 5, .str "ab", .ref p1, .bl true, .ref p2, .ref p3, .ref fD, .ref p4]) (fun i σ H' => ∃ w1 w2 w3 w4 : Option V, σ = [some (.ref a), w1, w2, w3, w4] ∧ Same H6 H')
        ⟨w1, w2, w3, none, rfl, fun _ _ e => e⟩ (fun i σ H' _ ⟨_, _, _, _, _, b⟩ => SqT.of (b _ _ e6)) ?_ ?_⟩
      · rintro i v σ L1 hv ⟨w1, w2, w3, w4, rfl, t1⟩
        obtain ⟨kd, hk, hseq⟩ := hth v (List.mem_of_getElem? hv)
        have fin : ∀ {y p : Addr} {L : Hp}, L y = some (.tup [.str "wrong", .int 0]) → L p = some (.tup [.str "wrong", .int 0]) → SameD L 2 (.ref y) (.ref p) := fun {y p L} e1 e2 => .tup e1 e2 rfl (by show 2 ≤ 1000; decide) fun n x1 x2 g1 g2 => by
          match n, g1, g2 with
          | 0, rfl, rfl => exact .str (by decide)
          | 1, rfl, rfl => exact .int _
        refine ⟨_, rfl, v, kd, rfl, hk.same t1, fun hno y L2 hy t2 => ?_, fun hyes => ?_⟩
        · refine ⟨by show 2 ≤ sizeLine; decide, fun p hp => ?_⟩
          refine ⟨.ref y, .ref p, rfl, fin (same_upd hp _ _ hy) upd_same, fun L4 t4 => ⟨true, rfl, iteF ?_⟩⟩
          exact ⟨_, _, _, _, rfl, t1.trans (t2.trans ((same_upd hp).trans t4))⟩
        · obtain ⟨b, rfl, hb⟩ := hseq hyes
          refine ⟨b, [], rfl, hb.same t1, Nat.zero_le _, (fun y hy => nomatch hy), fun ix hix y L2 hy t2 => ?_, fun hno => nomatch hno⟩
          cases hix
          refine ⟨by show 2 ≤ sizeLine; decide, fun p hp => ?_⟩
          refine ⟨.ref y, .ref p, rfl, fin (same_upd hp _ _ hy) upd_same, fun L4 t4 => ⟨true, rfl, iteF ?_⟩⟩
          exact ⟨_, _, _, _, rfl, t1.trans (t2.trans ((same_upd hp).trans t4))⟩
      · rintro σ L1 ⟨w1, w2, w3, w4, rfl, t1⟩
        have wa : wrongIx [V.str "a"] = some 1 := by decide +kernel
        have wb : wrongIx [V.str "a", V.str "a"] = some 1 := by decide +kernel
        refine ⟨by show 1 ≤ sizeLine; decide, fun r1 hr1 => ?_⟩
        generalize hE : upd L1 r1 _ = L2
        have t2 : Same L1 L2 := hE ▸ same_upd hr1
        have g2 := congrFun hE.symm r1
        rw [upd_same] at g2
        clear hE
        refine ⟨.ref r1, .list, rfl, .lst g2, (fun q => nomatch q), fun _ => ⟨r1, [.str "a"], rfl, .inl ⟨g2, rfl⟩, by show 1 ≤ 1000; decide, ?_, fun ix hix y1 L3 hy1 t3 => ?_, fun hno => absurd (hno.symm.trans wa) (fun q => nomatch q)⟩⟩
        · intro x hx
          rw [List.mem_singleton.mp hx]
          exact ⟨_, .str (by decide)⟩
        · cases wa.symm.trans hix
          refine ⟨by show 2 ≤ sizeLine; decide, fun r2 hr2 => ?_⟩
          generalize hE : upd L3 r2 _ = L4
          have t4 : Same L3 L4 := hE ▸ same_upd hr2
          have g4 := congrFun hE.symm r2
          rw [upd_same] at g4
          clear hE
          refine ⟨.ref r2, .tup, rfl, .tup g4, (fun q => nomatch q), fun _ => ⟨r2, [.str "a", .str "a"], rfl, .inr ⟨g4, rfl⟩, by show 2 ≤ 1000; decide, ?_, fun ix hix y2 L5 hy2 t5 => ?_, fun hno => absurd (hno.symm.trans wb) (fun q => nomatch q)⟩⟩
          · intro x hx
            simp only [List.mem_cons, List.not_mem_nil, or_false, or_self] at hx
            rw [hx]
            exact ⟨_, .str (by decide)⟩
          · cases wb.symm.trans hix
            refine ⟨by show 2 ≤ sizeLine; decide, fun r3 hr3 => ?_⟩
            generalize hE : upd L5 r3 _ = L6
            have t6 : Same L5 L6 := hE ▸ same_upd hr3
            have g6 := congrFun hE.symm r3
            rw [upd_same] at g6
            clear hE
            refine ⟨by show 2 ≤ sizeLine; decide, fun r4 hr4 => ?_⟩
            generalize hE : upd L6 r4 _ = L7
            have t7 : Same L6 L7 := hE ▸ same_upd hr4
            have g7 := congrFun hE.symm r4
            rw [upd_same] at g7
            clear hE
            refine ⟨by show 2 ≤ sizeLine; decide, fun r5 hr5 => ?_⟩
            generalize hE : upd L7 r5 _ = L8
            have t8 : Same L7 L8 := hE ▸ same_upd hr5
            have g8 := congrFun hE.symm r5
            rw [upd_same] at g8
            clear hE
            refine ⟨by show 2 ≤ sizeLine; decide, fun r6 hr6 => ?_⟩
            generalize hE : upd L8 r6 _ = L9
            have t9 : Same L8 L9 := hE ▸ same_upd hr6
            have g9 := congrFun hE.symm r6
            rw [upd_same] at g9
            clear hE
            have fin : ∀ {y p : Addr}, L9 y = some (.tup [.str "wrong", .int 1]) → L9 p = some (.tup [.str "wrong", .int 1]) → SameD L9 1 (.ref y) (.ref p) := fun {y p} e1 e2 => .tup e1 e2 rfl (by show 2 ≤ 1000; decide) fun n x1 x2 g1 g2 => by
              match n, g1, g2 with
              | 0, rfl, rfl => exact .str (by decide)
              | 1, rfl, rfl => exact .int _
            have u69 : Same L6 L9 := t7.trans (t8.trans t9)
            refine ⟨.ref r3, .ref r6, rfl, .lst (u69 _ _ g6) g9 rfl (by show 2 ≤ 1000; decide) (fun n x1 x2 e1 e2 => ?_), fun L' _ => k L'⟩
            match n, e1, e2 with
            | 0, rfl, rfl => exact fin (u69 _ _ (t6 _ _ (t5 _ _ (t4 _ _ hy1)))) (t9 _ _ (t8 _ _ g7))
            | 1, rfl, rfl => exact fin (u69 _ _ (t6 _ _ hy2)) (t9 _ _ g8)
end
end RK

namespace RK
open PySem L2
theorem exm_self {K : PySem.W.Frag} {S : Addr} (h1 : PySem.W.subIn K (.ref S) (.type "BaseException") = some true) (h2 : PySem.W.isClsIn K S = true) (h3 : PySem.W.typeIn K (.ref S) = some (.type "type")) (h4 : PySem.W.subIn K (.ref S) (.ref S) = some true) :
    PySem.W.exmOne K (.ref S) (.ref S) = some true := by
  have e1 : (PySem.W.subIn K (.ref S) (.type "BaseException") == some true) = true := by rw [h1] <;> rfl
  have e2 : ((PySem.W.clsIn K S).isSome && PySem.W.typeIn K (.ref S) == some (.type "type")) = true := by
    have h2' : (PySem.W.clsIn K S).isSome = true := h2
    rw [h2', h3] <;> rfl
  show (if (PySem.W.subIn K (.ref S) (.type "BaseException") == some true) = true then (if ((PySem.W.clsIn K S).isSome && PySem.W.typeIn K (.ref S) == some (.type "type")) = true then PySem.W.subIn K (.ref S) (.ref S) else none) else none) = some true
  rw [if_pos e1, if_pos e2]
  exact h4
theorem isC_of {K : PySem.W.Frag} {S : Addr} (h2 : PySem.W.isClsIn K S = true) (h3 : PySem.W.typeIn K (.ref S) = some (.type "type")) : ((PySem.W.clsIn K S).isSome && PySem.W.typeIn K (.ref S) == some (.type "type")) = true := by
  have h2' : (PySem.W.clsIn K S).isSome = true := h2
  rw [h2', h3] <;> rfl
theorem cls_fn {K : PySem.W.Frag} {a : Addr} {o : Obj} (h : K.lookup a = some o) (t : o.cls = .type "function") : ∃ o, K.lookup a = some o ∧ o.cls = .type "function" := ⟨o, h, t⟩

theorem all_mk {P : Program} {w : World} {K : PySem.W.Frag} {h : Heap} {mg : Str → Option Value} {fa C CB fB f1 f2 f3 f4 f5 f6 f7 f8 f9 f10 f11 f12 f13 f14 f15 f16 f17 : Addr} (X : K.In h) (G : h.Ns mainGlobals mg) (hfa : mg "law" = some (.ref fa))
    {od0 an0 cld0 od1 an1 od2 an2 od3 an3 od4 an4 od5 an5 od6 an6 od7 an7 od8 an8 od9 an9 od10 an10 od11 an11 od12 an12 od13 an13 od14 an14 od15 an15 od16 an16 od17 an17 : Option Addr} {sl0 csl0 ccs0 sl1 sl2 sl3 sl4 sl5 sl6 sl7 sl8 sl9 sl10 sl11 sl12 sl13 sl14 sl15 sl16 sl17 : Array (Option Value)} {oc0 dc0 pm0 ct0 cl0 ccl0 oc1 kV1 dc1 pm1 cd1 ct1 oc2 kV2 dc2 pm2 cd2 ct2 oc3 kV3 dc3 pm3 cd3 ct3 oc4 kV4 dc4 pm4 cd4 ct4 oc5 kV5 dc5 pm5 cd5 ct5 oc6 kV6 dc6 pm6 cd6 ct6 kV7 dc7 pm7 cd7 ct7 oc8 kV8 dc8 pm8 cd8 ct8 oc9 kV9 dc9 pm9 cd9 ct9 oc10 kV10 dc10 pm10 cd10 ct10 oc11 kV11 dc11 pm11 cd11 ct11 oc12 kV12 dc12 pm12 cd12 ct12 oc13 kV13 dc13 pm13 cd13 ct13 oc14 kV14 dc14 pm14 cd14 ct14 oc15 kV15 dc15 pm15 cd15 ct15 oc16 kV16 dc16 pm16 cd16 ct16 oc17 kV17 dc17 pm17 cd17 ct17 : Value} {cda cc : Addr} {cdd0 : Option Addr} {vs0 : Array Value} {file : Str} {tf t1 t2 t3 : Tok}
    {nm q : Str} {N : Addr} {bs bm : List Value} {sn : List Str} {sub : List Value} {ab : Bool} {col : Option Bool} {dd : Option Addr} {m0 m1 m2 m3 m5 : Option Value}
    (a1 : PySem.W.nsIn K mainGlobals "is_list" = some (some (.ref f1)))
    (l1 : K.lookup f1 = some ⟨oc1, od1, .func (PySem.W.fnOf "is_list" "is_list" (defArgs sIsList) (defBody sIsList) (defScope sIsList) .none kV1 dc1 pm1 an1 cd1 ct1), sl1⟩)
    (c1 : PySem.W.codeIn K cd1 "is_list" = true)
    (k1 : PySem.W.keepIn K (.ref f1) = true)
    (a2 : PySem.W.nsIn K mainGlobals "is_name" = some (some (.ref f2)))
    (l2 : K.lookup f2 = some ⟨oc2, od2, .func (PySem.W.fnOf "is_name" "is_name" (defArgs sIsName) (defBody sIsName) (defScope sIsName) .none kV2 dc2 pm2 an2 cd2 ct2), sl2⟩)
    (c2 : PySem.W.codeIn K cd2 "is_name" = true)
    (k2 : PySem.W.keepIn K (.ref f2) = true)
    (a3 : PySem.W.findIn K (.ref C) "__init__" = some (some (.ref f3)))
    (i3 : PySem.W.isFn K (.ref f3) = true)
    (l3 : K.lookup f3 = some ⟨oc3, od3, .func (PySem.W.fnOf "__init__" "Path.__init__" (defArgs sInit) (defBody sInit) (defScope sInit) .none kV3 dc3 pm3 an3 cd3 ct3), sl3⟩)
    (c3 : PySem.W.codeIn K cd3 "Path.__init__" = true)
    (k3 : PySem.W.keepIn K (.ref f3) = true)
    (a4 : PySem.W.findIn K (.ref C) "walkers" = some (some (.ref f4)))
    (i4 : PySem.W.isFn K (.ref f4) = true)
    (l4 : K.lookup f4 = some ⟨oc4, od4, .func (PySem.W.fnOf "walkers" "Path.walkers" (defArgs sWalkers) (defBody sWalkers) (defScope sWalkers) .none kV4 dc4 pm4 an4 cd4 ct4), sl4⟩)
    (c4 : PySem.W.codeIn K cd4 "Path.walkers" = true)
    (k4 : PySem.W.keepIn K (.ref f4) = true)
    (a5 : PySem.W.findIn K (.ref C) "__eq__" = some (some (.ref f5)))
    (i5 : PySem.W.isFn K (.ref f5) = true)
    (l5 : K.lookup f5 = some ⟨oc5, od5, .func (PySem.W.fnOf "__eq__" "Path.__eq__" (defArgs sEq) (defBody sEq) (defScope sEq) .none kV5 dc5 pm5 an5 cd5 ct5), sl5⟩)
    (c5 : PySem.W.codeIn K cd5 "Path.__eq__" = true)
    (k5 : PySem.W.keepIn K (.ref f5) = true)
    (a6 : PySem.W.nsIn K mainGlobals "_law_spring" = some (some (.ref f6)))
    (l6 : K.lookup f6 = some ⟨oc6, od6, .func (PySem.W.fnOf "_law_spring" "_law_spring" (defArgs sSpring) (defBody sSpring) (defScope sSpring) .none kV6 dc6 pm6 an6 cd6 ct6), sl6⟩)
    (c6 : PySem.W.codeIn K cd6 "_law_spring" = true)
    (k6 : PySem.W.keepIn K (.ref f6) = true)
    (a7 : PySem.W.nsIn K mainGlobals "_law_draw" = some (some (.ref f7)))
    (l7 : K.lookup f7 = some ⟨(.type "function"), od7, .func (PySem.W.fnOf "_law_draw" "_law_draw" (defArgs sDraw) (defBody sDraw) (defScope sDraw) .none kV7 dc7 pm7 an7 cd7 ct7), sl7⟩)
    (c7 : PySem.W.codeIn K cd7 "_law_draw" = true)
    (k7 : PySem.W.keepIn K (.ref f7) = true)
    (a8 : PySem.W.nsIn K mainGlobals "_law_pick" = some (some (.ref f8)))
    (l8 : K.lookup f8 = some ⟨oc8, od8, .func (PySem.W.fnOf "_law_pick" "_law_pick" (defArgs sPick) (defBody sPick) (defScope sPick) .none kV8 dc8 pm8 an8 cd8 ct8), sl8⟩)
    (c8 : PySem.W.codeIn K cd8 "_law_pick" = true)
    (k8 : PySem.W.keepIn K (.ref f8) = true)
    (a9 : PySem.W.nsIn K mainGlobals "_law_mixed" = some (some (.ref f9)))
    (l9 : K.lookup f9 = some ⟨oc9, od9, .func (PySem.W.fnOf "_law_mixed" "_law_mixed" (defArgs sMixed) (defBody sMixed) (defScope sMixed) .none kV9 dc9 pm9 an9 cd9 ct9), sl9⟩)
    (c9 : PySem.W.codeIn K cd9 "_law_mixed" = true)
    (k9 : PySem.W.keepIn K (.ref f9) = true)
    (a10 : PySem.W.nsIn K mainGlobals "_law_same" = some (some (.ref f10)))
    (l10 : K.lookup f10 = some ⟨oc10, od10, .func (PySem.W.fnOf "_law_same" "_law_same" (defArgs sSame) (defBody sSame) (defScope sSame) .none kV10 dc10 pm10 an10 cd10 ct10), sl10⟩)
    (c10 : PySem.W.codeIn K cd10 "_law_same" = true)
    (k10 : PySem.W.keepIn K (.ref f10) = true)
    (a11 : PySem.W.nsIn K mainGlobals "_law_w_names" = some (some (.ref f11)))
    (l11 : K.lookup f11 = some ⟨oc11, od11, .func (PySem.W.fnOf "_law_w_names" "_law_w_names" (defArgs sNames) (defBody sNames) (defScope sNames) .none kV11 dc11 pm11 an11 cd11 ct11), sl11⟩)
    (c11 : PySem.W.codeIn K cd11 "_law_w_names" = true)
    (k11 : PySem.W.keepIn K (.ref f11) = true)
    (a12 : PySem.W.nsIn K mainGlobals "_law_is_name" = some (some (.ref f12)))
    (l12 : K.lookup f12 = some ⟨oc12, od12, .func (PySem.W.fnOf "_law_is_name" "_law_is_name" (defArgs sLName) (defBody sLName) (defScope sLName) .none kV12 dc12 pm12 an12 cd12 ct12), sl12⟩)
    (c12 : PySem.W.codeIn K cd12 "_law_is_name" = true)
    (k12 : PySem.W.keepIn K (.ref f12) = true)
    (a13 : PySem.W.nsIn K mainGlobals "_law_wrong" = some (some (.ref f13)))
    (l13 : K.lookup f13 = some ⟨oc13, od13, .func (PySem.W.fnOf "_law_wrong" "_law_wrong" (defArgs sWrong) (defBody sWrong) (defScope sWrong) .none kV13 dc13 pm13 an13 cd13 ct13), sl13⟩)
    (c13 : PySem.W.codeIn K cd13 "_law_wrong" = true)
    (k13 : PySem.W.keepIn K (.ref f13) = true)
    (a14 : PySem.W.nsIn K mainGlobals "_law_met" = some (some (.ref f14)))
    (l14 : K.lookup f14 = some ⟨oc14, od14, .func (PySem.W.fnOf "_law_met" "_law_met" (defArgs sMet) (defBody sMet) (defScope sMet) .none kV14 dc14 pm14 an14 cd14 ct14), sl14⟩)
    (c14 : PySem.W.codeIn K cd14 "_law_met" = true)
    (k14 : PySem.W.keepIn K (.ref f14) = true)
    (a15 : PySem.W.nsIn K mainGlobals "_law_told_right" = some (some (.ref f15)))
    (l15 : K.lookup f15 = some ⟨oc15, od15, .func (PySem.W.fnOf "_law_told_right" "_law_told_right" (defArgs sTold) (defBody sTold) (defScope sTold) .none kV15 dc15 pm15 an15 cd15 ct15), sl15⟩)
    (c15 : PySem.W.codeIn K cd15 "_law_told_right" = true)
    (k15 : PySem.W.keepIn K (.ref f15) = true)
    (a16 : PySem.W.nsIn K mainGlobals "_law_bent_right" = some (some (.ref f16)))
    (l16 : K.lookup f16 = some ⟨oc16, od16, .func (PySem.W.fnOf "_law_bent_right" "_law_bent_right" (defArgs sBent) (defBody sBent) (defScope sBent) .none kV16 dc16 pm16 an16 cd16 ct16), sl16⟩)
    (c16 : PySem.W.codeIn K cd16 "_law_bent_right" = true)
    (k16 : PySem.W.keepIn K (.ref f16) = true)
    (a17 : PySem.W.nsIn K mainGlobals "law" = some (some (.ref f17)))
    (l17 : K.lookup f17 = some ⟨oc17, od17, .func (PySem.W.fnOf "law" "law" (defArgs sLaw) (defBody sLaw) (defScope sLaw) .none kV17 dc17 pm17 an17 cd17 ct17), sl17⟩)
    (c17 : PySem.W.codeIn K cd17 "law" = true)
    (k17 : PySem.W.keepIn K (.ref f17) = true)
    (aC : PySem.W.nsIn K mainGlobals "Path" = some (some (.ref C)))
    (pg : PySem.W.plainGet K C Str.empty = true)
    (hd : PySem.W.hasDictIn K C = true)
    (po : PySem.W.plainOver K C = true)
    (sa : PySem.W.findIn K (.ref C) "__setattr__" = some (some (.builtin "object.__setattr__")))
    (mk : PySem.W.makesIn K C = true)
    (kc : PySem.W.keepIn K (.ref C) = true)
    (nN : PySem.W.findIn K (.ref C) "_names" = some none)
    (cls1 : PySem.W.findIn K (.ref C) "__class__" = some (some (.builtin "object.__class__")))
    (spec : PySem.W.specialIn K (.builtin "object.__class__") "__get__" = some (some (.builtin "getset_descriptor.__get__")))
    (tak : PySem.W.takesIn K (.builtin "object.__class__") = some true)
    (mo : PySem.W.mroIn K C (.type "object") = some true)
    (icC : PySem.W.isClsIn K C = true)
    (tyC : PySem.W.typeIn K (.ref C) = some (.type "type"))
    (neF : PySem.W.findIn K (.ref C) "__ne__" = some (some (.builtin "object.__ne__")))
    (z_isinstance : PySem.W.nsIn K mainGlobals "isinstance" = some none)
    (z_list : PySem.W.nsIn K mainGlobals "list" = some none)
    (z_tuple : PySem.W.nsIn K mainGlobals "tuple" = some none)
    (z_str : PySem.W.nsIn K mainGlobals "str" = some none)
    (z_len : PySem.W.nsIn K mainGlobals "len" = some none)
    (z_all : PySem.W.nsIn K mainGlobals "all" = some none)
    (z_any : PySem.W.nsIn K mainGlobals "any" = some none)
    (z_enumerate : PySem.W.nsIn K mainGlobals "enumerate" = some none)
    (z_int : PySem.W.nsIn K mainGlobals "int" = some none)
    (z_range : PySem.W.nsIn K mainGlobals "range" = some none)
    (z_dict : PySem.W.nsIn K mainGlobals "dict" = some none)
    (z_bool : PySem.W.nsIn K mainGlobals "bool" = some none)
    (z_zip : PySem.W.nsIn K mainGlobals "zip" = some none)
    (v1 : PySem.W.nsIn K mainGlobals "FIRST_SIGNS" = some (some (.str "abcdefghijklmnopqrstuvwxyz" t1)))
    (v2 : PySem.W.nsIn K mainGlobals "LATER_SIGNS" = some (some (.str "abcdefghijklmnopqrstuvwxyz0123456789" t2)))
    (v3 : PySem.W.nsIn K mainGlobals "LONGEST_NAME" = some (some (.int 8 t3)))
    (aB : PySem.W.nsIn K mainGlobals "BadWalkers" = some (some (.ref CB)))
    (xL : K.lookup CB = some (excClassObj nm q CB N bs bm true sn sub ab col dd m0 m1 m2 m3 m5 "ValueError.__new__"))
    (xR : PySem.HandSPX.refsVE bm = true)
    (xi : PySem.W.excInitIn K CB [.type "ValueError", .type "Exception", .type "BaseException", .type "object"] "ValueError.__new__" = true)
    (xs : PySem.W.ks_superIn K CB CB "__init__" = some (some (.builtin "ValueError.__init__")))
    (xV : PySem.W.subIn K (.ref CB) (.type "ValueError") = some true)
    (xM : PySem.W.mroIn K CB (.ref CB) = some true)
    (xtp : PySem.W.nsIn K cStatics "thirdparty.any" = some none)
    (xgS : PySem.W.nsIn K mainGlobals "super" = some none)
    (xtop : (P.main.scope.names.lookup ("super" : Str)).isSome = false)
    (xsa : PySem.W.findIn K (.ref CB) "__setattr__" = some (some (.builtin "object.__setattr__")))
    (xga : PySem.W.findIn K (.ref CB) "__getattribute__" = some (some (.builtin "BaseException.__getattribute__")))
    (xgg : PySem.W.findIn K (.ref CB) "__getattr__" = some none)
    (xno : PySem.W.findIn K (.ref CB) "index" = some none)
    (xiC : PySem.W.findIn K (.ref CB) "__init__" = some (some (.ref fB)))
    (xtC : PySem.W.typeIn K (.ref fB) = some (.type "function"))
    (xkC : PySem.W.keepIn K (.ref CB) = true)
    (xeC : PySem.W.subIn K (.ref CB) (.type "BaseException") = some true)
    (xyC : PySem.W.typeIn K (.ref CB) = some (.type "type"))
    (xhC : PySem.W.hasDictIn K CB = true)
    (xic : PySem.W.isClsIn K CB = true)
    (xss : PySem.W.subIn K (.ref CB) (.ref CB) = some true)
    (l0 : K.lookup fB = some ⟨oc0, od0, .func (PySem.W.ksFn "__init__" "BadWalkers.__init__" (PySem.XW.xA "index" ⟨6, 17, 6, 21⟩ ⟨6, 23, 6, 28⟩) [PySem.XW.xB1 "no list of two or more unlike names" ⟨7, 8, 7, 13⟩ ⟨7, 8, 7, 15⟩ ⟨7, 8, 7, 24⟩ ⟨7, 25, 7, 62⟩ ⟨7, 8, 7, 63⟩ ⟨7, 8, 7, 63⟩, PySem.XW.xB2 "index" ⟨8, 8, 8, 12⟩ ⟨8, 8, 8, 18⟩ ⟨8, 21, 8, 26⟩ ⟨8, 8, 8, 26⟩] (PySem.XW.xS "index") .none .none dc0 pm0 an0 (.ref cda) ct0 cc), sl0⟩)
    (c0 : PySem.W.codeIn K (.ref cda) "BadWalkers.__init__" = true)
    (x1 : K.lookup cda = some ⟨ccl0, cdd0, .fields vs0, ccs0⟩)
    (x2 : vs0[2]? = some (.str file tf))
    (x3 : ((P.main.file : Str) == file) = true)
    (x4 : K.lookup cc = some ⟨cl0, cld0, .cell (some (.ref CB)), csl0⟩) :
    ∃ fd : FuncData, (∀ (s : Shared) (v : Value), BindsTo s fd ⟨[v], []⟩ [("script", v)]) ∧ ∀ base : Heap, K.In base → base.Ns mainGlobals mg → FnOk P w K mg base CX0 6 fa fd ["script"] (spLaw K) := by
  have e := hfa.symm.trans (PySem.W.mg_of X G a17)
  cases e
  have B : B0 K mg := ⟨PySem.W.mg_none_of X G z_isinstance, PySem.W.mg_none_of X G z_list, PySem.W.mg_none_of X G z_tuple, PySem.W.mg_none_of X G z_str, PySem.W.mg_none_of X G z_len, PySem.W.mg_none_of X G z_all, PySem.W.mg_none_of X G z_any, PySem.W.mg_none_of X G z_enumerate, PySem.W.mg_none_of X G z_int, PySem.W.mg_none_of X G z_range, PySem.W.mg_none_of X G z_dict, PySem.W.mg_none_of X G z_bool, PySem.W.mg_none_of X G z_zip, ⟨_, PySem.W.mg_of X G v1⟩, ⟨_, PySem.W.mg_of X G v2⟩, ⟨_, PySem.W.mg_of X G v3⟩⟩
  have bad : PySem.XW.XTxt P K mg "index" CB fB :=
    { fne := by decide, fn1 := by decide, fS := by decide, fK := by decide, fd := by decide, bnd := fun _ _ _ _ _ _ _ _ _ _ _ _ _ => rfl,
      cls := ⟨nm, q, N, bs, bm, sn, sub, ab, col, dd, m0, m1, m2, m3, m5, xL, xR⟩, ini := xi, sup := xs, sV := xV, mC := xM, tp := xtp, gS := PySem.W.mg_none_of X G xgS, top := xtop, sa := xsa, ga := xga, gg := xgg, noN := xno, iC := xiC, tC := xtC,
      kC := xkC, exC := xeC, tyC := xyC, hdC := xhC, te := exm_self xeC xic xyC xss,
      fn := ⟨_, _, _, _, _, _, _, _, _, _, _, _, _, _, _, _, _, _, _, _, _, _, _, l0, c0, by decide, ⟨_, _, _, _, _, _, x1, x2, x3⟩, _, _, _, x4⟩ }
  have T : PT0 P K mg C CB fB := ⟨⟨pg, hd, po, sa⟩, nN, PySem.W.mg_of X G aC, PySem.W.mg_of X G aB, bad⟩
  have T1 : PT1 K C f5 := ⟨cls1, spec, tak, mo, isC_of icC tyC, a5, i5, neF⟩
  have F1 := fun_mk (st := sIsList) l1 c1 k1
  have b1 := F1.binds (ps := ["thing"]) fun _ _ _ _ _ _ us hl => match us, hl with | [_], _ => rfl
  have g1 := PySem.W.mg_of X G a1
  have F2 := fun_mk (st := sIsName) l2 c2 k2
  have b2 := F2.binds (ps := ["thing"]) fun _ _ _ _ _ _ us hl => match us, hl with | [_], _ => rfl
  have g2 := PySem.W.mg_of X G a2
  have F3 := fun_mk (st := sInit) l3 c3 k3
  have b3 := F3.binds (ps := ["self", "walkers"]) fun _ _ _ _ _ _ us hl => match us, hl with | [_, _], _ => rfl
  have F4 := fun_mk (st := sWalkers) l4 c4 k4
  have b4 := F4.binds (ps := ["self"]) fun _ _ _ _ _ _ us hl => match us, hl with | [_], _ => rfl
  have F5 := fun_mk (st := sEq) l5 c5 k5
  have b5 := F5.binds (ps := ["self", "other"]) fun _ _ _ _ _ _ us hl => match us, hl with | [_, _], _ => rfl
  have F6 := fun_mk (st := sSpring) l6 c6 k6
  have b6 := F6.binds (ps := ["script", "turn"]) fun _ _ _ _ _ _ us hl => match us, hl with | [_, _], _ => rfl
  have g6 := PySem.W.mg_of X G a6
  have F7 := fun_mk (st := sDraw) l7 c7 k7
  have b7 := F7.binds (ps := ["spring", "many"]) fun _ _ _ _ _ _ us hl => match us, hl with | [_, _], _ => rfl
  have g7 := PySem.W.mg_of X G a7
  have F8 := fun_mk (st := sPick) l8 c8 k8
  have b8 := F8.binds (ps := ["spring", "some"]) fun _ _ _ _ _ _ us hl => match us, hl with | [_, _], _ => rfl
  have g8 := PySem.W.mg_of X G a8
  have F9 := fun_mk (st := sMixed) l9 c9 k9
  have b9 := F9.binds (ps := ["spring", "some"]) fun _ _ _ _ _ _ us hl => match us, hl with | [_, _], _ => rfl
  have g9 := PySem.W.mg_of X G a9
  have F10 := fun_mk (st := sSame) l10 c10 k10
  have b10 := F10.binds (ps := ["found", "due"]) fun _ _ _ _ _ _ us hl => match us, hl with | [_, _], _ => rfl
  have g10 := PySem.W.mg_of X G a10
  have F11 := fun_mk (st := sNames) l11 c11 k11
  have b11 := F11.binds (ps := ["spring", "least", "most"]) fun _ _ _ _ _ _ us hl => match us, hl with | [_, _, _], _ => rfl
  have g11 := PySem.W.mg_of X G a11
  have F12 := fun_mk (st := sLName) l12 c12 k12
  have b12 := F12.binds (ps := ["thing"]) fun _ _ _ _ _ _ us hl => match us, hl with | [_], _ => rfl
  have g12 := PySem.W.mg_of X G a12
  have F13 := fun_mk (st := sWrong) l13 c13 k13
  have b13 := F13.binds (ps := ["thing"]) fun _ _ _ _ _ _ us hl => match us, hl with | [_], _ => rfl
  have g13 := PySem.W.mg_of X G a13
  have F14 := fun_mk (st := sMet) l14 c14 k14
  have b14 := F14.binds (ps := ["thing"]) fun _ _ _ _ _ _ us hl => match us, hl with | [_], _ => rfl
  have g14 := PySem.W.mg_of X G a14
  have F15 := fun_mk (st := sTold) l15 c15 k15
  have b15 := F15.binds (ps := ["spring", "names"]) fun _ _ _ _ _ _ us hl => match us, hl with | [_, _], _ => rfl
  have g15 := PySem.W.mg_of X G a15
  have F16 := fun_mk (st := sBent) l16 c16 k16
  have b16 := F16.binds (ps := ["spring", "names"]) fun _ _ _ _ _ _ us hl => match us, hl with | [_, _], _ => rfl
  have g16 := PySem.W.mg_of X G a16
  have F17 := fun_mk (st := sLaw) l17 c17 k17
  have b17 := F17.binds (ps := ["script"]) fun _ _ _ _ _ _ us hl => match us, hl with | [_], _ => rfl
  have g17 := PySem.W.mg_of X G a17
  refine ⟨PySem.W.fnOf "law" "law" (defArgs sLaw) (defBody sLaw) (defScope sLaw) .none kV17 dc17 pm17 an17 cd17 ct17, fun s v => .of_eq rfl, fun base _ _ => ?_⟩
  have GI : FnOk P w K mg base (L2.CX P w) 2 f3 _ ["self", "walkers"] (spInit K C CB) := ok_init F3 B T F1 b1 g1 F2 b2 g2
  have MI : Mk K C f3 := ⟨mk, a3, i3, kc⟩
  have GW : FnOk P w K mg base CX0 1 f4 _ ["self"] (spWalkers C) := ok_walkers F4 B T
  have MW : Meth K C "walkers" f4 := ⟨a4, i4, k4⟩
  have GE : FnOk P w K mg base CX0 1 f5 _ ["self", "other"] (spEq K C) := ok_eq F5 B T T1
  have GG : FnOk P w K mg base CX0 1 f6 _ ["script", "turn"] (spSpring K) := ok_spring F6 B
  have GD : FnOk P w K mg base CX0 1 f7 _ ["spring", "many"] spDraw := ok_draw F7 B
  have GP : FnOk P w K mg base CX0 2 f8 _ ["spring", "some"] spPick := ok_pick F8 B F7 b7 g7
  have GS1 : FnOk P w K mg base CX0 2 f10 _ ["found", "due"] (spSame 1) := ok_same F10 B b10 g10 1
  have GS2 : FnOk P w K mg base CX0 3 f10 _ ["found", "due"] (spSame 2) := ok_same F10 B b10 g10 2
  have GN : FnOk P w K mg base CX0 3 f11 _ ["spring", "least", "most"] spNames := ok_names F11 B F7 b7 g7 F9 b9 g9
  have GR : FnOk P w K mg base CX0 2 f13 _ ["thing"] (spWrong K) := ok_wrong F13 B F12 b12 g12
  have GM : FnOk P w K mg base CX0 4 f14 _ ["thing"] (spMet K) := ok_met F14 B T GI b3 MI GW b4 MW
  have GT : FnOk P w K mg base CX0 4 f15 _ ["spring", "names"] spTold := ok_told F15 B T T1 GI b3 (kb_init F3) MI GW b4 MW GE b5 GP b8 g8 k8 GS1 b10 g10 k10
  have GB : FnOk P w K mg base CX0 5 f16 _ ["spring", "names"] spBent := ok_bent F16 B GD b7 g7 k7 GP b8 g8 k8 GS2 b10 g10 k10 GM b14 g14 k14 GR b13 g13 k13
  exact ok_law F17 B g7 ⟨_, l7, rfl⟩ GG b6 g6 k6 GN b11 g11 k11 GT b15 g15 k15 GB b16 g16 k16 GS2 b10 g10 k10 GM b14 g14 k14
theorem walk {l : PySem.W.OpenLaw} {q : Program} {loose : List Str} {XP : (Str → Option Value) → Heap → Prop} {YP : World → Heap → Prop} {d : DefRec} {K : Params → PySem.W.Frag} (hn : l.most = some 63) (hdf : d.params.defaults = [])
    (hY : ∀ (w : World) (h : Heap), YP w h → (K w.params).In h)
    (F : ∀ (w : World) (mg : Str → Option Value) (fa : Addr) (h : Heap), (K w.params).In h → h.Ns mainGlobals mg → mg d.name = some (.ref fa) →
      ∃ fd : FuncData, (∀ (s : Shared) (u : Value), BindsTo s fd ⟨[u], []⟩ [("script", u)]) ∧ ∀ base : Heap, (K w.params).In base → base.Ns mainGlobals mg → FnOk l.prog w (K w.params) mg base CX0 6 fa fd ["script"] (spLaw (K w.params))) :
    PySem.W.WalkO q loose XP YP l.row.toRowW d [] (fun f vs => PySem.call f vs) :=
  L2.walk_of (n := 63) (k := 6) (x := "script") (CX := fun _ => CX0) (sp := fun w => spLaw (K w.params)) hn (by decide) hdf ⟨rfl, by decide, by decide⟩ hY F (fun _ _ a ns hl _ hS => ⟨a, ns, rfl, hS, hl, fun _ => rfl⟩) fun _ _ _ _ _ z => z
end RK

open PySem PySem.W PyProof.Rows
set_option maxRecDepth 100000 in
set_option maxHeartbeats 0 in
theorem PySem.Challenge.cw_ringwalkers_k01_whole_paths_holds : PySem.Challenge.rw_ringwalkers_k01_whole_paths.Holds := by
  w_on; o_law; k_head; (case hw => w_witness2)
  k_fill
  refine RK.walk (l := PySem.Challenge.rw_ringwalkers_k01_whole_paths) rfl rfl (fun w h Y => PySem.W.kIn_of Y) ?F
  case F =>
    intro w mg fa h KX G hmg
    refine' RK.all_mk KX G hmg ?a1 ?l1 ?c1 ?k1 ?a2 ?l2 ?c2 ?k2 ?a3 ?i3 ?l3 ?c3 ?k3 ?a4 ?i4 ?l4 ?c4 ?k4 ?a5 ?i5 ?l5 ?c5 ?k5 ?a6 ?l6 ?c6 ?k6 ?a7 ?l7 ?c7 ?k7 ?a8 ?l8 ?c8 ?k8 ?a9 ?l9 ?c9 ?k9 ?a10 ?l10 ?c10 ?k10 ?a11 ?l11 ?c11 ?k11 ?a12 ?l12 ?c12 ?k12 ?a13 ?l13 ?c13 ?k13 ?a14 ?l14 ?c14 ?k14 ?a15 ?l15 ?c15 ?k15 ?a16 ?l16 ?c16 ?k16 ?a17 ?l17 ?c17 ?k17 ?aC ?pg ?hd ?po ?sa ?mk ?kc ?nN ?cls1 ?spec ?tak ?mo ?icC ?tyC ?neF ?z_isinstance ?z_list ?z_tuple ?z_str ?z_len ?z_all ?z_any ?z_enumerate ?z_int ?z_range ?z_dict ?z_bool ?z_zip ?v1 ?v2 ?v3 ?aB ?xL ?xR ?xi ?xs ?xV ?xM ?xtp ?xgS ?xtop ?xsa ?xga ?xgg ?xno ?xiC ?xtC ?xkC ?xeC ?xyC ?xhC ?xic ?xss ?l0 ?c0 ?x1 ?x2 ?x3 ?x4
    (case aC => k_is)
    (case aB => k_is)
    (case xiC => k_is)
    (case a1 => k_is)
    (case l1 => k_is)
    (case c1 => k_is)
    (case k1 => k_is)
    (case a2 => k_is)
    (case l2 => k_is)
    (case c2 => k_is)
    (case k2 => k_is)
    (case a3 => k_is)
    (case i3 => k_is)
    (case l3 => k_is)
    (case c3 => k_is)
    (case k3 => k_is)
    (case a4 => k_is)
    (case i4 => k_is)
    (case l4 => k_is)
    (case c4 => k_is)
    (case k4 => k_is)
    (case a5 => k_is)
    (case i5 => k_is)
    (case l5 => k_is)
    (case c5 => k_is)
    (case k5 => k_is)
    (case a6 => k_is)
    (case l6 => k_is)
    (case c6 => k_is)
    (case k6 => k_is)
    (case a7 => k_is)
    (case l7 => k_is)
    (case c7 => k_is)
    (case k7 => k_is)
    (case a8 => k_is)
    (case l8 => k_is)
    (case c8 => k_is)
    (case k8 => k_is)
    (case a9 => k_is)
    (case l9 => k_is)
    (case c9 => k_is)
    (case k9 => k_is)
    (case a10 => k_is)
    (case l10 => k_is)
    (case c10 => k_is)
    (case k10 => k_is)
    (case a11 => k_is)
    (case l11 => k_is)
    (case c11 => k_is)
    (case k11 => k_is)
    (case a12 => k_is)
    (case l12 => k_is)
    (case c12 => k_is)
    (case k12 => k_is)
    (case a13 => k_is)
    (case l13 => k_is)
    (case c13 => k_is)
    (case k13 => k_is)
    (case a14 => k_is)
    (case l14 => k_is)
    (case c14 => k_is)
    (case k14 => k_is)
    (case a15 => k_is)
    (case l15 => k_is)
    (case c15 => k_is)
    (case k15 => k_is)
    (case a16 => k_is)
    (case l16 => k_is)
    (case c16 => k_is)
    (case k16 => k_is)
    (case a17 => k_is)
    (case l17 => k_is)
    (case c17 => k_is)
    (case k17 => k_is)
    (case pg => k_is)
    (case hd => k_is)
    (case po => k_is)
    (case sa => k_is)
    (case mk => k_is)
    (case kc => k_is)
    (case nN => k_is)
    (case cls1 => k_is)
    (case spec => first | k_is | rfl)
    (case tak => first | k_is | rfl)
    (case mo => k_is)
    (case icC => k_is)
    (case tyC => k_is)
    (case neF => k_is)
    (case z_isinstance => k_is)
    (case z_list => k_is)
    (case z_tuple => k_is)
    (case z_str => k_is)
    (case z_len => k_is)
    (case z_all => k_is)
    (case z_any => k_is)
    (case z_enumerate => k_is)
    (case z_int => k_is)
    (case z_range => k_is)
    (case z_dict => k_is)
    (case z_bool => k_is)
    (case z_zip => k_is)
    (case v1 => k_is)
    (case v2 => k_is)
    (case v3 => k_is)
    (case xL => k_is)
    (case xR => first | rfl | decide +kernel)
    (case xi => first | k_is | kernel_rfl | decide +kernel)
    (case xs => first | ks_is | k_is)
    (case xV => k_is)
    (case xM => k_is)
    (case xtp => first | k_is | kernel_rfl)
    (case xgS => k_is)
    (case xtop => first | rfl | decide +kernel)
    (case xsa => k_is)
    (case xga => k_is)
    (case xgg => k_is)
    (case xno => k_is)
    (case xtC => k_is)
    (case xkC => k_is)
    (case xeC => k_is)
    (case xyC => k_is)
    (case xhC => k_is)
    (case xic => k_is)
    (case xss => first | rfl | k_is)
    (case l0 => k_is)
    (case c0 => k_is)
    (case x1 => k_is)
    (case x2 => first | rfl | decide +kernel)
    (case x3 => first | rfl | decide +kernel)
    (case x4 => k_is)
