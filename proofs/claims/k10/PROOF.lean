import PyProof.Rows.All
import Wide.All
import OpenK.AllK
import Wide.FinOn
import PyProof.EqAt
import PyProof.EqKinds
import PyProof.TupleCall
import KE.KExcSuper
import HandS.Base
import HandS.Call
import HandS.List
import HandS.Ends
import HandS.Exc
import HandS.ExcInit
import KE.GoesMore
import HandS.Iter
import KE.KIsAll
import KE.KTryMore
import HandS.ExcIs
import HandS.Deep
import HandS.Words
import HandS.Strs
import HandS.ForExc
import HandS.Comp
import HandS.FStr
import HandS.Property
import HandS.IsInst
import HandS.TupAny
import HandS.RaiseMore
import PySem.Challenge.RW_sealwatch_k10_whole_courses_judged
import HandS.StrMore
import HandS.Lambda
import HandS.ExcField
import PyProof.Rows.MatchSeqLen
import HandS.FStrTup
import HandS.Sort
import HandS.TupLe
import PyProof.P3Eq
import KE.KSortTup
import KE.KCallOwn
import HandS.TryOnly
import HandS.Conv
import PyProof.FString5
import HandS.SortRule
import HandS.SortOrd
import HandS.More
import HandS.EndTab
import HandS.ExcCtx
import HandS.Hot
import HandS.HotCalls
import HandS.SuiteRaise
import HandS.RaiseFrom
import HandS.ExcInitHot
import KE.KOpsOwn
import HandS.SetFor
import PyProof.InstNe
import KE.KDictDisplayH
import HandS.Dict
set_option Elab.async false
set_option linter.all false
set_option maxRecDepth 100000
set_option maxHeartbeats 4000000
/-! An own exception class (over own classes over ValueError) whose `__init__` begins with `super().__init__(text)` and then stores fields: its promise (FnOk), so that pmk_oex serves it. -/
namespace Kw
open PySem PySem.Spec PyProof.Rows L2

/-- the scope of such an __init__: parameters alone, the class's cell, the name super -/
structure SupScope (N : List Str) (sc : Scope) : Prop where
  kind : sc.kind = .function
  co : sc.isCoroutine = false
  gen : sc.isGenerator = false
  nd : N.Nodup
  par : ∀ x ∈ N, sc.names.lookup x = some .local
  nocell : ∀ y ∈ sc.names, y.2 ≠ .cell
  onlyFree : ∀ y, sc.names.lookup y = some .free → y = ("__class__" : Str)
  cls : sc.names.lookup ("__class__" : Str) = some .free
  sup : sc.names.lookup ("super" : Str) = some .globalImplicit

abbrev sEnv (qual : Str) (scope : Scope) (L f : Addr) (cd : Value) (cc : Addr) : Env := PySem.W.ksEnv qual scope L f cd cc

/-- the context of the body -/
def supCx (CX : CXT) (P : Program) (w : World) (K : PySem.W.Frag) (mg : Str → Option Value) (base : Heap) (N : List Str) (qual : Str) (scope : Scope) (f : Addr) (cd : Value) (cc : Addr) (A : Around) (outer : List Env) (s : Shared) (H : Hp) (E : XK) : Cx where
  prog := P
  w := w
  K := K
  mg := mg
  base := base
  A := A.deeper (sEnv qual scope s.heap.objs.size f cd cc)
  N := N
  s_0 := s
  H_0 := H
  env := sEnv qual scope s.heap.objs.size f cd cc
  outer := outer
  stack := sEnv qual scope s.heap.objs.size f cd cc :: outer
  ex := []
  calm := true
  fn := fun _ => false
  pn := []
  xe := fun e s' => wpAny (model P w) (A.deeper (sEnv qual scope s.heap.objs.size f cd cc)) (leaving (sEnv qual scope s.heap.objs.size f cd cc) e) (fun _ s'' => CX outer H s E e s'') (fun e' s'' => CX outer H s E e' s'') s'

section
variable {CX : CXT} {P : Program} {w : World} {K : PySem.W.Frag} {mg : Str → Option Value} {base : Heap} {N : List Str} {qual : Str} {scope : Scope} {f cc : Addr} {cd : Value} {A : Around} {outer : List Env} {s : Shared} {H : Hp} {E : XK}
theorem sup_start {us : List Value} {vs : List V} {h1 : Heap} {tk : Nat} {D : Addr} {ccl : Value} {ccd : Option Addr} {ccs : Array (Option Value)} (S : SupScope N scope) (hd : A.handled = none) (e0 : Env0 P w K mg base A outer s H) (hl : vs.length = N.length) (r : Vals vs us)
    (hcell : K.lookup cc = some ⟨ccl, ccd, .cell (some (.ref D)), ccs⟩)
    (hns : h1.Ns s.heap.objs.size (fun x => (N.zip us).reverse.lookup x)) (hk : ∀ b o, s.heap.get? b = some o → h1.get? b = some o) :
    Inv (supCx CX P w K mg base N qual scope f cd cc A outer s H E) [] (vs.map some) H { s with heap := h1, toks := tk } := by
  have noA : ∀ b : Addr, b ∉ (supCx CX P w K mg base N qual scope f cd cc A outer s H E).ex := fun b z => absurd (show b ∈ ([] : List Addr) from z) (by simp)
  have KX := e0.mod.kin
  have hcb := KX _ _ hcell
  have cells : ∀ {y c}, (supCx CX P w K mg base N qual scope f cd cc A outer s H E).env.cells.lookup y = some c → y = ("__class__" : Str) ∧ c = cc := fun {y c} h => by
    have h' : List.lookup y [(("__class__" : Str), cc)] = some c := h
    by_cases e : y = ("__class__" : Str)
    · subst e
      have q : List.lookup ("__class__" : Str) [(("__class__" : Str), cc)] = some cc := by simp [List.lookup]
      rw [q] at h'
      exact ⟨rfl, (Option.some.inj h').symm⟩
    · have q : (y == ("__class__" : Str)) = false := by simpa using e
      simp [List.lookup, q] at h'
  refine ⟨⟨e0.mod, S.kind, rfl, rfl, Nat.le_refl _, fun y z c h1 h2 => (cells h1).1.trans (cells h2).1.symm, fun y hy => ?_, fun y c h _ => Bool.noConfusion (show false = true from h), fun _ => hd, Around.frames_deeper e0.frames, .inr ⟨rfl, rfl⟩, fun b z => absurd z (noA b), e0.bs, e0.bsz, fun b _ _ => noA b, fun b z => absurd z (noA b), e0.funs, e0.frf⟩,
    rfl, e0.bare, Un.kept hk, ⟨_, hns, fun i y v h1 h2 h3 => ?_⟩, fun y c h => ?_, e0.hok.fresh (Nat.le_refl _), fun y c h => ?_, fun p hp => absurd (show p ∈ ([] : List (Addr × Obj)) from hp) (by simp), e0.hok.kept hk, ?_⟩
  · have hy : scope.names.lookup y = some .cell ∨ scope.names.lookup y = some .free := hy
    rcases hy with hy | hy
    · exact absurd rfl (S.nocell _ (PySem.mem_of_lookup hy))
    · have e := S.onlyFree y hy
      subst e
      exact ⟨cc, by show List.lookup ("__class__" : Str) [(("__class__" : Str), cc)] = some cc; simp [List.lookup]⟩
  · rw [List.getElem?_map] at h2
    cases e : vs[i]? with
    | none =>
      rw [e] at h2
      cases h2
    | some a =>
      rw [e] at h2
      cases h2
      obtain ⟨u, hu, rv⟩ := r.get e
      have hp : N[i]? = some y := h1
      refine ⟨u, rv, .inl ⟨S.par y (List.mem_of_getElem? hp), ?_⟩⟩
      have hlen := r.length
      -- the place of y in the reversed bindings
      have key : ∀ (N : List Str) (us : List Value) (i : Nat), N.Nodup → N[i]? = some y → us[i]? = some u → (N.zip us).reverse.lookup y = some u := by
        intro N
        induction N with
        | nil => intro us i _ h; simp at h
        | cons n N ih =>
          intro us i nd h1 h2
          cases us with
          | nil => simp at h2
          | cons u0 us =>
            rw [List.zip_cons_cons, List.reverse_cons]
            cases i with
            | zero =>
              simp at h1 h2
              subst h1 h2
              have hn : (N.zip us).reverse.lookup n = none := by
                have hnn := (List.nodup_cons.mp nd).1
                cases q : (N.zip us).reverse.lookup n with
                | none => rfl
                | some z =>
                  have hm := PySem.mem_of_lookup q
                  exact absurd (List.of_mem_zip (List.mem_reverse.mp hm)).1 hnn
              rw [List.lookup_append, hn]
              simp [List.lookup]
            | succ i =>
              have q := ih us i (List.nodup_cons.mp nd).2 (by simpa using h1) (by simpa using h2)
              rw [List.lookup_append, q]
              rfl
      exact key N us i S.nd hp hu
  · obtain ⟨_, rfl⟩ := cells h
    exact ⟨_, _, hk _ _ (e0.bs _ _ hcb).1, rfl⟩
  · obtain ⟨_, rfl⟩ := cells h
    exact (e0.bs _ _ hcb).2
  · show (vs.map some).length = N.length
    rw [List.length_map, hl]
end

/-! ### super().__init__(text) on an exception that is being made -/
/-- what the written part says: the class at C that is made, the class at D in whose body the __init__ stands (here the same) -/
structure SupC (prog : Program) (K : PySem.W.Frag) (mg : Str → Option Value) (C : Addr) : Prop where
  oex : OexC K C
  along : ∃ nm q N bs bm sn sub ab col dd k0 k1 k2 k3 k5, K.lookup C = some (excClassObj nm q C N bs bm true sn sub ab col dd k0 k1 k2 k3 k5 "ValueError.__new__") ∧ PySem.HandSPX.refsVE bm = true ∧
    PySem.W.alongIn K "__init__" ((((Value.ref C :: bm).dropWhile (· != .ref C)).drop 1)) = some (some (.builtin "ValueError.__init__"))
  tp : PySem.W.nsIn K cStatics "thirdparty.any" = some none
  sup : mg "super" = none
  isVE : PySem.W.subIn K (.ref C) (.type "ValueError") = some true
  self : PySem.W.mroIn K C (.ref C) = some true
  htop : (prog.main.scope.names.lookup ("super" : Str)).isSome = false

theorem boot_super : bootBuiltins "super" = some (.type "super") := by first | boot_by_name | rfl | kernel_rfl

section
variable {X : Cx} {pins : List (Addr × Obj)} {σ : L2.St} {H : Hp} {s : Shared} {a C : Addr} {E : Value → Shared → Prop} {A : Around}
/-- the built-in __init__, bound: nothing of it is told -/
theorem bw_ok {us : List Value} {u : Addr} {Q : Value → Shared → Prop} (T : OexC X.K C) (I : Inv X pins σ H s) (e : H a = some (exo a C none)) (hu : s.heap.get? u = some (PySem.W.kxs_mw "ValueError.__init__" a)) (hl : us.length ≤ sizeLine) (h : ∀ s', Inv X pins σ H s' → Q .none s') :
    wpAny (model X.prog X.w) A (call (.ref u) us) Q E s := by
  obtain ⟨nm, q, N, bs, bm, sn, sub, ab, col, dd, k0, k1, k2, k3, k5, hC, hbm⟩ := T.cls
  obtain ⟨t1, ho⟩ := exo_at I.hok e
  have hCk := I.kIn _ _ hC
  obtain ⟨hp, g, d, t, os⟩ := s
  have fin : ∀ h' : Heap, (∀ b o, b ≠ a → hp.get? b = some o → h'.get? b = some o) → h'.get? a = some (PySem.HandSPX.excO C hp.objs.size) → h'.get? hp.objs.size = some (PySem.W.excTup us) → Q .none ⟨h', g, d, t, os⟩ := fun h' k hx _ => by
    have J := I.write (t' := t) (x := a) (e := a) (o := exo a C none) (by rw [e]; exact True.intro) (.inl rfl) k ⟨_, hx⟩ (exo_ok hx)
    have eu : upd H a (exo a C none) = H := by
      funext b
      by_cases hb : b = a
      · rw [hb, upd_same, e]
      · rw [upd_ne hb]
    rw [eu] at J
    exact h _ J
  refine wpAny_call (codeAny_of_tree ?_)
  show wpAny _ A.in1 (callAny (.ref u) ⟨us, []⟩) _ _ _
  simp only [callAny]
  refine wpAny_bind (wpAny_load hu ?_)
  simp only [PySem.W.kxs_mw, show (Value.type "method-wrapper" == Value.type "method" || Value.type "method-wrapper" == Value.type "builtin_function_or_method" || Value.type "method-wrapper" == Value.type "method-wrapper") = true by decide, if_true]
  refine PySem.W.KFB.if_so (by decide) ?_
  refine wpAny_bind (PySem.W.check_bound_init F.excBase_ValueError.toExcCallFacts hCk ho rfl ?_)
  refine wpAny_bind (wpAny_pure (wpAny_pure ?_))
  refine ⟨plainId_quiet F.excBase_ValueError.init.plain _, codeAny_builtin F.excBase_ValueError.initEntry ?_⟩
  exact PySem.W.exc_init_tree (cls := .ref C) (t0 := t1) (dv := none) (c2 := .none) (c3 := .none) (b4 := .bool false) ho hl fin
end

/-! ### the body: super().__init__(e); the rest -/
/-- the reading: e a text, then self is an exception that is being made, then the rest -/
def tSup (C : Addr) (te : TE) (t : TS) : TS := fun D σ H => te σ H fun v H1 => (∃ z, v = .str z) ∧ ∃ a, σ[0]? = some (some (.ref a)) ∧ H1 a = some (exo a C none) ∧ t D σ H1
abbrev supCall (e : Expr) (p0 p1 p2 p3 : Pos) : Expr := .Call (.Attribute (.Call (.Name "super" p0) [] [] p1) "__init__" p2) [e] [] p3
section
variable {CX : CXT} {P : Program} {w : World} {K : PySem.W.Frag} {mg : Str → Option Value} {base : Heap} {k : Nat} {N : List Str} {name qual : Str} {scope : Scope} {params : Arguments} {f cc cda C : Addr} {ar : Arg} {vsC : Array Value} {fileS : Str} {tf : Tok}
  {dV kV doc pm ct oc ccl cl : Value} {an od cdd cld : Option Addr} {osl ccs csl : Array (Option Value)} {e : Expr} {rest : List Stmt} {p0 p1 p2 p3 p4 : Pos} {sp : Sp} {pl : Addr → Sem Bool}
theorem fn_super (T : SupC P K mg C)
    (lk : K.lookup f = some ⟨oc, od, .func (PySem.W.ksFn name qual params (.Expr (supCall e p0 p1 p2 p3) p4 :: rest) scope dV kV doc pm an (.ref cda) ct cc), osl⟩) (hcd : PySem.W.codeIn K (.ref cda) qual = true)
    (hp : (params.posonlyargs ++ params.args).head? = some ar) (hself : N[0]? = some ar.arg)
    (hcode : K.lookup cda = some ⟨ccl, cdd, .fields vsC, ccs⟩) (hvs : vsC[2]? = some (.str fileS tf)) (hfile : ((P.main.file : Str) == fileS) = true)
    (hcell : K.lookup cc = some ⟨cl, cld, .cell (some (.ref C)), csl⟩)
    (S : SupScope N scope) (len : ∀ vs H Q E, sp vs H Q E → vs.length = N.length)
    (hsw : ∀ L, swapsWith (supCall e p0 p1 p2 p3) none p4.line (sEnv qual scope L f (.ref cda) cc) = pure false)
    (hev : ∀ L, eval (supCall e p0 p1 p2 p3) (sEnv qual scope L f (.ref cda) cc) = (do
      let ov ← attributeBase (.Call (.Name "super" p0) [] [] p1) "__init__" (sEnv qual scope L f (.ref cda) cc) (eval (.Call (.Name "super" p0) [] [] p1) (sEnv qual scope L f (.ref cda) cc))
      standAt p2.atName
      let (g, first) ← holding [ov] (getMethod ov "__init__" (pl L))
      callWith p3 g first (backTo p3 (starEach [e] (sEnv qual scope L f (.ref cda) cc))) []))
    (hst : ∀ L, starEach [e] (sEnv qual scope L f (.ref cda) cc) = [(false, eval e (sEnv qual scope L f (.ref cda) cc))])
    (hbody : ∀ (A : Around) (outer : List Env) (s : Shared) (H : Hp) (vs : List V) (Q : VK) (E : XK), Room k (A.deeper (sEnv qual scope s.heap.objs.size f (.ref cda) cc)) → sp vs H Q E →
      ∃ te t, PE (supCx CX P w K mg base N qual scope f (.ref cda) cc A outer s H E) e te ∧ PSs (supCx CX P w K mg base N qual scope f (.ref cda) cc A outer s H E) rest t ∧
        (∃ a, vs[0]? = some (V.ref a) ∧ H a = some (exo a C none)) ∧ tSup C te t { nx := fun _ H' => Q .non H', rt := Q } (vs.map some) H) :
    FnOk P w K mg base CX (k + 1) f (PySem.W.ksFn name qual params (.Expr (supCall e p0 p1 p2 p3) p4 :: rest) scope dV kV doc pm an (.ref cda) ct cc) N sp := by
  refine ⟨len, fun A outer s H args us vs Q E hr e0 hb r hsp => ?_⟩
  have hl := len _ _ _ _ hsp
  have KX : K.In s.heap := e0.mod.kin.keeps fun b o e => (e0.bs b o e).1
  have lim : s.heap.NoLimit := e0.mod.nolimit.keeps fun b o e => (e0.bs b o e).1
  refine PySem.ks_codeAny_call_defAt (binds := N.zip us) hr.depth (KX _ _ lk) rfl lim (PySem.W.codeRec_of KX hcd) rfl hb S.nocell (fun y hy => S.par y.1 (List.of_mem_zip hy).1) (fun h1 hns hk => ?_) S.co S.gen S.kind
  obtain ⟨te, t, pe, pss, ⟨a, hva, hHa⟩, hq⟩ := hbody A outer s H vs Q E (hr.deeper _) hsp
  have I : L2.Inv (supCx CX P w K mg base N qual scope f (.ref cda) cc A outer s H E) [] (vs.map some) H { s with heap := h1, toks := s.toks + (N.zip us).length } := sup_start S hr.hd e0 hl r hcell hns hk
  have fin : ∀ {σ' : L2.St} {H' : Hp} {v : V} {u : Value} {s' : Shared}, L2.Inv (supCx CX P w K mg base N qual scope f (.ref cda) cc A outer s H E) [] σ' H' s' → RelV v u → Q v H' → CE outer P w H s Q u s' :=
    fun {σ' H' v u s'} J rv q => ⟨v, H', J.os, J.bare, J.base, J.hok, rv, q⟩
  show PySem.wpAt _ _ _ (execs _ (sEnv qual scope s.heap.objs.size f (.ref cda) cc)) _ _ _
  refine PySem.ks_wpAt_execs_cons (PySem.ks_wpAt_Expr_any (PySem.ks_wpAt_MethodCall (pl := pl s.heap.objs.size) ?_ (hev _)) I.quiet (hsw _))
  obtain ⟨nm, q, N', bs, bm, sn, sub, ab, col, dd, k0, k1, k2, k3, k5, hC, hbm, hal⟩ := T.along
  have KX1 : K.In h1 := KX.keeps hk
  have hcl : PySem.W.clsIn K C = some { name := nm, bases := bs, mro := .ref C :: bm, ns := N', qualname := q, hasDict := true, slotNames := sn, subclasses := sub, abstract := ab, collection := col, hasDel := false } := by unfold PySem.W.clsIn; rw [hC] <;> rfl
  have e0' : (vs.map some)[0]? = some (some (V.ref a)) := by rw [List.getElem?_map, hva]; rfl
  -- self, a
  obtain ⟨m, hnm, hlm⟩ := id I.loc
  obtain ⟨uS, ruS, lkS⟩ := hlm 0 ar.arg (V.ref a) hself e0' (.inl (S.par _ (List.mem_of_getElem? hself)))
  obtain rfl : uS = Value.ref a := ruS
  have hma : m ar.arg = some (.ref a) := by
    rcases lkS with ⟨_, z⟩ | ⟨z, _⟩
    · exact z
    · have z' : scope.names.lookup ar.arg = some .cell ∨ scope.names.lookup ar.arg = some .free := z
      rw [S.par _ (List.mem_of_getElem? hself)] at z'
      rcases z' with z' | z' <;> cases z'
  obtain ⟨t1, ho⟩ := exo_at I.hok hHa
  obtain ⟨mb, hmb, hmb2⟩ := I.mod.blt
  refine PySem.ks_wpAt_super_base (env := sEnv qual scope s.heap.objs.size f (.ref cda) cc) S.sup S.cls (by decide) rfl (KX1 _ _ lk) rfl hp rfl (KX1 _ _ hcode) rfl hvs hfile T.htop ?_
  refine PySem.W.ks_loadName_global S.kind S.sup (Calls.loadGlobal_builtin (env := sEnv qual scope s.heap.objs.size f (.ref cda) cc) (I.mod.glob.keeps I.bk) T.sup (hmb.keeps I.bk) ((hmb2 _ (by decide +kernel)).trans boot_super) ⟨rfl, ?_⟩)
  refine wpAny_loadName_free S.kind S.cls rfl ⟨_, KX1 _ _ hcell, rfl⟩ ?_
  refine wpAny_loadName_local S.kind (S.par _ (List.mem_of_getElem? hself)) hnm hma ?_
  obtain ⟨oD, hD1, hD2⟩ : ∃ oD, h1.get? C = some oD ∧ oD.data = .cls { name := nm, bases := bs, mro := .ref C :: bm, ns := N', qualname := q, hasDict := true, slotNames := sn, subclasses := sub, abstract := ab, collection := col, hasDel := false } := ⟨_, KX1 _ _ hC, rfl⟩
  refine PySem.ks_wpAny_isType_cls hD1 hD2 ⟨rfl, ?_⟩
  refine PySem.ks_wpAny_call_super hD1 hD2 ho rfl (fun c e => nomatch e) (PySem.W.looks_mroIn KX1 T.self) (fun h2 eso kk => ?_)
  -- the super object stands; its method
  have I2 := I.kept (t' := s.toks + (N.zip us).length) kk
  have KX2 : K.In h2 := KX1.keeps kk
  have ho2 := kk _ _ ho
  have It : PySem.W.InstAt h2 a { cls := .ref C, dict := none, data := .fields #[.ref t1, .none, .none, .none, .bool false, .none] } C none := ⟨ho2, rfl, rfl, trivial⟩
  refine PySem.W.kxs_getMethod PySem.W.kxs_ValueError eso (PySem.W.looks_opaque KX2 T.tp) (l₀ := .ref C :: bm) (fun A Q E s k q => wpAny_bind ((PySem.W.looks_clsIn KX2 hcl) A _ E s k (wpAny_pure q))) rfl KX2 hal (It.type.andThen (PySem.W.looks_subIn KX2 T.isVE)) (PySem.W.ks_ne KX2 It hcl) (by decide) ?_
  have I3 := I2.kept (t' := s.toks + (N.zip us).length + 1) (h' := h2.push (PySem.W.kxs_mw "ValueError.__init__" a)) fun b o e => Heap.get?_push_of_some _ e
  have hu : (h2.push (PySem.W.kxs_mw "ValueError.__init__" a)).get? h2.objs.size = some (PySem.W.kxs_mw "ValueError.__init__" a) := Heap.get?_push_at rfl rfl
  have I4 := I3.pins_of (pins' := [(h2.objs.size, PySem.W.kxs_mw "ValueError.__init__" a)]) (fun p hp => by
    obtain rfl := List.mem_singleton.mp hp
    exact ⟨hu, I2.hok.fresh (Nat.le_refl _), Nat.ne_of_gt I2.lt, I2.nofs (Nat.le_refl _), fun v z => nomatch z⟩)
  show wpAny _ _ (callWith p3 (.ref h2.objs.size) [] (backTo p3 (starEach [e] (sEnv qual scope s.heap.objs.size f (.ref cda) cc))) []) _ _ _
  have pa : PA (supCx CX P w K mg base N qual scope f (.ref cda) cc A outer s H E) [e] (tCons te tNil) := pa_cons pe pa_nil (hst _)
  have ru := pa.run p3 _ _ (vs.map some) H (fun ws H1 => match ws with | [v] => (∃ z, v = .str z) ∧ ∃ a, (vs.map some)[0]? = some (some (.ref a)) ∧ H1 a = some (exo a C none) ∧ t { nx := fun _ H' => Q .non H', rt := Q } (vs.map some) H1 | _ => False) I4 hq
  have ehs : starEach [e] (supCx CX P w K mg base N qual scope f (.ref cda) cc A outer s H E).env = [(false, eval e (sEnv qual scope s.heap.objs.size f (.ref cda) cc))] := hst _
  rw [ehs] at ru
  rw [hst]
  refine PySem.W.kxs_callWith (i := "ValueError.__init__") (x := a) rfl (Calls.evalArgs_plain (thn ru fun ws s5 hw => ?_))
  obtain ⟨vs5, H5, I5, r5, q5⟩ := hw
  have hu5 : s5.heap.get? h2.objs.size = some (PySem.W.kxs_mw "ValueError.__init__" a) := (I5.pin (h2.objs.size, PySem.W.kxs_mw "ValueError.__init__" a) (List.mem_append.mpr (.inr (List.mem_singleton.mpr rfl)))).1
  refine ⟨hu5, ?_⟩
  cases r5 with
  | nil => exact q5.elim
  | @cons v5 u5 vr ur rv rr =>
    cases rr with
    | cons _ _ => exact q5.elim
    | nil =>
      obtain ⟨_, a', ea', hH5, q5⟩ := q5
      have ea : a' = a := by
        have z := ea'.symm.trans e0'
        cases z
        rfl
      subst ea
      refine bw_ok (X := supCx CX P w K mg base N qual scope f (.ref cda) cc A outer s H E) T.oex I5 hH5 hu5 (by show 1 ≤ sizeLine; rw [sizeLine_eq]; decide) fun s6 I6 => ?_
      have I7 : L2.Inv (supCx CX P w K mg base N qual scope f (.ref cda) cc A outer s H E) [] (vs.map some) H5 s6 := I6.unpinned (pins := []) (pl := [(h2.objs.size, PySem.W.kxs_mw "ValueError.__init__" a')])
      show PySem.wpAt _ _ _ (execs rest _) _ _ _
      refine PySem.wpAt_of_wpAny (wpAny_mono (pss.run [] s6 (vs.map some) H5 _ I7 q5) (fun fl s' hs => ?_) fun _ _ x => x)
      cases fl with
      | ret u =>
        obtain ⟨v, σ', H', J, rv, q⟩ := hs
        exact fin J rv q
      | next =>
        obtain ⟨σ', H', J, q⟩ := hs
        exact fin (v := V.non) (u := Value.none) J rfl q
      | brk =>
        obtain ⟨_, _, _, q⟩ := hs
        exact False.elim q
      | cont =>
        obtain ⟨_, _, _, q⟩ := hs
        exact False.elim q
end
end Kw



set_option Elab.async false
set_option linter.all false
set_option maxRecDepth 100000
set_option maxHeartbeats 4000000
/-! More operators: `in` by an own `__contains__`, `==` by an own `__eq__`, enumerate(tuple), `in` over a tuple of data, list.count of bools. -/
namespace Kw
open PySem PySem.Spec PyProof.Rows L2
section
variable {X : Cx} {CX : CXT} {C f : Addr} {fd : FuncData} {k : Nat} {ps : List Str} {sp : Sp} {E : XK}
/-- x in o, o an object of C whose __contains__ keeps sp and gives a bool -/
def rInOwn (C : Addr) (sp : Sp) (E : XK) : R2 := fun x y H Q => ∃ b dx fs, y = .ref b ∧ H b = some (.ins C dx fs) ∧ sp [y, x] H (fun v H' => ∃ k, v = .bl k ∧ Q (.bl k) H') E
def rNotInOwn (C : Addr) (sp : Sp) (E : XK) : R2 := fun x y H Q => ∃ b dx fs, y = .ref b ∧ H b = some (.ins C dx fs) ∧ sp [y, x] H (fun v H' => ∃ k, v = .bl k ∧ Q (.bl (!k)) H') E
theorem op_inOwn (F : FnOk X.prog X.w X.K X.mg X.base CX k f fd ps sp) (hs : PySem.W.findIn X.K (.ref C) "__contains__" = some (some (.ref f))) (hf : PySem.W.isFn X.K (.ref f) = true) (hr : Room k X.A) (hb : Binds X.K fd ps []) (hx : Passes CX X E) :
    OpR X (compareOp .In) (rInOwn C sp E) := by
  intro pins s σ H x y v u Q I rx ry h
  obtain ⟨b, dx, fs, rfl, hH, hsp⟩ := h
  cases ry
  obtain ⟨mA, J, _⟩ := ins_get I.hok hH
  obtain ⟨od, J, _⟩ := J.look
  obtain ⟨m, hF⟩ := I.fr
  refine PySem.W.in_K hF I.ok.mod.kin J hs hf ?_
  refine thn (run_fn (vs := [.ref b, x]) (dvs := []) F hr hb .nil hx I (.cons rfl (.cons rx .nil)) hsp) fun w s1 hw => ?_
  obtain ⟨z, H1, I1, rz, kk, ez, q⟩ := hw
  subst ez
  obtain rfl : w = Value.bool kk := rz
  exact wpAny_truthy_bool ⟨V.bl _, H1, I1, rfl, q⟩
theorem op_notInOwn (F : FnOk X.prog X.w X.K X.mg X.base CX k f fd ps sp) (hs : PySem.W.findIn X.K (.ref C) "__contains__" = some (some (.ref f))) (hf : PySem.W.isFn X.K (.ref f) = true) (hr : Room k X.A) (hb : Binds X.K fd ps []) (hx : Passes CX X E) :
    OpR X (compareOp .NotIn) (rNotInOwn C sp E) := by
  intro pins s σ H x y v u Q I rx ry h
  obtain ⟨b, dx, fs, rfl, hH, hsp⟩ := h
  cases ry
  obtain ⟨mA, J, _⟩ := ins_get I.hok hH
  obtain ⟨od, J, _⟩ := J.look
  obtain ⟨m, hF⟩ := I.fr
  refine PySem.W.notIn_K hF I.ok.mod.kin J hs hf ?_
  refine thn (run_fn (vs := [.ref b, x]) (dvs := []) F hr hb .nil hx I (.cons rfl (.cons rx .nil)) hsp) fun w s1 hw => ?_
  obtain ⟨z, H1, I1, rz, kk, ez, q⟩ := hw
  subst ez
  obtain rfl : w = Value.bool kk := rz
  exact wpAny_truthy_bool ⟨V.bl _, H1, I1, rfl, q⟩
end

/-! ### enumerate(tuple) -/
theorem meets_enumerate_newT (l : Addr) (items : Array Value) :
    Meets (Builtin.«enumerate.__new__» ⟨[.type "enumerate", .ref l], []⟩) (fun _ R s => s.heap.IsTuple l items ∧
      R (.ok (.ret (.ref (s.heap.push { cls := .type "tuple_iterator", data := .fields #[.ref l, .int 0 0] }).objs.size)))
        { s with heap := (s.heap.push { cls := .type "tuple_iterator", data := .fields #[.ref l, .int 0 0] }).push { cls := .type "enumerate", data := .fields #[.none, .bool false, .ref s.heap.objs.size, rawInt 0, .none, .none] } }) :=
  .of_wp fun prog w A R s h => by
    obtain ⟨hp, g, d, tk, os⟩ := s; obtain ⟨hL, h⟩ := h
    have hsub := sub_enumerate
    have q1 : ∀ {A' : Around} {E : Value → Shared → Prop} {Q : Value → Shared → Prop}, Q (.ref hp.objs.size) ⟨hp.push { cls := .type "tuple_iterator", data := .fields #[.ref l, .int 0 0] }, g, d, tk, os⟩ → wpAny (model prog w) A' (pyIter (.ref l)) Q E ⟨hp, g, d, tk, os⟩ :=
      fun q => wpAny_pyIter_tuple hL q
    wp_walk using q1
    refine wpAny_stack_any fun st => wpAny_pure ?_
    split
    · rename_i c _ _ _ _ _
      cases (c == Value.type "enumerate")
      · wp_walk using q1
        exact ⟨_, rfl, h⟩
      · wp_walk using q1
        exact ⟨_, rfl, h⟩
    · wp_walk using q1
      exact ⟨_, rfl, h⟩
theorem call_enumerate_tuple {prog : Program} {w : World} {A : Around} {E : Value → Shared → Prop} {s : Shared} {l : Addr} {items : Array Value} {Q : Value → Shared → Prop} (hL : s.heap.IsTuple l items)
    (h : ∀ h', IsEnum h' (s.heap.objs.size + 1) s.heap.objs.size 0 .none → h'.IsTupleIter s.heap.objs.size l 0 → h'.objs.size = s.heap.objs.size + 2 →
      (∀ b o, s.heap.get? b = some o → h'.get? b = some o) → Q (.ref (s.heap.objs.size + 1)) { s with heap := h' }) :
    wpAny (model prog w) A (call (.type "enumerate") [.ref l]) Q E s := by
  refine callType_new F.called_enumerate (by decide) (F.typeCall_enumerate_1 _) (F.newCall_enumerate_1 _) (fun obj => F.args_object_init_2 obj _) F.entry_enumerate_new
    (meets_enumerate_newT l items) ⟨hL, ?_⟩
  have hz : (s.heap.push { cls := .type "tuple_iterator", data := .fields #[.ref l, .int 0 0] }).objs.size = s.heap.objs.size + 1 := Heap.size_push ..
  show _ ∧ _
  rw [hz]
  have he : IsEnum ((s.heap.push { cls := .type "tuple_iterator", data := .fields #[.ref l, .int 0 0] }).push
      { cls := .type "enumerate", data := .fields #[.none, .bool false, .ref s.heap.objs.size, rawInt 0, .none, .none] }) (s.heap.objs.size + 1) s.heap.objs.size 0 .none := by
    have := Heap.get?_push_size (s.heap.push { cls := .type "tuple_iterator", data := .fields #[.ref l, .int 0 0] })
      (o := { cls := .type "enumerate", data := .fields #[.none, .bool false, .ref s.heap.objs.size, rawInt 0, .none, .none] }) rfl
    rw [hz] at this; exact this
  refine ⟨⟨_, he, rfl⟩, h _ he ⟨_, Heap.get?_push_of_some _ (Heap.get?_push_size _ rfl), rfl, rfl⟩ (by rw [Heap.size_push, hz]) fun b o x => Heap.get?_push_of_some _ (Heap.get?_push_of_some _ x)⟩
/-- the tuple at a, each item in a new pair -/
def Itet (K : PySem.W.Frag) (a : Addr) : It :=
  ⟨fun i H => ∃ (xs : List V) (x : V), SqT K H a xs ∧ xs[i]? = some x, fun i H v H' => ∃ T x, v = .ref T ∧ H T = none ∧ H' = upd H T (.tup [.int (i : Nat), x]) ∧ ∀ xs, SqT K H a xs → xs[i]? = some x, fun i H => ∃ xs : List V, SqT K H a xs ∧ xs.length ≤ i⟩
theorem turn_enumT {P : Program} {w : World} {K : PySem.W.Frag} {elts : List Expr} {kk : Nat} {tpos : Pos} (a e it : Addr) :
    Turn P w K (.Tuple elts kk tpos) (Itet K a) [e, it] e (fun i h => (∃ old, IsEnum h e it ((i : Nat) : Int) old) ∧ h.IsTupleIter it a i ∧ e ≠ it) where
  mem := by simp
  obj := fun i h st b hb => by
    obtain ⟨⟨old, he⟩, ⟨o, ho, hc, hd⟩, _⟩ := st
    have e' : b = e ∨ b = it := by simpa using hb
    rcases e' with z | z
    · rw [z]; exact ⟨_, he, fun v q => nomatch q⟩
    · rw [z]; exact ⟨o, ho, fun v q => by rw [hd] at q; cases q⟩
  keep := fun i h h' st k => let ⟨⟨old, he⟩, hi, hne⟩ := st; ⟨⟨old, k e (by simp) _ he⟩, hi.at fun o q => k it (by simp) o q, hne⟩
  item := by
    intro X hP hw hK hc i pins s σ H E I hf st hg
    subst hP hw hK
    obtain ⟨⟨old, he⟩, hit, hne⟩ := st
    obtain ⟨xs, x, hq, hx⟩ := hg
    obtain ⟨its, rv, p, hz⟩ := I.tuple hq
    obtain ⟨u, hu, ru⟩ := rv.get hx
    have hel : e < s.heap.objs.size := Heap.lt_size he
    have hil : it < s.heap.objs.size := by obtain ⟨_, q, _⟩ := hit; exact Heap.lt_size q
    have hat : a ≠ it := fun z => by
      obtain ⟨o1, q1, c1, _⟩ := p
      obtain ⟨o2, q2, c2, _⟩ := hit
      rw [z, q2] at q1
      have q3 := Option.some.inj q1
      subst q3
      rw [c2] at c1
      have c3 : Value.type "tuple_iterator" = Value.type "tuple" := c1
      revert c3
      decide
    have hea : e ≠ a := fun z => by
      obtain ⟨o1, q1, c1, _⟩ := p
      rw [← z] at q1
      have q2 := Option.some.inj (he.symm.trans q1)
      subst q2
      have c3 : Value.type "enumerate" = Value.type "tuple" := c1
      revert c3
      decide
    have hlt : i < its.toArray.size := by
      have z := (List.getElem?_eq_some_iff.mp hu).1
      simpa using z
    refine wpAny_pyNext_enum_itemD (Draws.tuple (prog := X.prog) (w := X.w) (A := X.A.in1) (show X.A.in1.handled = none from I.ok.hd hc) it a hat its.toArray) he ⟨hit, p⟩ hlt hne (by simp [hne, hea]) fun x' h' tk hP ho hst' hT hsz hk => ?_
    have ex : x' = u := by
      have z : its[i]? = some x' := by simpa using hP
      rw [hu] at z
      exact (Option.some.inj z).symm
    subst ex
    refine ⟨_, rfl, wpAny_letOwnedTupleGo_enum (s := { s with heap := h', toks := tk + 1 }) ho fun h'' he' sb => ?_⟩
    have hT2 : h''.get? s.heap.objs.size = some { cls := .type "tuple", data := .seq #[.int i tk, x'] } := (sb.2 _ (Nat.ne_of_gt hel)).trans hT
    have new : ObjOk X.prog X.w (upd H s.heap.objs.size (.tup [.int (i : Nat), x])) h'' s.heap.objs.size (.tup [.int (i : Nat), x]) :=
      ⟨by show 2 ≤ sizeLine; decide, [.int i tk, x'], .cons ⟨_, rfl⟩ (.cons ru .nil), ⟨_, hT2, rfl, _, rfl⟩⟩
    have I1 : L2.Inv X pins σ (upd H s.heap.objs.size (.tup [.int (i : Nat), x])) { s with heap := h'', toks := tk + 1 } :=
      I.turnedNew (ch := [e, it]) (fun b ob hb q => (sb.2 b (fun z => hb (by simp [z]))).trans (hk b ob (fun z => hb (by simp [z])) (fun z => hb (by simp [z])) q)) hf (Nat.le_refl _) new
    refine ⟨.ref s.heap.objs.size, _, I1, rfl, ⟨_, x, rfl, I.hok.fresh (Nat.le_refl _), rfl, fun ys hy => by rw [I.tuple_inj hy hq]; exact hx⟩, ⟨⟨x', ?_⟩, hst'.1.at fun o q => (sb.2 it (Ne.symm hne)).trans q, hne⟩, fun b hb => ?_⟩
    · have e1 : ((i + 1 : Nat) : Int) = (i : Int) + 1 := by omega
      rw [e1]; exact he'
    · have hb' : b < s.heap.objs.size := by
        have e' : b = e ∨ b = it := by simpa using hb
        rcases e' with z | z
        · rw [z]; exact hel
        · rw [z]; exact hil
      rw [upd_ne (Nat.ne_of_lt hb')]
      exact (hf b hb).1
  done := by
    intro X hP hw hK hc i pins s σ H E I hf st hg
    subst hP hw hK
    obtain ⟨⟨old, he⟩, hit, hne⟩ := st
    obtain ⟨xs, hq, hx⟩ := hg
    obtain ⟨its, rv, p, hz⟩ := I.tuple hq
    have hat : a ≠ it := fun z => by
      obtain ⟨o1, q1, c1, _⟩ := p
      obtain ⟨o2, q2, c2, _⟩ := hit
      rw [z, q2] at q1
      have q3 := Option.some.inj q1
      subst q3
      rw [c2] at c1
      have c3 : Value.type "tuple_iterator" = Value.type "tuple" := c1
      revert c3
      decide
    obtain ⟨f0, f1, f2, f3, f4, f5⟩ := hf it (by simp)
    have hl := rv.length
    have hT : s.TypeIs (.ref e) "enumerate" := ⟨_, he, rfl⟩
    unfold pyNext
    refine wpAny_bind (wpAny_attempt (wpAny_callSpecial?_slot (name := Str.ofString "__next__") hT F.slot_enumerate_next
      (wpAny_call_entry F.slot_enumerate_next hT F.entry_enumerate_next ?_ (F.args_enumerate_next_1 _))))
    show wpAny _ _ (field (.ref e) 2 >>= _) _ _ _
    refine wpAny_bind (wpAny_field he rfl (x := .ref it) rfl ?_)
    refine wpAny_bind (wpAny_nextOf_tuple_end (show X.A.in1.handled = none from I.ok.hd hc) hit p (by simp; omega) fun h' x he' hx' => ?_)
    obtain ⟨o, ho, hcx⟩ := hx'
    refine wpAny_bind (wpAny_isInstance (T := "StopIteration") (b := true) ⟨o, ho, hcx⟩ isSubtype_stop ?_)
    exact wpAny_pure ⟨rfl, I.turned (t' := s.toks) (fun b o hb q => he' b o hb q) f0 f1 f3 f4 f5⟩
  self := fun A i s Q E st h => let ⟨⟨_, he⟩, _⟩ := st; wpAny_pyIter_enum he h

def iEnumT (K : PySem.W.Frag) (ta : TA) : TI := fun σ H R => ta σ H fun vs H1 => ∃ a xs, vs = [.ref a] ∧ SqT K H1 a xs ∧ R (Itet K a) H1
theorem pi_enumT {X : Cx} {e : Expr} {ta : TA} {p pos tpos : Pos} {elts : List Expr} {kk : Nat} (hg : Gl X "enumerate") (hm : X.mg "enumerate" = none) (ha : PA X [e] ta) (hs : starEach [e] X.env = [(false, eval e X.env)] := by rfl) :
    PI X (.Tuple elts kk tpos) (.Call (.Name "enumerate" p) [e] [] pos) (iEnumT X.K ta) := by
  refine ⟨fun pins s σ H R I h => ?_⟩
  refine Call_ (ld_blt I hg hm boot_enumerate (PyProof.Rows.callWith_type1 (thn (ha.run pos pins s σ H _ I h) fun us s1 ⟨vs, H1, I1, r1, q1⟩ => ?_) hs rfl))
  obtain ⟨a, xs, ex, hq, q⟩ := q1
  subst ex
  cases r1 with
  | cons r rr =>
    cases rr
    cases r
    obtain ⟨its, rv, p', hz⟩ := I1.tuple hq
    refine call_enumerate_tuple p' fun h' he hit hsz hk => wpAny_pyIter_enum he ?_
    have I2 : L2.Inv X pins σ H1 { s1 with heap := h' } := I1.kept (t' := s1.toks) hk
    refine ⟨s1.heap.objs.size + 1, [s1.heap.objs.size + 1, s1.heap.objs.size], _, _, H1, rfl, I2, turn_enumT a (s1.heap.objs.size + 1) s1.heap.objs.size, ⟨⟨.none, he⟩, hit, Nat.succ_ne_self _⟩, fun b hb => ?_, q⟩
    have e' : b = s1.heap.objs.size + 1 ∨ b = s1.heap.objs.size := by simpa using hb
    have hle : s1.heap.objs.size ≤ b := by
      rcases e' with z | z
      · rw [z]; exact Nat.le_add_right _ _
      · rw [z]; exact Nat.le_refl _
    exact I1.fpOk hle (I1.hok.fresh hle)
/-- a for over enumerate(tuple), the invariant Pv by the turn -/
theorem for_enumT {K : PySem.W.Frag} {a : Addr} {xs : List V} {g : TG} {tb : TS} {D : Ends} {σ : L2.St} {H : Hp} (Pv : Nat → L2.St → Hp → Prop) (h0 : Pv 0 σ H) (hl : ∀ i σ H, i ≤ xs.length → Pv i σ H → SqT K H a xs)
    (hs : ∀ i x σ H T, xs[i]? = some x → Pv i σ H → H T = none → g (.ref T) σ (upd H T (.tup [.int (i : Nat), x])) fun σ2 H2 => tb { D with nx := Pv (i + 1), ct := Pv (i + 1), bk := D.nx } σ2 H2)
    (hd : ∀ σ H, Pv xs.length σ H → D.nx σ H) :
    ∃ W : Nat → Nat → L2.St → Hp → Prop, (∃ m, W 0 m σ H) ∧ ∀ i m σ H, W i m σ H →
      ((Itet K a).stop i H ∧ D.nx σ H) ∨ ((Itet K a).go i H ∧ ∃ N : L2.St → Hp → Prop, (∀ σ' H', N σ' H' → ∃ m', m' < m ∧ W (i + 1) m' σ' H') ∧ ∀ x H', (Itet K a).yld i H x H' → g x σ H' fun σ2 H2 => tb { D with nx := N, ct := N, bk := D.nx } σ2 H2) := by
  refine ⟨fun i m σ H => m = xs.length - i ∧ i ≤ xs.length ∧ Pv i σ H, ⟨xs.length, by simp, Nat.zero_le _, h0⟩, ?_⟩
  rintro i m σ H ⟨rfl, hi, p⟩
  have q := hl i σ H hi p
  by_cases hlt : i < xs.length
  · refine .inr ⟨⟨xs, xs[i], q, by simp [hlt]⟩, Pv (i + 1), fun σ' H' p' => ⟨xs.length - (i + 1), by omega, rfl, hlt, p'⟩, fun x H' y => ?_⟩
    obtain ⟨T, x', ev, hT, eH, hx⟩ := y
    subst ev eH
    exact hs i x' σ H T (hx xs q) p hT
  · have e : i = xs.length := by omega
    subst e
    exact .inl ⟨⟨xs, q, Nat.le_refl _⟩, hd σ H p⟩
end Kw



set_option Elab.async false
set_option linter.all false
set_option maxRecDepth 100000
set_option maxHeartbeats 4000000
namespace Kw
open PySem PySem.Spec PyProof.Rows L2
section
variable {X : Cx}
/-- x in t, t a tuple of data of any depth -/
def rInDT (K : PySem.W.Frag) (neg : Bool) : R2 := fun x y H Q => ∃ d ds, Dp K H x d ∧ Dp K H y (.tuple ds) ∧ SeqAt.shaped d = true ∧ SeqAt.shaped (.tuple ds) = true ∧ Q (.bl (if neg then !(ds.any fun z => PyData.eqv z d) else ds.any fun z => PyData.eqv z d)) H
theorem op_inDT (hu : X.A.units + 65 < cLine) : OpR X (compareOp .In) (rInDT X.K false) := by
  intro pins s σ H x y v u Q I rx ry h
  obtain ⟨d, ds, hd, he, sd, se, q⟩ := h
  obtain ⟨as, r1⟩ := Dp.reads I d x v hd rx
  obtain ⟨bs, r2⟩ := Dp.reads I (.tuple ds) y u he ry
  exact SeqAt.in_tuple_reads r2 r1 (SeqAt.canLay_of_shaped se) (SeqAt.canLay_of_shaped sd) (room_in_shaped sd hu) ⟨.bl _, H, I, rfl, q⟩
theorem op_notInDT (hu : X.A.units + 65 < cLine) : OpR X (compareOp .NotIn) (rInDT X.K true) := by
  intro pins s σ H x y v u Q I rx ry h
  obtain ⟨d, ds, hd, he, sd, se, q⟩ := h
  obtain ⟨as, r1⟩ := Dp.reads I d x v hd rx
  obtain ⟨bs, r2⟩ := Dp.reads I (.tuple ds) y u he ry
  exact SeqAt.notIn_tuple_reads r2 r1 (SeqAt.canLay_of_shaped se) (SeqAt.canLay_of_shaped sd) (room_in_shaped sd hu) ⟨.bl _, H, I, rfl, q⟩
/-- xs.count(b), xs a list of bools -/
def rCntB (K : PySem.W.Frag) : V → List V → Hp → VK → Prop := fun x xs H Q => ∃ (p : Addr) (bs : List Bool) (b : Bool), x = .ref p ∧ xs = [.bl b] ∧ SqL K H p (bs.map V.bl) ∧ Q (.int (bs.count b : Nat)) H
def eqb (b : Bool) (v : Value) : Bool := match v with
  | .bool c => c == b
  | _ => false
theorem mt_countB : MtR X "list.count" (rCntB X.K) := by
  intro pins s σ H x xs v us Q I rx rxs h
  obtain ⟨p, bs, b, rfl, rfl, hs, q⟩ := h
  cases rx
  obtain ⟨u, rfl, ru⟩ := rxs.one
  obtain rfl : u = Value.bool b := ru
  obtain ⟨its, rv, ⟨⟨cls, dd, data, sl⟩, n, ho, hc, hdn, hd⟩, hlen⟩ := I.list hs
  simp only at hc hd
  subst hc hd
  have hi : its = bs.map Value.bool := rv.bls
  refine call_meets PySem.F.slot_list_count ⟨_, ho, rfl⟩ PySem.F.entry_list_count (PySem.F.args_list_count_2 _ _)
    (SeqAt.list_countAt p its.toArray n dd sl (.bool b) (eqb b)) ⟨ho, fun y hy => ?_, ?_⟩
  · have hy' : y ∈ its := by simpa using hy
    rw [hi] at hy'
    obtain ⟨c, _, rfl⟩ := List.mem_map.mp hy'
    have g := eqAt_V (A := X.A.in1) (s := s) (y := V.bl c) (x := V.bl b) (u := Value.bool c) (v := Value.bool b) rfl rfl rfl rfl
    have e : eqV (V.bl c) (V.bl b) = eqb b (Value.bool c) := by cases b <;> cases c <;> rfl
    rw [← e]
    exact g
  · have ec : its.toArray.toList.countP (eqb b) = bs.count b := by
      rw [hi]
      show (bs.map Value.bool).countP (eqb b) = bs.count b
      rw [List.countP_map]
      rfl
    refine ⟨.int (bs.count b : Nat), H, I.tok _, ⟨s.toks, ?_⟩, q⟩
    show Value.int ((its.toArray.toList.countP (eqb b) : Nat) : Int) s.toks = Value.int ((bs.count b : Nat) : Int) s.toks
    rw [ec]
end

/-! ### isinstance of a caught error of an own class, with a dict of its own or without -/
section
open PySem.W
variable {prog : Program} {w : World} {A : Around} {E : Value → Shared → Prop} {s : Shared} {K : Frag} {x D : Addr} {ox : Obj}
theorem findObj_dataO {C : Addr} {name : Str} {a g : Value} {od : Option Obj} (hc : (clsIn K C).isSome = true) (ha : findIn K (.ref C) name = some (some a)) (hg : specialIn K a "__get__" = some (some g)) (ht : takesIn K a = some true) : findObj K C od name = some (.bind g a) := by
  obtain ⟨cd, hc⟩ := Option.isSome_iff_exists.mp hc
  unfold findObj
  rw [hc, Option.bind_some, ha, Option.bind_some]
  simp [hg, ht]
theorem kin_classO {od : Option Obj} {Q : Option Value → Shared → Prop} (hga : findIn K (.ref D) "__getattribute__" = some (some (.builtin "BaseException.__getattribute__"))) (hgt : findIn K (.ref D) "__getattr__" = some none) (hsub : subIn K (.ref D) (.type "BaseException") = some true)
    (hdct : hasDictIn K D = true) (ha : findIn K (.ref D) "__class__" = some (some (.builtin "object.__class__")))
    (hn : specialIn K (.builtin "object.__class__") "__get__" = some (some (.builtin "getset_descriptor.__get__"))) (htk : takesIn K (.builtin "object.__class__") = some true) (hm : mroIn K D (.type "object") = some true)
    (X : K.In s.heap) (I : InstAt s.heap x ox D od) (h : Q (some (.ref D)) { s with toks := s.toks + 1 }) : wpAny (model prog w) A (getAttr? (.ref x) "__class__") Q E s := by
  have hf : findObj K D od "__class__" = some (.bind (.builtin "getset_descriptor.__get__") (.builtin "object.__class__")) := findObj_dataO (by obtain ⟨cd, hc, _⟩ := any_some hdct; rw [hc]; rfl) ha hn htk
  obtain ⟨hp, g, d, t, os⟩ := s
  have L0 := I.type (M := model prog w)
  have L1 := looks_findIn (M := model prog w) X hga
  have L2' := looks_findIn (M := model prog w) X hgt
  have L3 := looks_find (M := model prog w) X I hf
  have sub : Looks (model prog w) hp (isInstance (.ref x) (.type "BaseException")) true := L0.andThen (looks_subIn X hsub)
  have hx0 : (false && onTheHeap (Value.builtin "BaseException.__getattribute__")) = false := rfl
  have hx2 : (Value.builtin "BaseException.__getattribute__" == Value.builtin "object.__getattribute__") = false := by decide +kernel
  have hx1 : (onTheHeap (Value.ref D) && Value.builtin "BaseException.__getattribute__" == Value.builtin "object.__getattribute__") = false := by rw [hx2]; rfl
  unfold getAttr? getAttrBy? getAttrBy
  refine wpAny_bind (wpAny_mkText (wpAny_bind (wpAny_attempt (wpAny_holding (wpAny_bind (L0.at (wpAny_bind (L1.at ?_))))))))
  show wpAny _ _ (if (onTheHeap (Value.ref D) && Value.builtin "BaseException.__getattribute__" == Value.builtin "object.__getattribute__") = true then _ else _) _ _ _
  rw [hx1, if_neg Bool.false_ne_true]
  unfold getAttrByItsOwn hookBefore
  refine wpAny_bind ?_
  rw [if_pos (show onTheHeap (Value.ref D) = true from rfl)]
  refine L2'.at ?_
  refine wpAny_bind (wpAny_attempt (wpAny_holding ?_))
  unfold callGetattribute
  rw [hx0, if_neg Bool.false_ne_true]
  unfold boundAndCalled
  rw [PySem.F.excAttr_ValueError.ga.bind (.ref x)]
  refine wpAny_bind (wpAny_pure ?_)
  show wpAny _ _ (call (.builtin "BaseException.__getattribute__") [.ref x, .str "__class__" t]) _ _ _
  refine wpAny_call (PySem.codeAny_call_builtin PySem.F.excAttr_ValueError.ga.plain PySem.F.entry_bexc_ga ?_)
  refine @check_slot (model prog w) _ _ ⟨hp, g, d, t + 1, os⟩ "BaseException.__getattribute__" "BaseException" "__getattribute__" (.ref x) [.str "__class__" t] [] _ (by decide +kernel) (by decide +kernel) sub (PySem.F.args_bexc_ga (.ref x) (.str "__class__" t)) ?_
  unfold Builtin.«object.__getattribute__»
  refine wpAny_bind (wpAny_of_eq (a := ((Value.ref x : Value), [Value.str "__class__" t])) (by first | rfl | (simp only [slotArgs]; rfl)) ?_)
  refine wpAny_bind (wpAny_pure (wpAny_bind (L0.at (wpAny_bind (L3.at ?_)))))
  show wpAny _ _ (holding [Value.builtin "object.__class__"] (call (.builtin "getset_descriptor.__get__") [.builtin "object.__class__", .ref x, .ref D]) >>= ret) _ _ _
  refine wpAny_bind (wpAny_holding (wpAny_call (class_get (s := ⟨hp, g, d, t + 1, os⟩) (ox := ox) (od := od) X I hm ?_)))
  refine wpAny_pure ?_
  show wpAny _ _ (handedOut (.ref D)) _ _ _
  rw [handedOut_of (v := .ref D) rfl]
  first
    | exact wpAny_pure (wpAny_pure h)
    | exact wpAny_pure h
    | exact wpAny_pure (wpAny_bind (wpAny_pure (wpAny_pure h)))
theorem kitx_excO (hga : findIn K (.ref D) "__getattribute__" = some (some (.builtin "BaseException.__getattribute__"))) (hgt : findIn K (.ref D) "__getattr__" = some none) (hsub : subIn K (.ref D) (.type "BaseException") = some true) (hdct : hasDictIn K D = true) (ha : findIn K (.ref D) "__class__" = some (some (.builtin "object.__class__")))
    (hn : specialIn K (.builtin "object.__class__") "__get__" = some (some (.builtin "getset_descriptor.__get__"))) (htk : takesIn K (.builtin "object.__class__") = some true) (hm : mroIn K D (.type "object") = some true) :
    KitX K (.ref x) (.ref D) (fun h => ∃ od, InstAt h x ox D od) where
  ty := fun _ _ _ ⟨_, I⟩ => I.type
  it := fun _ _ X _ => by
    obtain ⟨cdD, hcD, _⟩ := any_some hdct
    unfold clsIn at hcD
    split at hcD
    · rename_i c' d' cd' sl' ho
      intro A' Q' E' s' k q
      unfold isType loadHead
      exact wpAny_bind (wpAny_loadPart (k _ _ (X _ _ ho)) (wpAny_pure q))
    · cases hcD
  ne := fun h tp dd its n sl X htp => by
    obtain ⟨cdD, hcD, _⟩ := any_some hdct
    refine Bool.eq_false_iff.mpr fun q => ?_
    have e : D = tp := Value.ref.inj (beq_iff_eq.mp q)
    subst e
    unfold clsIn at hcD
    split at hcD
    · rename_i c' d' cd' sl' ho
      have z := (X _ _ ho).symm.trans htp
      cases z
    · cases hcD
  ca := fun X ⟨_, I⟩ k => kin_classO hga hgt hsub hdct ha hn htk hm X I k
end
/-- the suite's error stands at a: its class D, its dict none or an error's dict -/
theorem call_isO {X : Cx} {a D : Addr} {dd : Option Addr} {oe : Obj} {pn : List (Addr × Obj)} (C : ExcC X.K D) (hz : Zc (.ref D) dd oe) (hf : ∃ vs, oe.data = .fields vs) :
    CallR (X.suite a ((a, oe) :: pn)) (.builtin "isinstance") (fun xs H Q => (∀ d, dd = some d → ∃ fs, H d = some (.xd fs)) ∧ rIsE X.K D a xs H Q) := by
  intro pins s σ H xs us Q I r h
  obtain ⟨hd, c, cv, b, rfl, hcv, e, q⟩ := h
  cases r with
  | cons rx rr =>
    cases rr with
    | cons rt rr =>
      cases rr
      cases rx
      have ec := hcv _ rt
      subst ec
      obtain ⟨hget, _⟩ := I.pin (a, oe) (List.mem_append.mpr (.inl List.mem_cons_self))
      obtain ⟨vs, hv⟩ := hf
      have J : ∃ od, PySem.W.InstAt s.heap a oe D od := by
        obtain ⟨h1, h2⟩ := hz
        have hn : PySem.W.notCls oe = true := by unfold PySem.W.notCls; rw [hv] <;> rfl
        cases dd with
        | none => exact ⟨none, hget, h1, hn, by rw [show oe.dict = none from h2]; trivial⟩
        | some d =>
          obtain ⟨fs, hfs⟩ := hd d rfl
          obtain ⟨mA, ⟨o, es, ep, ho, hr⟩, _⟩ := (show ObjOk X.prog X.w H s.heap d (.xd fs) from I.hok d _ hfs)
          exact ⟨some o, hget, h1, hn, by rw [h2]; exact ho⟩
      exact PySem.W.kia_one (kitx_excO C.hg C.hk C.hs C.hd C.ha C.hn C.ht C.hm) I.kIn J e (fun z => nomatch z) fun tk => ⟨.bl b, H, I.kept (t' := tk) fun _ _ z => z, rfl, q⟩
end Kw



set_option Elab.async false
set_option linter.all false
set_option maxRecDepth 100000
set_option maxHeartbeats 4000000
/-! Data on the heap and what stays. -/
namespace Kw
open PySem PySem.Spec PyProof.Rows L2

/-- all stays but the lists at b and l, and the tables -/
structure Kp (b l : Addr) (H H' : Hp) : Prop where
  nl : ∀ a o, H a = some o → (∀ xs, o ≠ .lst xs) → (∀ ps, o ≠ .tbl ps) → H' a = some o
  ls : ∀ a xs, H a = some (.lst xs) → a ≠ b → a ≠ l → H' a = some (.lst xs)
theorem Kp.refl (b l : Addr) (H : Hp) : Kp b l H H := ⟨fun _ _ h _ _ => h, fun _ _ h _ _ => h⟩
theorem Kp.trans {b l : Addr} {H H1 H2 : Hp} (x : Kp b l H H1) (y : Kp b l H1 H2) : Kp b l H H2 :=
  ⟨fun a o h n t => y.nl a o (x.nl a o h n t) n t, fun a xs h n t => y.ls a xs (x.ls a xs h n t) n t⟩
theorem Kp.same {b l : Addr} {H H' : Hp} (e : Same H H') : Kp b l H H' := ⟨fun a o h _ _ => e a o h, fun a xs h _ _ => e a _ h⟩
theorem same_upd {H : Hp} {p : Addr} {o : HO} (h : H p = none) : Same H (upd H p o) := fun a u e => by
  rw [upd_ne (ne_of_none e h)]
  exact e
theorem Same.upd2 {H H' : Hp} {p : Addr} {o : HO} (e : Same H H') (h : H' p = none) : Same H (upd H' p o) := e.trans (same_upd h)
/-! data without lists -/
mutual
def noL : PyData → Bool
  | .none => true
  | .bool _ => true
  | .int _ => true
  | .str _ => true
  | .tuple ds => noLs ds
  | .list _ => false
  | .dict _ => false
def noLs : List PyData → Bool
  | [] => true
  | d :: ds => noL d && noLs ds
end
/-- what is not a list or a table stays -/
def Nl (H H' : Hp) : Prop := ∀ a o, H a = some o → (∀ xs, o ≠ .lst xs) → (∀ ps, o ≠ .tbl ps) → H' a = some o
theorem SqT.nl {K : PySem.W.Frag} {H H' : Hp} {a : Addr} {xs : List V} (k : Nl H H') (h : SqT K H a xs) : SqT K H' a xs := by
  rcases h with (h | ⟨o, h⟩) | h
  · exact .inl (.inl (k _ _ h (fun _ z => nomatch z) fun _ z => nomatch z))
  · exact .inl (.inr ⟨o, k _ _ h (fun _ z => nomatch z) fun _ z => nomatch z⟩)
  · exact .inr h
theorem SqT.same {K : PySem.W.Frag} {H H' : Hp} {a : Addr} {xs : List V} (k : Same H H') (h : SqT K H a xs) : SqT K H' a xs := SqT.nl (fun a o e _ _ => k a o e) h
mutual
theorem Dp.nl {K : PySem.W.Frag} {H H' : Hp} (k : Nl H H') : ∀ (d : PyData) (v : V), noL d = true → Dp K H v d → Dp K H' v d
  | .none, _, _, h => by cases h; exact .non
  | .bool b, _, _, h => by cases h; exact .bl b
  | .int i, _, _, h => by cases h; exact .int i
  | .str x, _, _, h => by cases h; exact .str x
  | .list ds, _, n, _ => by simp [noL] at n
  | .tuple ds, _, n, h => by
    cases h with
    | tup hs ha => exact .tup (SqT.nl k hs) (Dp.nls k ds _ (by simpa [noL] using n) ha)
  | .dict _, _, n, _ => by simp [noL] at n
theorem Dp.nls {K : PySem.W.Frag} {H H' : Hp} (k : Nl H H') : ∀ (ds : List PyData) (vs : List V), noLs ds = true → DpAll K H vs ds → DpAll K H' vs ds
  | [], _, _, h => by cases h; exact .nil
  | d :: ds, _, n, h => by
    cases h with
    | cons h1 h2 =>
      have n' : noL d = true ∧ noLs ds = true := by simpa [noLs] using n
      exact .cons (Dp.nl k d _ n'.1 h1) (Dp.nls k ds _ n'.2 h2)
end
/-- tuples that are read stay -/
def Tp (H H' : Hp) : Prop := ∀ a xs, Rd H a (.tup xs) → Rd H' a (.tup xs)
mutual
theorem Dp.tp {K : PySem.W.Frag} {H H' : Hp} (k : Tp H H') : ∀ (d : PyData) (v : V), noL d = true → Dp K H v d → Dp K H' v d
  | .none, _, _, h => by cases h; exact .non
  | .bool b, _, _, h => by cases h; exact .bl b
  | .int i, _, _, h => by cases h; exact .int i
  | .str x, _, _, h => by cases h; exact .str x
  | .list ds, _, n, _ => by simp [noL] at n
  | .tuple ds, _, n, h => by
    cases h with
    | tup hs ha => exact .tup (hs.elim (fun r => .inl (k _ _ r)) .inr) (Dp.tps k ds _ (by simpa [noL] using n) ha)
  | .dict _, _, n, _ => by simp [noL] at n
theorem Dp.tps {K : PySem.W.Frag} {H H' : Hp} (k : Tp H H') : ∀ (ds : List PyData) (vs : List V), noLs ds = true → DpAll K H vs ds → DpAll K H' vs ds
  | [], _, _, h => by cases h; exact .nil
  | d :: ds, _, n, h => by
    cases h with
    | cons h1 h2 =>
      have n' : noL d = true ∧ noLs ds = true := by simpa [noLs] using n
      exact .cons (Dp.tp k d _ n'.1 h1) (Dp.tps k ds _ n'.2 h2)
end
mutual
theorem Dp.same {K : PySem.W.Frag} {H H' : Hp} (k : Same H H') : ∀ (d : PyData) (v : V), Dp K H v d → Dp K H' v d
  | .none, _, h => by cases h; exact .non
  | .bool b, _, h => by cases h; exact .bl b
  | .int i, _, h => by cases h; exact .int i
  | .str x, _, h => by cases h; exact .str x
  | .list ds, _, h => by
    cases h with
    | lst hs ha => exact .lst (k.seq hs) (Dp.sames k ds _ ha)
  | .tuple ds, _, h => by
    cases h with
    | tup hs ha => exact .tup (SqT.same k hs) (Dp.sames k ds _ ha)
  | .dict _, _, h => by cases h
theorem Dp.sames {K : PySem.W.Frag} {H H' : Hp} (k : Same H H') : ∀ (ds : List PyData) (vs : List V), DpAll K H vs ds → DpAll K H' vs ds
  | [], _, h => by cases h; exact .nil
  | d :: ds, _, h => by
    cases h with
    | cons h1 h2 => exact .cons (Dp.same k d _ h1) (Dp.sames k ds _ h2)
end
theorem DpAll.len {K : PySem.W.Frag} {H : Hp} : ∀ {vs : List V} {ds : List PyData}, DpAll K H vs ds → vs.length = ds.length
  | _, _, .nil => rfl
  | _, _, .cons _ h => by simp [DpAll.len h]
theorem DpAll.get {K : PySem.W.Frag} {H : Hp} : ∀ {vs : List V} {ds : List PyData} {i : Nat} {x : V}, DpAll K H vs ds → vs[i]? = some x → ∃ d, ds[i]? = some d ∧ Dp K H x d
  | _, _, _, _, .nil, e => by simp at e
  | _, _, 0, _, .cons h _, e => by
    simp at e
    subst e
    exact ⟨_, rfl, h⟩
  | _, _, i + 1, x, .cons _ t, e => by
    obtain ⟨d, h1, h2⟩ := DpAll.get (i := i) (x := x) t (by simpa using e)
    exact ⟨d, by simpa using h1, h2⟩
theorem DpAll.app {K : PySem.W.Frag} {H : Hp} : ∀ {vs ws : List V} {ds es : List PyData}, DpAll K H vs ds → DpAll K H ws es → DpAll K H (vs ++ ws) (ds ++ es)
  | _, _, _, _, .nil, h => h
  | _, _, _, _, .cons h t, k => .cons h (DpAll.app t k)
theorem DpAll.take {K : PySem.W.Frag} {H : Hp} : ∀ {vs : List V} {ds : List PyData} (n : Nat), DpAll K H vs ds → DpAll K H (vs.take n) (ds.take n)
  | _, _, 0, _ => .nil
  | _, _, _ + 1, .nil => .nil
  | _, _, n + 1, .cons h t => .cons h (DpAll.take n t)
theorem noLs_map {α : Type} (f : α → PyData) (h : ∀ a, noL (f a) = true) : ∀ l : List α, noLs (l.map f) = true
  | [] => rfl
  | a :: l => by simp [noLs, h a, noLs_map f h l]

/-! ### places -/
inductive Wd where
  | hand | box | gone
  deriving DecidableEq
def Wd.str : Wd → Str
  | .hand => "hand"
  | .box => "box"
  | .gone => "gone"
abbrev Pl := Wd × Int
def plD (p : Pl) : PyData := .tuple [.str p.1.str, .int p.2]
def plsD (ps : List Pl) : PyData := .tuple (ps.map plD)
theorem wd_ok (w : Wd) : PyData.strOk w.str = true := by cases w <;> decide +kernel
theorem wd_inj {u v : Wd} (h : u.str = v.str) : u = v := by cases u <;> cases v <;> first | rfl | (revert h; decide +kernel)
theorem noL_pl (p : Pl) : noL (plD p) = true := rfl
theorem noL_pls (ps : List Pl) : noL (plsD ps) = true := noLs_map plD noL_pl ps
theorem lay_pl (p : Pl) : PyData.canLay0 (plD p) = true := by simp [plD, PyData.canLay0, PyData.canLayAll0, wd_ok]
theorem lay_pls : ∀ ps : List Pl, PyData.canLayAll0 (ps.map plD) = true
  | [] => rfl
  | p :: ps => by simp [PyData.canLayAll0, lay_pl p, lay_pls ps]
theorem depth_pl (p : Pl) : PyData.depth (plD p) = 1 := by simp [plD, PyData.depth, PyData.depthAll]
theorem depth_pls : ∀ ps : List Pl, PyData.depthAll (ps.map plD) ≤ 1
  | [] => by simp [PyData.depthAll]
  | p :: ps => by
    have := depth_pls ps
    have := depth_pl p
    simp [PyData.depthAll]
    omega
theorem shaped_pl (p : Pl) : SeqAt.shaped (plD p) = true := by simp [SeqAt.shaped, lay_pl, depth_pl]
theorem shaped_pls (ps : List Pl) : SeqAt.shaped (plsD ps) = true := by
  have h1 := lay_pls ps
  have h2 := depth_pls ps
  simp [SeqAt.shaped, plsD, PyData.canLay0, PyData.depth, h1]
  omega
theorem eqv_pl (p q : Pl) : PyData.eqv (plD p) (plD q) = decide (p = q) := by
  obtain ⟨u, i⟩ := p
  obtain ⟨v, j⟩ := q
  by_cases h1 : u = v
  · subst h1
    by_cases h2 : i = j
    · subst h2
      simp [plD, PyData.eqv, PyData.eqvAll]
    · simp [plD, PyData.eqv, PyData.eqvAll, h2]
  · have h3 : ¬ u.str = v.str := fun z => h1 (wd_inj z)
    simp [plD, PyData.eqv, PyData.eqvAll, h1, h3]
theorem pl_at {K : PySem.W.Frag} {H : Hp} {x : V} {p : Pl} (h : Dp K H x (plD p)) : ∃ a, x = .ref a ∧ SqT K H a [.str p.1.str, .int p.2] := by
  cases h with
  | tup hs ha =>
    cases ha with
    | cons h1 h2 =>
      cases h1
      cases h2 with
      | cons h3 h4 =>
        cases h3
        cases h4
        exact ⟨_, rfl, hs⟩
theorem pls_at {K : PySem.W.Frag} {H : Hp} {x : V} {ps : List Pl} (h : Dp K H x (plsD ps)) : ∃ a xs, x = .ref a ∧ SqT K H a xs ∧ DpAll K H xs (ps.map plD) ∧ xs.length = ps.length := by
  cases h with
  | tup hs ha => exact ⟨_, _, rfl, hs, ha, by rw [DpAll.len ha, List.length_map]⟩
theorem pls_get {K : PySem.W.Frag} {H : Hp} {xs : List V} {ps : List Pl} {i : Nat} {x : V} (h : DpAll K H xs (ps.map plD)) (e : xs[i]? = some x) : ∃ p, ps[i]? = some p ∧ Dp K H x (plD p) := by
  obtain ⟨d, h1, h2⟩ := DpAll.get h e
  rw [List.getElem?_map] at h1
  cases q : ps[i]? with
  | none =>
    rw [q] at h1
    cases h1
  | some p =>
    rw [q] at h1
    cases h1
    exact ⟨p, rfl, h2⟩
end Kw



set_option Elab.async false
set_option linter.all false
set_option maxRecDepth 100000
set_option maxHeartbeats 4000000
namespace Kw
open PySem PySem.Spec PyProof.Rows L2
theorem room_in2 {A : Around} {a b : PyData} (h : SeqAt.shaped b = true) (hu : A.units + 65 < cLine) (n : Nat) : A.units + 1 + min n b.depth < cLine := by
  have h1 := SeqAt.depth_of_shaped h
  have h2 : min n b.depth ≤ b.depth := Nat.min_le_right _ _
  omega
section
variable {X : Cx}
/-- t.index(x), t a tuple of data: the first place of an equal one -/
def rIndexT (K : PySem.W.Frag) : V → List V → Hp → VK → Prop := fun x xs H Q => ∃ (a : Addr) (y : V) (d : PyData) (ds : List PyData) (j : Nat) (z : PyData), x = V.ref a ∧ xs = [y] ∧ Dp K H (V.ref a) (.tuple ds) ∧ Dp K H y d ∧
  SeqAt.shaped (.tuple ds) = true ∧ SeqAt.shaped d = true ∧ ds[j]? = some z ∧ PyData.eqv z d = true ∧ (∀ (m : Nat) (z' : PyData), m < j → ds[m]? = some z' → PyData.eqv z' d = false) ∧ Q (.int (j : Nat)) H
theorem mt_indexT (hu : X.A.units + 65 < cLine) : MtR X "tuple.index" (rIndexT X.K) := by
  intro pins s σ H x xs v us Q I rx rxs h
  obtain ⟨a, y, d, ds, j, z, rfl, rfl, hl, hy, sl, sd, hz, hzj, hno, q⟩ := h
  cases rx
  cases rxs with
  | cons ry rt =>
    rename_i uy ut
    cases rt
    obtain ⟨bs, r1⟩ := Dp.reads I d y uy hy ry
    have hxs : PyData.canLayAll0 ds = true := SeqAt.canLay_of_shaped sl
    cases hl with
    | tup hs ha =>
      obtain ⟨its, rv, ⟨⟨cls, dd, data, sls⟩, ho, hc, n, hdt⟩, hlen⟩ := I.tuple hs
      simp only at hc hdt
      subst hc hdt
      obtain ⟨as, h4⟩ := Dp.readsAll I ds _ its ha rv
      have hroom : X.A.units + 1 + min (PyData.depthAll ds) d.depth < cLine := room_in2 (a := d) sd hu _
      have hn : its.length = ds.length := SeqAt.ReadsAll.length ds its as h4
      have hmap : its.map (SeqAt.readOf s.heap) = ds := SeqAt.readsAll_map ds its as hxs h4
      obtain ⟨hjd, _⟩ := List.getElem?_eq_some_iff.mp hz
      have hjl : j < its.length := by omega
      have hj : j < its.toArray.size := by simpa using hjl
      have at_ : ∀ (m : Nat) (hm : m < its.toArray.size) (z' : PyData), ds[m]? = some z' → SeqAt.readOf s.heap its.toArray[m] = z' := by
        intro m hm z' hz'
        have hml : m < its.length := by simpa using hm
        rw [← hmap, List.getElem?_map, List.getElem?_eq_getElem hml] at hz'
        have e1 : SeqAt.readOf s.heap its[m] = z' := Option.some.inj (show some (SeqAt.readOf s.heap its[m]) = some z' from hz')
        simpa using e1
      refine call_meets PySem.F.slot_tuple_index ⟨_, ho, rfl⟩ PySem.F.entry_tuple_index (PySem.F.args_tuple_index_2 _ _)
        (TI.tuple_indexAt a its.toArray n dd sls uy (fun u => PyData.eqv (SeqAt.readOf s.heap u) d) j hj ?_ ?_) ⟨ho, SeqAt.items_eqAt (vs := its.toArray) (show ReadsAll s.heap its.toArray.toList ds as from h4) r1 hxs (SeqAt.canLay_of_shaped sd) hroom, ?_⟩
      · show PyData.eqv (SeqAt.readOf s.heap its.toArray[j]) d = true
        rw [at_ j hj z hz]
        exact hzj
      · intro m hm hmj
        have hmd : m < ds.length := by omega
        have hz' : ds[m]? = some ds[m] := List.getElem?_eq_getElem hmd
        show PyData.eqv (SeqAt.readOf s.heap its.toArray[m]) d = false
        rw [at_ m hm _ hz']
        exact hno m _ hmj hz'
      · exact ⟨.int (j : Nat), H, I.tok _, ⟨_, rfl⟩, q⟩
end
end Kw



set_option Elab.async false
set_option linter.all false
set_option maxRecDepth 100000
set_option maxHeartbeats 4000000
namespace Kw
open PySem PySem.Spec PyProof.Rows L2
/-- a tuple that was made here and bears no dict: it may be asked for its methods -/
def Fz (H : Hp) (a : Addr) (xs : List V) : Prop := ∃ o : Obj, H a = some (.frz o (.tup xs)) ∧ o.cls = .type "tuple" ∧ o.dict = none
theorem Fz.sq {K : PySem.W.Frag} {H : Hp} {a : Addr} {xs : List V} (h : Fz H a xs) : SqT K H a xs := by
  obtain ⟨o, h, _⟩ := h
  exact .inl (.inr ⟨o, h⟩)
theorem Fz.nl {H H' : Hp} {a : Addr} {xs : List V} (k : Nl H H') (h : Fz H a xs) : Fz H' a xs := by
  obtain ⟨o, h, c, d⟩ := h
  exact ⟨o, k _ _ h (fun _ z => nomatch z) (fun _ z => nomatch z), c, d⟩
section
variable {X : Cx}
/-- tuple(l), l a list: the new tuple, with what it is kept -/
theorem call_tupleF : CallR X (.type "tuple") (fun xs H Q => ∃ p ys, xs = [.ref p] ∧ SqL X.K H p ys ∧ ∀ (l : Addr) (o : Obj), H l = none → o.cls = .type "tuple" → o.dict = none → Q (.ref l) (L2.upd H l (.frz o (.tup ys)))) := by
  intro pins s σ H xs us Q I r h
  obtain ⟨p, ys, rfl, hq, q⟩ := h
  obtain ⟨u, rfl, rx⟩ := vals1 r
  cases rx
  obtain ⟨its, r', pl, hz⟩ := I.list hq
  have hlen := r'.length
  refine call_tuple_list pl.isList (fun h' kp => ?_) (by simp only [List.size_toArray] <;> omega)
  have I1 : Inv X pins σ H { s with heap := h' } := I.kept (t' := s.toks) kp
  have g : (h'.push { cls := .type "tuple", data := .seq its.toArray }).get? h'.objs.size = some ({ cls := .type "tuple", data := .seq its.toArray } : Obj) := Heap.get?_push_size _ rfl
  have I2 : Inv X pins σ (L2.upd H h'.objs.size (.frz { cls := .type "tuple", data := .seq its.toArray } (.tup ys))) { s with heap := h'.push { cls := .type "tuple", data := .seq its.toArray } } :=
    I1.laid (t' := s.toks) (fun b o e => Heap.get?_push_of_some _ e) (Nat.le_refl _) (show ObjOk X.prog X.w _ _ _ (.frz _ (.tup ys)) from ⟨g, hz, its, r', IsTup.new _ _⟩)
  exact ⟨.ref h'.objs.size, _, I2, rfl, q _ _ (I1.hok.fresh (Nat.le_refl _)) rfl rfl⟩
variable {o e : Expr} {es : List Expr} {to : TE} {t : TA} {name : Str} {apos cpos : Pos} {id : String} {r : V → List V → Hp → VK → Prop}
/-- o.m(..), o such a tuple -/
def tBMF (r : V → List V → Hp → VK → Prop) (to : TE) (t : TA) : TE := fun σ H Q => to σ H fun x H1 => (∃ a xs, x = .ref a ∧ Fz H1 a xs) ∧ t σ H1 fun ys H2 => r x ys H2 Q
theorem pe_bmF (slot : Slot "tuple" name id) (hty : typeOf (.builtin id) = pure (.type "method_descriptor")) (hm : MtR X id r) (ho : PE X o to) (ha : PA X (e :: es) t)
    (hbase : attributeBase o name X.env (eval o X.env) = eval o X.env := by rfl)
    (hfew : ((backTo cpos (starEach (e :: es) X.env)).all (fun x => !x.1) && (backToKw cpos (keywordEach [] X.env)).all (fun x => x.1.isSome)
      && decide ((e :: es).length + ([] : List Keyword).length + (if ([] : List Keyword).isEmpty then 0 else 1) < 30)) = true := by rfl)
    (hline : (apos.endLine == cpos.line) = true := by rfl) (hs : starEach (e :: es) X.env = (false, eval e X.env) :: starEach es X.env := by rfl) (hplain : (backTo cpos (starEach es X.env)).any (·.1) = false := by rfl) :
    PE X (.Call (.Attribute o name apos) (e :: es) [] cpos) (tBMF r to t) := by
  refine ⟨fun pins s σ H Q I h => ?_⟩
  refine wpAny_Call_method_late hbase hfew hline rfl (thn (ho.run pins s σ H _ I h) fun v s1 hv => ?_)
  obtain ⟨x, H1, I1, r1, ⟨a, xs, rfl, ob, hf, hc, hd⟩, q1⟩ := hv
  cases r1
  obtain ⟨hg, _⟩ := I1.hok a _ hf
  refine ⟨"tuple", id, PySem.F.plainAttrs_tuple, slot, hty, ⟨ob, hg, hc⟩, fun b eb => ?_, ?_⟩
  · cases eb
    exact ⟨ob, hg, hd⟩
  have hA := ha.run cpos pins s1 σ H1 _ I1 q1
  rw [hs] at hA ⊢
  refine Calls.callWith_builtin (by show (false || (backTo cpos (starEach es X.env)).any (·.1)) = false; rw [hplain] <;> rfl) (Calls.evalArgs_plain ?_)
  exact thn hA fun us s2 hu => by
    obtain ⟨vs, H2, I2, r2, q2⟩ := hu
    exact hm pins s2 σ H2 (.ref a) vs (.ref a) us _ I2 rfl r2 q2
end
end Kw



set_option Elab.async false
set_option linter.all false
set_option maxRecDepth 100000
set_option maxHeartbeats 4000000
namespace Kw
open PySem PySem.Spec PyProof.Rows L2

def top (i : Nat) : Stmt := PySem.Challenge.pw_sealwatch_k10_whole_courses_judged.main.body.getD i (.Pass ⟨0, 0, 0, 0⟩)
abbrev sIH : Stmt := inClass (top 3) 0
abbrev sNum : Stmt := top 19
abbrev sMany : Stmt := top 20
abbrev sInit : Stmt := inClass (top 55) 0
abbrev sItems : Stmt := inClass (top 55) 1
abbrev sHas : Stmt := inClass (top 55) 2
abbrev sNeed : Stmt := top 56
abbrev sBoxes : Stmt := top 57
abbrev sIsPl : Stmt := top 58

/-! ### the built-in names that the module leaves alone -/
structure Bt (mg : Str → Option Value) : Prop where
  isi : mg "isinstance" = none
  int : mg "int" = none
  bool : mg "bool" = none
  len : mg "len" = none
  enu : mg "enumerate" = none
  tup : mg "tuple" = none
  lst : mg "list" = none
  rng : mg "range" = none
  str : mg "str" = none

section
variable {P : Program} {w : World} {K : PySem.W.Frag} {mg : Str → Option Value} {base : Heap}
/-! ### is_number -/
def numOk (n l : Int) : Bool := decide (0 ≤ n) && decide (n < l)
def spNum : Sp := fun vs H Q _ => ∃ n l : Int, vs = [.int n, .int l] ∧ Q (.bl (numOk n l)) H
theorem scNum : FnScope ["value", "limit"] ["value", "limit"] (defScope sNum) := ⟨rfl, rfl, rfl, by decide +kernel, rfl, by decide +kernel, by decide +kernel⟩
theorem ok_num {f : Addr} {fd : FuncData} (F : Fun K "is_number" "is_number" sNum f fd) (B : Bt mg) : FnOk P w K mg base CX0 1 f fd ["value", "limit"] spNum := by
  refine F.ok scNum (fun vs H Q E h => ?_) (fun cdv A outer s H vs Q E hr h => ?_)
  · obtain ⟨n, l, rfl, _⟩ := h
    rfl
  · obtain ⟨n, l, rfl, k⟩ := h
    refine ⟨_, pss_one (ps_ret (pe_and (pe_callB call_isi (by rfl) B.isi (by decide +kernel) (pa_cons (pv 0) (pa_cons (pe_bltn (v := .ty "int") (by rfl) B.int (by decide +kernel) rfl) pa_nil)))
      (pe_and (pe_not (pe_callB call_isi (by rfl) B.isi (by decide +kernel) (pa_cons (pv 0) (pa_cons (pe_bltn (v := .ty "bool") (by rfl) B.bool (by decide +kernel) rfl) pa_nil))))
        (pe_one (pe_chain op_le op_lt pe_int (pv 0) (pv 1)))))), ?_⟩
    refine ⟨_, rfl, _, _, _, _, true, rfl, .ty "int", .base (.int n), kit_ty (by decide +kernel), _, rfl, iteT ?_⟩
    refine ⟨_, rfl, _, _, _, _, false, rfl, .ty "bool", .base (.int n), kit_ty (by decide +kernel), _, rfl, _, rfl, iteT ?_⟩
    refine ⟨_, rfl, _, _, rfl, rfl, _, rfl, ?_⟩
    unfold numOk at k
    by_cases c : (0 : Int) ≤ n
    · rw [decide_eq_true c] at k ⊢
      refine iteT ⟨_, rfl, _, _, rfl, rfl, ?_⟩
      exact k
    · rw [decide_eq_false c] at k ⊢
      exact iteF k

/-! ### houses -/
structure Hs where
  hands : Int
  bs : List Pl
  ts : List Pl
  ss : List Pl
def stD (d : Hs) : PyData := .tuple [plsD d.bs, plsD d.ts, plsD d.ss]
def hsFs (n : Int) (vb vt vs vst : V) : List (Str × V) := putF "state" vst (putF "seals" vs (putF "things" vt (putF "boxes" vb (putF "hands" (.int n) []))))
theorem fs_hands (n : Int) (vb vt vs vst : V) : (hsFs n vb vt vs vst).lookup ("hands" : Str) = some (.int n) := by
  unfold hsFs
  rw [lookup_putF, if_neg (by decide +kernel), lookup_putF, if_neg (by decide +kernel), lookup_putF, if_neg (by decide +kernel), lookup_putF, if_neg (by decide +kernel), lookup_putF, if_pos rfl]
theorem fs_boxes (n : Int) (vb vt vs vst : V) : (hsFs n vb vt vs vst).lookup ("boxes" : Str) = some vb := by
  unfold hsFs
  rw [lookup_putF, if_neg (by decide +kernel), lookup_putF, if_neg (by decide +kernel), lookup_putF, if_neg (by decide +kernel), lookup_putF, if_pos rfl]
theorem fs_things (n : Int) (vb vt vs vst : V) : (hsFs n vb vt vs vst).lookup ("things" : Str) = some vt := by
  unfold hsFs
  rw [lookup_putF, if_neg (by decide +kernel), lookup_putF, if_neg (by decide +kernel), lookup_putF, if_pos rfl]
theorem fs_seals (n : Int) (vb vt vs vst : V) : (hsFs n vb vt vs vst).lookup ("seals" : Str) = some vs := by
  unfold hsFs
  rw [lookup_putF, if_neg (by decide +kernel), lookup_putF, if_pos rfl]
theorem fs_state (n : Int) (vb vt vs vst : V) : (hsFs n vb vt vs vst).lookup ("state" : Str) = some vst := by
  unfold hsFs
  rw [lookup_putF, if_pos rfl]
structure HouseAt (K : PySem.W.Frag) (C : Addr) (H : Hp) (h : Addr) (d : Hs) : Prop where
  ex : ∃ dx vb vt vs vst, H h = some (.ins C dx (hsFs d.hands vb vt vs vst)) ∧ Dp K H vb (plsD d.bs) ∧ Dp K H vt (plsD d.ts) ∧ Dp K H vs (plsD d.ss) ∧ Dp K H vst (stD d)
theorem noL_st (d : Hs) : noL (stD d) = true := by simp [stD, noL, noLs, noL_pls]
theorem HouseAt.nl {K : PySem.W.Frag} {C : Addr} {H H' : Hp} {h : Addr} {d : Hs} (k : Nl H H') (x : HouseAt K C H h d) : HouseAt K C H' h d := by
  obtain ⟨dx, vb, vt, vs, vst, h0, h1, h2, h3, h4⟩ := x.ex
  exact ⟨dx, vb, vt, vs, vst, k _ _ h0 (fun _ z => nomatch z) (fun _ z => nomatch z), Dp.nl k _ _ (noL_pls _) h1, Dp.nl k _ _ (noL_pls _) h2, Dp.nl k _ _ (noL_pls _) h3, Dp.nl k _ _ (noL_st _) h4⟩
/-! ### a state of which the row of seals may be asked for its methods -/
def Fv (H : Hp) (v : V) : Prop := ∃ a xs, v = .ref a ∧ Fz H a xs
theorem Fv.nl {H H' : Hp} {v : V} (k : Nl H H') (h : Fv H v) : Fv H' v := by
  obtain ⟨a, xs, e, f⟩ := h
  exact ⟨a, xs, e, f.nl k⟩
structure StF (K : PySem.W.Frag) (H : Hp) (v : V) (d : Hs) : Prop where
  ex : ∃ a v1 v2 v3, v = .ref a ∧ SqT K H a [v1, v2, v3] ∧ Dp K H v1 (plsD d.bs) ∧ Dp K H v2 (plsD d.ts) ∧ Dp K H v3 (plsD d.ss) ∧ Fv H v3
theorem StF.dp {K : PySem.W.Frag} {H : Hp} {v : V} {d : Hs} (x : StF K H v d) : Dp K H v (stD d) := by
  obtain ⟨a, v1, v2, v3, rfl, s, d1, d2, d3, _⟩ := x.ex
  exact .tup s (.cons d1 (.cons d2 (.cons d3 .nil)))
theorem StF.nl {K : PySem.W.Frag} {H H' : Hp} {v : V} {d : Hs} (k : Nl H H') (x : StF K H v d) : StF K H' v d := by
  obtain ⟨a, v1, v2, v3, e, s, d1, d2, d3, f⟩ := x.ex
  exact ⟨a, v1, v2, v3, e, SqT.nl k s, Dp.nl k _ _ (noL_pls _) d1, Dp.nl k _ _ (noL_pls _) d2, Dp.nl k _ _ (noL_pls _) d3, f.nl k⟩
theorem StF.same {K : PySem.W.Frag} {H H' : Hp} {v : V} {d : Hs} (k : Same H H') (x : StF K H v d) : StF K H' v d := x.nl fun a o h _ _ => k a o h
def HouseF (K : PySem.W.Frag) (C : Addr) (H : Hp) (h : Addr) (d : Hs) : Prop := ∃ dx vb vt vs vst, H h = some (.ins C dx (hsFs d.hands vb vt vs vst)) ∧ StF K H vst d
theorem HouseF.nl {K : PySem.W.Frag} {C : Addr} {H H' : Hp} {h : Addr} {d : Hs} (k : Nl H H') (x : HouseF K C H h d) : HouseF K C H' h d := by
  obtain ⟨dx, vb, vt, vs, vst, h0, h1⟩ := x
  exact ⟨dx, vb, vt, vs, vst, k _ _ h0 (fun _ z => nomatch z) (fun _ z => nomatch z), h1.nl k⟩
/-- what the class House must say -/
structure HouseC (K : PySem.W.Frag) (C : Addr) : Prop where
  cl : Cls K C
  nH : NoAttr K C "hands"
  nB : NoAttr K C "boxes"
  nT : NoAttr K C "things"
  nS : NoAttr K C "seals"
  nSt : NoAttr K C "state"
/-! ### how_many -/
def manyOf (d : Hs) (w : Str) : Nat := if w = "box" then d.bs.length else if w = "seal" then d.ss.length else if w = "thing" then d.ts.length else 0
def spMany (K : PySem.W.Frag) (C : Addr) : Sp := fun vs H Q _ => ∃ (h : Addr) (d : Hs) (w : Str), vs = [.ref h, .str w] ∧ HouseAt K C H h d ∧ Q (.int (manyOf d w)) H
theorem scMany : FnScope ["house", "word"] ["house", "word"] (defScope sMany) := ⟨rfl, rfl, rfl, by decide +kernel, rfl, by decide +kernel, by decide +kernel⟩
theorem ok_many {f C : Addr} {fd : FuncData} (F : Fun K "how_many" "how_many" sMany f fd) (B : Bt mg) (T : HouseC K C) : FnOk P w K mg base CX0 1 f fd ["house", "word"] (spMany K C) := by
  refine F.ok scMany (fun vs H Q E h => ?_) (fun cdv A outer s H vs Q E hr h => ?_)
  · obtain ⟨h, d, w, rfl, _⟩ := h
    rfl
  · obtain ⟨h, d, w, rfl, hd, k⟩ := h
    obtain ⟨dx, vb, vt, vs, vst, h0, h1, h2, h3, h4⟩ := hd.ex
    obtain ⟨ab, xb, eb, qb, db, lb⟩ := pls_at h1
    obtain ⟨at', xt, et, qt, dt, lt⟩ := pls_at h2
    obtain ⟨as, xs, es, qs, ds, ls⟩ := pls_at h3
    subst eb et es
    refine ⟨_, pss_cons (ps_if (pt_cmpR op_eq (pv 1) pe_str (nomark _)) (pss_one (ps_ret (pe_callB call_len_seq (by rfl) B.len PySem.boot_len (pa_cons (pe_fld (pv 0) rfl) pa_nil)))) pss_nil)
      (pss_cons (ps_if (pt_cmpR op_eq (pv 1) pe_str (nomark _)) (pss_one (ps_ret (pe_callB call_len_seq (by rfl) B.len PySem.boot_len (pa_cons (pe_fld (pv 0) rfl) pa_nil)))) pss_nil)
      (pss_cons (ps_if (pt_cmpR op_eq (pv 1) pe_str (nomark _)) (pss_one (ps_ret (pe_callB call_len_seq (by rfl) B.len PySem.boot_len (pa_cons (pe_fld (pv 0) rfl) pa_nil)))) pss_nil)
      (pss_one (ps_ret pe_int)))), ?_⟩
    have e0 : ∀ (z : Str), decide ((V.str w) = V.str z) = decide (w = z) := fun z => by
      by_cases c : w = z
      · rw [decide_eq_true c, c]; exact decide_eq_true rfl
      · rw [decide_eq_false c]; exact decide_eq_false fun q => c (V.str.inj q)
    refine ⟨_, rfl, rfl, _, rfl, ?_⟩
    rw [e0]
    unfold manyOf at k
    refine ite2 (fun c => ?_) (fun c => ?_)
    · have c' := of_decide_eq_true c
      rw [if_pos c', ← lb] at k
      exact ⟨_, rfl, h, C, dx, _, _, rfl, h0, T.cl, T.nB, fs_boxes _ _ _ _ _, _, _, rfl, .inr qb, k⟩
    have c' : ¬ w = "box" := fun z => c (decide_eq_true z)
    rw [if_neg c'] at k
    refine ⟨_, rfl, rfl, _, rfl, ?_⟩
    rw [e0]
    refine ite2 (fun c => ?_) (fun c => ?_)
    · have c' := of_decide_eq_true c
      rw [if_pos c', ← ls] at k
      exact ⟨_, rfl, h, C, dx, _, _, rfl, h0, T.cl, T.nS, fs_seals _ _ _ _ _, _, _, rfl, .inr qs, k⟩
    have c' : ¬ w = "seal" := fun z => c (decide_eq_true z)
    rw [if_neg c'] at k
    refine ⟨_, rfl, rfl, _, rfl, ?_⟩
    rw [e0]
    refine ite2 (fun c => ?_) (fun c => ?_)
    · have c' := of_decide_eq_true c
      rw [if_pos c', ← lt] at k
      exact ⟨_, rfl, h, C, dx, _, _, rfl, h0, T.cl, T.nT, fs_things _ _ _ _ _, _, _, rfl, .inr qt, k⟩
    have c' : ¬ w = "thing" := fun z => c (decide_eq_true z)
    rw [if_neg c'] at k
    exact k
/-! ### is_place -/
def plOk (p : Pl) (hands boxes : Int) : Bool := if p.1 = .hand then numOk p.2 hands else decide (p.1 = .box) && numOk p.2 boxes
def spIsPl (K : PySem.W.Frag) : Sp := fun vs H Q _ => ∃ (x : V) (p : Pl) (n m : Int), vs = [x, .int n, .int m] ∧ Dp K H x (plD p) ∧ Q (.bl (plOk p n m)) H
theorem scIsPl : FnScope ["place", "hands", "boxes", "word", "number"] ["place", "hands", "boxes"] (defScope sIsPl) := ⟨rfl, rfl, rfl, by decide +kernel, rfl, by decide +kernel, by decide +kernel⟩
theorem decS (a b : Str) : decide ((V.str a) = V.str b) = decide (a = b) := by
  by_cases c : a = b
  · rw [decide_eq_true c, c]; exact decide_eq_true rfl
  · rw [decide_eq_false c]; exact decide_eq_false fun q => c (V.str.inj q)
theorem ok_ispl {f g : Addr} {fd fdg : FuncData} (F : Fun K "is_place" "is_place" sIsPl f fd) (FG : Fun K "is_number" "is_number" sNum g fdg) (B : Bt mg) (mG : mg "is_number" = some (.ref g)) (bG : Binds K fdg ["value", "limit"] []) : FnOk P w K mg base CX0 2 f fd ["place", "hands", "boxes"] (spIsPl K) := by
  have G : FnOk P w K mg base CX0 1 g fdg ["value", "limit"] spNum := ok_num FG B
  refine F.ok scIsPl (fun vs H Q E h => ?_) (fun cdv A outer s H vs Q E hr h => ?_)
  · obtain ⟨x, p, n, m, rfl, _⟩ := h
    rfl
  · obtain ⟨x, p, n, m, rfl, hp, k⟩ := h
    obtain ⟨a, rfl, q⟩ := pl_at hp
    refine ⟨_, pss_cons (ps_asg (pv 0) (pg_tup (by rfl) (pgs_cons (pg_name (i := 3) scIsPl.nd rfl (.inl rfl)) (pgs_cons (pg_name (i := 4) scIsPl.nd rfl (.inl rfl)) pgs_nil))))
      (pss_cons (ps_if (pt_cmpR op_eq (pv 3) pe_str (nomark _)) (pss_one (ps_ret (pe_call G hr rfl mG FG.kp bG .nil pass0 (pa_cons (pv 4) (pa_cons (pv 1) pa_nil))))) pss_nil)
      (pss_one (ps_ret (pe_and (pe_cmpR op_eq (pv 3) pe_str (nomark _)) (pe_one (pe_call G hr rfl mG FG.kp bG .nil pass0 (pa_cons (pv 4) (pa_cons (pv 2) pa_nil)))))))), ?_⟩
    refine ⟨_, rfl, a, _, rfl, q, rfl, _, _, rfl, _, _, rfl, rfl, ?_⟩
    refine ⟨_, rfl, rfl, _, rfl, ?_⟩
    rw [decS]
    unfold plOk at k
    obtain ⟨u, i⟩ := p
    cases u with
    | hand =>
      rw [if_pos rfl] at k
      refine iteT ⟨_, rfl, _, rfl, i, n, rfl, k⟩
    | box =>
      rw [if_neg (show ¬ Wd.box = Wd.hand by decide)] at k
      refine iteF ⟨_, rfl, rfl, true, rfl, iteT ⟨_, rfl, _, rfl, i, m, rfl, k⟩⟩
    | gone =>
      rw [if_neg (show ¬ Wd.gone = Wd.hand by decide)] at k
      exact iteF ⟨_, rfl, rfl, false, rfl, iteF k⟩

/-! ### InvalidHouse(part, index) -/
theorem onlyFree_by {sc : Scope} (h : (sc.names.all fun p => !decide (p.2 = .free) || decide (p.1 = ("__class__" : Str))) = true) : ∀ y, sc.names.lookup y = some .free → y = ("__class__" : Str) := fun y hy => by
  have m := PySem.mem_of_lookup hy
  have q := List.all_eq_true.mp h _ m
  simpa using q
/-- what the written part says of such a class, its __init__ (the text st, bound under qual), the method's cell -/
structure ExcI (P : Program) (K : PySem.W.Frag) (mg : Str → Option Value) (x qual : Str) (st : Stmt) (C f : Addr) (fd : FuncData) : Prop where
  sup : SupC P K mg C
  at_ : PySem.W.findIn K (.ref C) "__init__" = some (some (.ref f))
  ty : PySem.W.typeIn K (.ref f) = some (.type "function")
  mgC : mg x = some (.ref C)
  ex : ∃ (oc : Value) (od : Option Addr) (kV doc pm : Value) (an : Option Addr) (ct : Value) (osl : Array (Option Value)) (cc cda : Addr), fd = PySem.W.ksFn "__init__" qual (defArgs st) (defBody st) (defScope st) .none kV doc pm an (.ref cda) ct cc ∧
    K.lookup f = some ⟨oc, od, .func fd, osl⟩ ∧ PySem.W.codeIn K (.ref cda) qual = true ∧
    (∃ ccl cdd vsC ccs fileS tf, K.lookup cda = some ⟨ccl, cdd, .fields vsC, ccs⟩ ∧ vsC[2]? = some (.str fileS tf) ∧ ((P.main.file : Str) == fileS) = true) ∧
    (∃ cl cld csl, K.lookup cc = some ⟨cl, cld, .cell (some (.ref C)), csl⟩)
  bind : Binds K fd (["self", "part", "index"] : List Str) []
def ihFs (z : Str) (i : Int) : List (Str × V) := [("index", .int i), ("part", .str z)]
def spIH (C : Addr) : Sp := fun vs H Q _ => ∃ (a : Addr) (z : Str) (i : Int), vs = [.ref a, .str z, .int i] ∧ H a = some (exo a C none) ∧ z.length ≤ 1000 ∧ 0 ≤ i ∧ i ≤ 1000 ∧
  ∀ dx, H dx = none → dx ≠ a → Q .non (upd (upd (upd H dx (exd dx [("part", .str z)])) a (exo a C (some dx))) dx (exd dx (ihFs z i)))
theorem scIH : SupScope ["self", "part", "index"] (defScope sIH) :=
  ⟨rfl, rfl, rfl, by decide +kernel, by decide +kernel, by decide +kernel, onlyFree_by (by decide +kernel), by decide +kernel, by decide +kernel⟩
theorem log2_small {i : Int} (h0 : 0 ≤ i) (h1 : i ≤ 1000) : i.natAbs.log2 < 1920 := by
  have h2 : i.natAbs ≤ 1000 := by omega
  by_cases h3 : i.natAbs = 0
  · rw [h3]; decide
  · have := (Nat.log2_lt h3 (k := 10)).mpr (by omega)
    omega
theorem digits_small {i : Int} (h0 : 0 ≤ i) (h1 : i ≤ 1000) : (toString i : Str).length ≤ 4 := toString_length_le h0 (k := 4) (by decide) (by omega)
theorem ok_ih {CX : CXT} {C f : Addr} {fd : FuncData} (T : ExcI P K mg "InvalidHouse" "InvalidHouse.__init__" sIH C f fd) (nP : PySem.W.findIn K (.ref C) "part" = some none) (nI : PySem.W.findIn K (.ref C) "index" = some none) :
    FnOk P w K mg base CX 1 f fd ["self", "part", "index"] (spIH C) := by
  obtain ⟨oc, od, kV, doc, pm, an, ct, osl, cc, cda, rfl, lk, hcd, ⟨ccl, cdd, vsC, ccs, fileS, tf, hcode, hvs, hfile⟩, ⟨cl, cld, csl, hcell⟩⟩ := T.ex
  refine fn_super (pl := fun _ => _) T.sup lk hcd rfl rfl hcode hvs hfile hcell scIH (fun vs H Q E h => ?_) (fun _ => rfl) (fun _ => rfl) (fun _ => rfl) (fun A outer s H vs Q E hr h => ?_)
  · obtain ⟨a, z, i, rfl, _⟩ := h
    rfl
  · obtain ⟨a, z, i, rfl, ha, hz, hi0, hi1, k⟩ := h
    refine ⟨_, _, pe_joined (.cons (pe_fmt (pv 1)) (.cons pe_str (.cons (pe_fmt (pv 2)) .nil))), pss_cons (ps_ost (pv 0) (pv 1)) (pss_one (ps_ost (pv 0) (pv 2))), ⟨a, rfl, ha⟩, ?_⟩
    have l1 : (Str.empty : Str).length = 0 := rfl
    have l2 : (": wrong at index " : Str).length = 17 := by decide +kernel
    have l3 := digits_small hi0 hi1
    have l4 : ∀ a b : Str, (a ++ b).length = a.length + b.length := Str.length_append
    have l5 := sizeLine_eq
    have hs : H a ≠ none := by rw [ha]; intro q; cases q
    refine ⟨_, rfl, .inl ⟨z, rfl, by omega, z, rfl, by rw [l4]; omega, _, rfl, by rw [l4, l4]; omega, _, rfl, .inr ⟨i, rfl, log2_small hi0 hi1, _, rfl, by rw [l4, l4, l4]; omega, ⟨_, rfl⟩, a, rfl, ha, ?_⟩⟩⟩
    refine ⟨_, rfl, _, rfl, a, C, rfl, T.sup.oex, nP, .inl ⟨ha, fun dx hd ne => ?_⟩⟩
    refine ⟨_, rfl, _, rfl, a, C, rfl, T.sup.oex, nI, .inr ⟨dx, [("part", .str z)], upd_same, by rw [upd_ne ne, upd_same], (by show 1 ≤ 900; decide), ?_⟩⟩
    exact k dx hd ne

/-! ### what is raised -/
/-- InvalidHouse(part, i) is let out -/
def Ri (C : Addr) (z : Str) (i : Nat) (H : Hp) (E : XK) : Prop := ∀ dd H', Same H H' → H' dd = some (.xd (ihFs z i)) → E (.ref C) (some dd) H'
theorem Ri.same {C : Addr} {z : Str} {i : Nat} {H H' : Hp} {E : XK} (e : Same H H') (r : Ri C z i H E) : Ri C z i H' E := fun dd H2 e2 h => r dd H2 (e.trans e2) h
/-- the reading of InvalidHouse(z, i), told by Ri -/
theorem ih_made {C : Addr} {H : Hp} {E : XK} {z : Str} {i : Nat} (hz : z.length ≤ 1000) (hi : i ≤ 1000) (r : Ri C z i H E) :
    ∀ a, H a = none → spIH C (.ref a :: ([.str z, .int i] ++ [])) (upd H a (exo a C none))
      (fun v H2 => v = .non ∧ ∃ (d : Addr) (fs : List (Str × V)), H2 a = some (exo a C (some d)) ∧ H2 d = some (exd d fs) ∧ H d = none ∧ E (.ref C) (some d) (upd (del H2 a) d (.xd fs))) (fun _ _ _ => False) := fun a ha => by
  refine ⟨a, z, i, rfl, upd_same, hz, by omega, by omega, fun dx hd ne => ⟨rfl, dx, _, by rw [upd_ne ne.symm, upd_same], upd_same, by rw [upd_ne ne] at hd; exact hd, ?_⟩⟩
  have hdx : H dx = none := by rw [upd_ne ne] at hd; exact hd
  refine r dx _ (fun b o e => ?_) upd_same
  have n1 : b ≠ dx := ne_of_none e hdx
  have n2 : b ≠ a := ne_of_none e ha
  rw [upd_ne n1, del_ne n2, upd_ne n1, upd_ne n2, upd_ne n1, upd_ne n2]
  exact e
def firstBad (f : Nat → Pl → Bool) : Nat → List Pl → Option Nat
  | _, [] => none
  | i, p :: r => if f i p = true then some i else firstBad f (i + 1) r
/-- the search, seen from turn i on -/
theorem bad_at {f : Nat → Pl → Bool} {ps : List Pl} {i : Nat} {p : Pl} (h : ps[i]? = some p) : firstBad f i (ps.drop i) = if f i p = true then some i else firstBad f (i + 1) (ps.drop (i + 1)) := by
  obtain ⟨hl, he⟩ := List.getElem?_eq_some_iff.mp h
  rw [List.drop_eq_getElem_cons hl, he]
  rfl
theorem bad_end {f : Nat → Pl → Bool} {ps : List Pl} : firstBad f ps.length (ps.drop ps.length) = none := by
  rw [List.drop_length]
  rfl
def badB (n : Int) (i : Nat) (p : Pl) : Bool := decide (i = 3) || !plOk p n i
def badBoxes (n : Int) (bs : List Pl) : Option Nat := if bs.length = 0 then some 0 else firstBad (badB n) 0 bs
def spBoxes (K : PySem.W.Frag) (C : Addr) : Sp := fun vs H Q E => ∃ (n : Int) (x : V) (bs : List Pl), vs = [.int n, x] ∧ Dp K H x (plsD bs) ∧ bs.length ≤ 100 ∧
  (∀ i, badBoxes n bs = some i → Ri C "boxes" i H E) ∧ (badBoxes n bs = none → ∀ H', Same H H' → Q .non H')
/-- the module's constants -/
structure Cs (mg : Str → Option Value) : Prop where
  h : ∃ t, mg "MOST_HANDS" = some (.int 4 t)
  b : ∃ t, mg "MOST_BOXES" = some (.int 3 t)
  t : ∃ t, mg "MOST_THINGS" = some (.int 4 t)
  s : ∃ t, mg "MOST_SEALS" = some (.int 3 t)
theorem scBoxes : FnScope ["hands", "boxes", "index", "place"] ["hands", "boxes"] (defScope sBoxes) := ⟨rfl, rfl, rfl, by decide +kernel, rfl, by decide +kernel, by decide +kernel⟩
theorem ok_boxes {f g C fI : Addr} {fd fdg fdI : FuncData} (F : Fun K "need_boxes" "need_boxes" sBoxes f fd) (B : Bt mg) (Z : Cs mg) (G : FnOk P w K mg base CX0 2 g fdg ["place", "hands", "boxes"] (spIsPl K)) (mG : mg "is_place" = some (.ref g)) (kG : PySem.W.keepIn K (.ref g) = true) (bG : Binds K fdg ["place", "hands", "boxes"] [])
    (T : ExcI P K mg "InvalidHouse" "InvalidHouse.__init__" sIH C fI fdI) (GI : FnOk P w K mg base CX0 1 fI fdI ["self", "part", "index"] (spIH C)) : FnOk P w K mg base (L2.CX P w) 3 f fd ["hands", "boxes"] (spBoxes K C) := by
  obtain ⟨tb, mB⟩ := Z.b
  refine F.okX scBoxes (fun vs H Q E h => ?_) (fun cdv A outer s H vs Q E hr h => ?_)
  · obtain ⟨n, x, bs, rfl, _⟩ := h
    rfl
  · obtain ⟨n, x, bs, rfl, hx, hl, kE, kQ⟩ := h
    obtain ⟨ab, xb, rfl, qb, db, lb⟩ := pls_at hx
    have tk : Takes (cxOf (L2.CX P w) P w K mg base ["hands", "boxes", "index", "place"] "need_boxes" (defScope sBoxes) f cdv A outer s H E) (fun cls d _ H => E cls d H) := takes_of rfl rfl rfl rfl
    refine ⟨_, pss_cons (ps_if (pt_cmpR op_eq (pe_callB call_len_seq (by rfl) B.len PySem.boot_len (pa_cons (pv 1) pa_nil)) pe_int (nomark _)) (pss_one (ps_raise rfl tk (pmk_oex T.sup.oex T.at_ T.ty GI hr T.bind .nil pass0 rfl T.mgC (pa_cons pe_str (pa_cons pe_int pa_nil))))) pss_nil)
      (pss_one (ps_for (passes_of rfl) rfl (pi_enumT (by rfl) B.enu (pa_cons (pv 1) pa_nil)) (pg_tup (by rfl) (pgs_cons (pg_name (i := 2) scBoxes.nd rfl (.inl rfl)) (pgs_cons (pg_name (i := 3) scBoxes.nd rfl (.inl rfl)) pgs_nil)))
        (pss_one (ps_if (PW.pt (pw_or (pt_cmpR op_eq (pv 2) (pe_glob (v := .int 3) rfl mB ⟨_, rfl⟩) (nomark _)) (pw_or1 (pt_not (pt_val (pe_call G hr rfl mG kG bG .nil pass0 (pa_cons (pv 3) (pa_cons (pv 0) (pa_cons (pv 2) pa_nil)))))))))
          (pss_one (ps_raise rfl tk (pmk_oex T.sup.oex T.at_ T.ty GI hr T.bind .nil pass0 rfl T.mgC (pa_cons pe_str (pa_cons (pv 2) pa_nil))))) pss_nil)))), ?_⟩
    refine ⟨_, rfl, _, _, rfl, .inr qb, rfl, _, rfl, ?_⟩
    rw [lb]
    unfold badBoxes at kE kQ
    have i0 : decide ((V.int (bs.length : Nat)) = V.int 0) = decide (bs.length = 0) := by
      by_cases c : bs.length = 0
      · rw [decide_eq_true c, c]; rfl
      · rw [decide_eq_false c]; exact decide_eq_false fun q => c (by have := V.int.inj q; omega)
    rw [i0]
    refine ite2 (fun c => ?_) (fun c => ?_)
    · have c' := of_decide_eq_true c
      rw [if_pos c'] at kE
      exact ⟨(by show 2 ≤ 1000; decide), ih_made (by decide +kernel) (by decide) (kE 0 rfl)⟩
    have c' : ¬ bs.length = 0 := fun z => c (decide_eq_true z)
    rw [if_neg c'] at kE kQ
    refine ⟨_, rfl, ab, xb, rfl, qb, for_enumT (K := K) (a := ab) (xs := xb) (fun i σ H2 => ∃ v1 v2 : Option V, σ = [some (.int n), some (.ref ab), v1, v2] ∧ Same H H2 ∧ firstBad (badB n) 0 bs = firstBad (badB n) i (bs.drop i))
      ⟨none, none, rfl, Same.refl H, by rw [List.drop_zero]⟩ (fun i σ H2 _ ⟨_, _, _, e, _⟩ => SqT.same e qb) ?_ ?_⟩
    · rintro i y σ H2 T' hi ⟨v1, v2, rfl, e, hb⟩ hT
      obtain ⟨p, hp, hy⟩ := pls_get db hi
      have e2 : Same H (upd H2 T' (.tup [.int (i : Nat), y])) := Same.upd2 e hT
      refine ⟨T', _, rfl, SqT.of upd_same, rfl, _, _, rfl, _, _, rfl, rfl, ?_⟩
      have hi100 : i < bs.length := (List.getElem?_eq_some_iff.mp hp).1
      rw [bad_at hp] at hb
      refine ⟨_, rfl, rfl, _, rfl, ?_⟩
      have i3 : decide ((V.int (i : Nat)) = V.int 3) = decide (i = 3) := by
        by_cases c : i = 3
        · rw [decide_eq_true c, c]; rfl
        · rw [decide_eq_false c]; exact decide_eq_false fun q => c (by have := V.int.inj q; omega)
      rw [i3]
      have raised : badB n i p = true → ∀ Q', (∀ cls d H', E cls d H' → Q' cls d H') → Ri C "boxes" i (upd H2 T' (.tup [.int (i : Nat), y])) Q' := fun hbad Q' hQ' => by
        rw [if_pos hbad] at hb
        exact fun dd H' e' hdd => hQ' _ _ _ (kE i hb dd H' (e2.trans e') hdd)
      unfold badB at raised hb
      by_cases c3 : i = 3
      · rw [decide_eq_true c3] at raised ⊢
        refine iteT (iteT ?_)
        exact ⟨_, rfl, (by show 2 ≤ 1000; decide), ih_made (by decide +kernel) (by omega) (raised rfl _ fun _ _ _ h => h)⟩
      · rw [decide_eq_false c3] at raised hb ⊢
        refine iteF ⟨_, rfl, _, rfl, _, rfl, _, p, n, i, rfl, Dp.nl (fun a o h _ _ => e2 a o h) _ _ (noL_pl p) hy, _, rfl, ?_⟩
        cases cp : plOk p n i with
        | false =>
          rw [cp] at raised
          refine iteT ?_
          exact ⟨_, rfl, (by show 2 ≤ 1000; decide), ih_made (by decide +kernel) (by omega) (raised rfl _ fun _ _ _ h => h)⟩
        | true =>
          rw [cp] at hb
          refine iteF ?_
          exact ⟨_, _, rfl, e2, hb⟩
    · rintro σ H2 ⟨v1, v2, rfl, e, hb⟩
      rw [lb, bad_end] at hb
      exact kQ hb H2 e

/-! ### need_house -/
def badT (n m : Int) (i : Nat) (p : Pl) : Bool := decide (i = 4) || !plOk p n m
def badS (n m : Int) (ss : List Pl) (i : Nat) (p : Pl) : Bool := (decide (i = 3) || !plOk p n m) || (decide (p.1 = .box) && (ss.take i).any fun q => decide (q = p))
def errOf (n : Int) (bs ts ss : List Pl) : Option (Str × Nat) :=
  if (!numOk n 5 || decide (n = 0)) = true then some ("hands", 0) else
  match badBoxes n bs with
  | some i => some ("boxes", i)
  | none =>
    match firstBad (badT n bs.length) 0 ts with
    | some i => some ("things", i)
    | none =>
      match firstBad (badS n bs.length ss) 0 ss with
      | some i => some ("seals", i)
      | none => none
def spNeed (K : PySem.W.Frag) (C : Addr) : Sp := fun vs H Q E => ∃ (n : Int) (x y z : V) (bs ts ss : List Pl), vs = [.int n, x, y, z] ∧ Dp K H x (plsD bs) ∧ Dp K H y (plsD ts) ∧ Dp K H z (plsD ss) ∧ bs.length ≤ 100 ∧ ts.length ≤ 100 ∧ ss.length ≤ 100 ∧
  (∀ z i, errOf n bs ts ss = some (z, i) → Ri C z i H E) ∧ (errOf n bs ts ss = none → ∀ H', Same H H' → Q .non H')
theorem decI (i j : Nat) : decide ((V.int (i : Int)) = V.int (j : Int)) = decide (i = j) := by
  by_cases c : i = j
  · rw [decide_eq_true c, c]; exact decide_eq_true rfl
  · rw [decide_eq_false c]; exact decide_eq_false fun q => c (by have := V.int.inj q; omega)
theorem decZ (i j : Int) : decide ((V.int i) = V.int j) = decide (i = j) := by
  by_cases c : i = j
  · rw [decide_eq_true c, c]; exact decide_eq_true rfl
  · rw [decide_eq_false c]; exact decide_eq_false fun q => c (V.int.inj q)
theorem any_pl (p : Pl) : ∀ l : List Pl, ((l.map plD).any fun z => PyData.eqv z (plD p)) = l.any fun q => decide (q = p)
  | [] => rfl
  | a :: l => by
    rw [List.map_cons, List.any_cons, List.any_cons, any_pl p l, eqv_pl]
theorem same_nl {H H' : Hp} (e : Same H H') : Nl H H' := fun a o h _ _ => e a o h
theorem scNeed : FnScope ["hands", "boxes", "things", "seals", "index", "place"] ["hands", "boxes", "things", "seals"] (defScope sNeed) := ⟨rfl, rfl, rfl, by decide +kernel, rfl, by decide +kernel, by decide +kernel⟩
theorem ok_need {f g gb gn C fI : Addr} {fd fdg fdb fdn fdI : FuncData} (F : Fun K "need_house" "need_house" sNeed f fd) (B : Bt mg) (Z : Cs mg)
    (G : FnOk P w K mg base CX0 2 g fdg ["place", "hands", "boxes"] (spIsPl K)) (mG : mg "is_place" = some (.ref g)) (kG : PySem.W.keepIn K (.ref g) = true) (bG : Binds K fdg ["place", "hands", "boxes"] [])
    (GN : FnOk P w K mg base CX0 1 gn fdn ["value", "limit"] spNum) (mN : mg "is_number" = some (.ref gn)) (kN : PySem.W.keepIn K (.ref gn) = true) (bN : Binds K fdn ["value", "limit"] [])
    (GB : FnOk P w K mg base (L2.CX P w) 3 gb fdb ["hands", "boxes"] (spBoxes K C)) (mB : mg "need_boxes" = some (.ref gb)) (kB : PySem.W.keepIn K (.ref gb) = true) (bB : Binds K fdb ["hands", "boxes"] [])
    (T : ExcI P K mg "InvalidHouse" "InvalidHouse.__init__" sIH C fI fdI) (GI : FnOk P w K mg base CX0 1 fI fdI ["self", "part", "index"] (spIH C)) : FnOk P w K mg base (L2.CX P w) 4 f fd ["hands", "boxes", "things", "seals"] (spNeed K C) := by
  obtain ⟨th, mH⟩ := Z.h
  obtain ⟨tt, mT⟩ := Z.t
  obtain ⟨ts', mS⟩ := Z.s
  refine F.okX scNeed (fun vs H Q E h => ?_) (fun cdv A outer s H vs Q E hr h => ?_)
  · obtain ⟨n, x, y, z, bs, ts, ss, rfl, _⟩ := h
    rfl
  · obtain ⟨n, x, y, z, bs, ts, ss, rfl, hx, hy, hz, hl1, hl2, hl3, kE, kQ⟩ := h
    obtain ⟨ab, xb, rfl, qb, db, lb⟩ := pls_at hx
    obtain ⟨at', xt, rfl, qt, dt, lt⟩ := pls_at hy
    obtain ⟨as, xs, rfl, qs, ds, ls⟩ := pls_at hz
    have hr2 : Room 2 _ := hr.mono (by decide)
    have hr1 : Room 1 _ := hr.mono (by decide)
    have hu65 : (cxOf (L2.CX P w) P w K mg base ["hands", "boxes", "things", "seals", "index", "place"] "need_house" (defScope sNeed) f cdv A outer s H E).A.units + 65 < cLine := by have := hr.un; show (A.deeper _).units + 65 < cLine; omega
    have tk : Takes (cxOf (L2.CX P w) P w K mg base ["hands", "boxes", "things", "seals", "index", "place"] "need_house" (defScope sNeed) f cdv A outer s H E) (fun cls d _ H => E cls d H) := takes_of rfl rfl rfl rfl
    refine ⟨_, pss_cons (ps_if (PW.pt (pw_or (pt_not (pt_val (pe_call GN hr1 rfl mN kN bN .nil pass0 (pa_cons (pv 0) (pa_cons (pe_op op_add (pe_glob (v := .int 4) rfl mH ⟨_, rfl⟩) pe_int) pa_nil))))) (pw_or1 (pt_cmpR op_eq (pv 0) pe_int (nomark _)))))
        (pss_one (ps_raise rfl tk (pmk_oex T.sup.oex T.at_ T.ty GI hr2 T.bind .nil pass0 rfl T.mgC (pa_cons pe_str (pa_cons pe_int pa_nil))))) pss_nil)
      (pss_cons (ps_expr (pe_call GB hr rfl mB kB bB .nil (passes_call tk (fun _ _ _ _ h => h)) (pa_cons (pv 0) (pa_cons (pv 1) pa_nil))))
      (pss_cons (ps_for (passes_of rfl) rfl (pi_enumT (by rfl) B.enu (pa_cons (pv 2) pa_nil)) (pg_tup (by rfl) (pgs_cons (pg_name (i := 4) scNeed.nd rfl (.inl rfl)) (pgs_cons (pg_name (i := 5) scNeed.nd rfl (.inl rfl)) pgs_nil)))
        (pss_one (ps_if (PW.pt (pw_or (pt_cmpR op_eq (pv 4) (pe_glob (v := .int 4) rfl mT ⟨_, rfl⟩) (nomark _)) (pw_or1 (pt_not (pt_val (pe_call G hr2 rfl mG kG bG .nil pass0 (pa_cons (pv 5) (pa_cons (pv 0) (pa_cons (pe_callB call_len_seq (by rfl) B.len PySem.boot_len (pa_cons (pv 1) pa_nil)) pa_nil)))))))))
          (pss_one (ps_raise rfl tk (pmk_oex T.sup.oex T.at_ T.ty GI hr2 T.bind .nil pass0 rfl T.mgC (pa_cons pe_str (pa_cons (pv 4) pa_nil))))) pss_nil)))
      (pss_one (ps_for (passes_of rfl) rfl (pi_enumT (by rfl) B.enu (pa_cons (pv 3) pa_nil)) (pg_tup (by rfl) (pgs_cons (pg_name (i := 4) scNeed.nd rfl (.inl rfl)) (pgs_cons (pg_name (i := 5) scNeed.nd rfl (.inl rfl)) pgs_nil)))
        (pss_cons (ps_if (PW.pt (pw_or (pt_cmpR op_eq (pv 4) (pe_glob (v := .int 3) rfl mS ⟨_, rfl⟩) (nomark _)) (pw_or1 (pt_not (pt_val (pe_call G hr2 rfl mG kG bG .nil pass0 (pa_cons (pv 5) (pa_cons (pv 0) (pa_cons (pe_callB call_len_seq (by rfl) B.len PySem.boot_len (pa_cons (pv 1) pa_nil)) pa_nil)))))))))
          (pss_one (ps_raise rfl tk (pmk_oex T.sup.oex T.at_ T.ty GI hr2 T.bind .nil pass0 rfl T.mgC (pa_cons pe_str (pa_cons (pv 4) pa_nil))))) pss_nil)
        (pss_one (ps_if (PW.pt (pw_and (pt_cmpR op_eq (pe_ix ix_tup (pv 5) pe_int (fun _ _ => rfl)) pe_str (nomark _)) (pw_and1 (pt_cmpR (op_inDT hu65) (pv 5) (pe_slice sl_tupA (pv 3) po_none (po_some (pv 4))) (by rfl)))))
          (pss_one (ps_raise rfl tk (pmk_oex T.sup.oex T.at_ T.ty GI hr2 T.bind .nil pass0 rfl T.mgC (pa_cons pe_str (pa_cons (pv 4) pa_nil))))) pss_nil))))))), ?_⟩
    refine ⟨_, rfl, _, _, rfl, rfl, n, 5, rfl, _, rfl, ?_⟩
    unfold errOf at kE kQ
    by_cases c0 : (!numOk n 5 || decide (n = 0)) = true
    · rw [if_pos c0] at kE
      have rz : tMkO C (spIH C) [] (tCons (tC (.str "hands")) (tCons (tC (.int 0)) tNil)) (start ["hands", "boxes", "things", "seals", "index", "place"] [.int n, .ref ab, .ref at', .ref as]) H (fun cls d H' => E cls d H') :=
        ⟨(by show 2 ≤ 1000; decide), ih_made (by decide +kernel) (by decide) (kE _ 0 rfl)⟩
      cases c1 : numOk n 5 with
      | false => exact iteT (iteT rz)
      | true =>
        refine iteF ⟨_, rfl, rfl, _, rfl, ?_⟩
        rw [decZ]
        rw [c1] at c0
        have c2 : decide (n = 0) = true := c0
        rw [c2]
        exact iteT rz
    rw [if_neg c0] at kE kQ
    have c1 : numOk n 5 = true := by
      cases c : numOk n 5 with
      | true => rfl
      | false => rw [c] at c0; exact absurd rfl c0
    have c2 : decide (n = 0) = false := by
      cases c : decide (n = 0) with
      | false => rfl
      | true => rw [c1, c] at c0; exact absurd rfl c0
    rw [c1]
    refine iteF ⟨_, rfl, rfl, _, rfl, ?_⟩
    rw [decZ, c2]
    refine iteF ?_
    -- need_boxes(hands, boxes)
    refine ⟨_, rfl, _, rfl, n, .ref ab, bs, rfl, hx, hl1, fun i hi => ?_, fun hb H1 e1 => ?_⟩
    · rw [hi] at kE
      exact kE _ i rfl
    rw [hb] at kE kQ
    have eqH : ∀ (m : Nat), decide ((V.int (m : Nat)) = V.int 4) = decide (m = 4) := fun m => decI m 4
    have eqH3 : ∀ (m : Nat), decide ((V.int (m : Nat)) = V.int 3) = decide (m = 3) := fun m => decI m 3
    -- for index, place in enumerate(things)
    refine ⟨_, rfl, at', xt, rfl, SqT.same e1 qt, for_enumT (K := K) (a := at') (xs := xt) (fun i σ H2 => ∃ v1 v2 : Option V, σ = [some (.int n), some (.ref ab), some (.ref at'), some (.ref as), v1, v2] ∧ Same H H2 ∧ firstBad (badT n bs.length) 0 ts = firstBad (badT n bs.length) i (ts.drop i))
      ⟨none, none, rfl, e1, by rw [List.drop_zero]⟩ (fun i σ H2 _ ⟨_, _, _, e, _⟩ => SqT.same e qt) ?_ ?_⟩
    · rintro i y σ H2 T' hi ⟨v1, v2, rfl, e, hb2⟩ hT
      obtain ⟨p, hp, hy2⟩ := pls_get dt hi
      have e2 : Same H (upd H2 T' (.tup [.int (i : Nat), y])) := Same.upd2 e hT
      refine ⟨T', _, rfl, SqT.of upd_same, rfl, _, _, rfl, _, _, rfl, rfl, ?_⟩
      have hi100 : i < ts.length := (List.getElem?_eq_some_iff.mp hp).1
      rw [bad_at hp] at hb2
      refine ⟨_, rfl, rfl, _, rfl, ?_⟩
      rw [eqH]
      have raised : badT n bs.length i p = true → Ri C "things" i (upd H2 T' (.tup [.int (i : Nat), y])) E := fun hbad => by
        rw [if_pos hbad] at hb2
        rw [hb2] at kE
        exact fun dd H' e' hdd => kE _ i rfl dd H' (e2.trans e') hdd
      unfold badT at raised hb2
      by_cases c3 : i = 4
      · rw [decide_eq_true c3] at raised ⊢
        refine iteT (iteT ?_)
        exact ⟨_, rfl, (by show 2 ≤ 1000; decide), ih_made (by decide +kernel) (by omega) (raised rfl)⟩
      · rw [decide_eq_false c3] at raised hb2 ⊢
        refine iteF ⟨_, rfl, _, rfl, _, rfl, ab, xb, rfl, .inr (SqT.same e2 qb), _, p, n, xb.length, rfl, Dp.nl (same_nl e2) _ _ (noL_pl p) hy2, _, rfl, ?_⟩
        rw [lb]
        cases cp : plOk p n bs.length with
        | false =>
          rw [cp] at raised
          refine iteT ?_
          exact ⟨_, rfl, (by show 2 ≤ 1000; decide), ih_made (by decide +kernel) (by omega) (raised rfl)⟩
        | true =>
          rw [cp] at hb2
          exact iteF ⟨_, _, rfl, e2, hb2⟩
    rintro σ H2 ⟨v1, v2, rfl, e, hb2⟩
    rw [lt, bad_end] at hb2
    rw [hb2] at kE kQ
    -- for index, place in enumerate(seals)
    refine ⟨_, rfl, as, xs, rfl, SqT.same e qs, for_enumT (K := K) (a := as) (xs := xs) (fun i σ H2 => ∃ v1 v2 : Option V, σ = [some (.int n), some (.ref ab), some (.ref at'), some (.ref as), v1, v2] ∧ Same H H2 ∧ firstBad (badS n bs.length ss) 0 ss = firstBad (badS n bs.length ss) i (ss.drop i))
      ⟨_, _, rfl, e, by rw [List.drop_zero]⟩ (fun i σ H2 _ ⟨_, _, _, e, _⟩ => SqT.same e qs) ?_ ?_⟩
    · rintro i y σ H3 T' hi ⟨v1, v2, rfl, e, hb2⟩ hT
      obtain ⟨p, hp, hy2⟩ := pls_get ds hi
      have e2 : Same H (upd H3 T' (.tup [.int (i : Nat), y])) := Same.upd2 e hT
      refine ⟨T', _, rfl, SqT.of upd_same, rfl, _, _, rfl, _, _, rfl, rfl, ?_⟩
      have hi100 : i < ss.length := (List.getElem?_eq_some_iff.mp hp).1
      rw [bad_at hp] at hb2
      refine ⟨_, rfl, rfl, _, rfl, ?_⟩
      rw [eqH3]
      have raised : badS n bs.length ss i p = true → ∀ H', Same H H' → Ri C "seals" i H' E := fun hbad H' eh => by
        rw [if_pos hbad] at hb2
        rw [hb2] at kE
        exact fun dd H'' e' hdd => kE _ i rfl dd H'' (eh.trans e') hdd
      unfold badS at raised hb2
      by_cases c3 : i = 3
      · rw [decide_eq_true c3] at raised ⊢
        refine iteT (iteT ?_)
        exact ⟨_, rfl, (by show 2 ≤ 1000; decide), ih_made (by decide +kernel) (by omega) (raised rfl _ e2)⟩
      · rw [decide_eq_false c3] at raised hb2 ⊢
        refine iteF ⟨_, rfl, _, rfl, _, rfl, ab, xb, rfl, .inr (SqT.same e2 qb), _, p, n, xb.length, rfl, Dp.nl (same_nl e2) _ _ (noL_pl p) hy2, _, rfl, ?_⟩
        rw [lb]
        cases cp : plOk p n bs.length with
        | false =>
          rw [cp] at raised
          refine iteT ?_
          exact ⟨_, rfl, (by show 2 ≤ 1000; decide), ih_made (by decide +kernel) (by omega) (raised rfl _ e2)⟩
        | true =>
          rw [cp] at raised hb2
          refine iteF ?_
          -- if place[0] == 'box' and place in seals[:index]
          obtain ⟨ap, rfl, qp⟩ := pl_at (Dp.nl (same_nl e2) _ _ (noL_pl p) hy2)
          refine ⟨_, rfl, ap, _, 0, _, rfl, rfl, qp, rfl, rfl, _, rfl, ?_⟩
          rw [decS]
          cases cw : p.1 with
          | hand =>
            rw [cw] at hb2
            exact iteF (iteF ⟨_, _, rfl, e2, hb2⟩)
          | gone =>
            rw [cw] at hb2
            exact iteF (iteF ⟨_, _, rfl, e2, hb2⟩)
          | box =>
            rw [cw] at raised hb2
            have hxl : i < xs.length := by omega
            refine iteT ⟨_, rfl, _, rfl, _, rfl, _, rfl, as, xs, rfl, SqT.same e2 qs, fun hw => ?_, fun hw T2 hT2 => ?_⟩
            · exfalso
              have h1 := hw.2
              rw [HT.sIx_nat] at h1
              omega
            · have e3 : Same H (upd (upd H3 T' (.tup [.int (i : Nat), .ref ap])) T2 (.tup (cutV xs none (some (i : Int))))) := Same.upd2 e2 hT2
              have ecut : cutV xs none (some (i : Int)) = xs.take i := by
                unfold cutV
                rw [HT.sIx_none, HT.sIx_nat, List.drop_zero, Nat.sub_zero, Nat.min_eq_left (by omega)]
              rw [ecut] at e3 ⊢
              refine ⟨plD p, (ss.take i).map plD, Dp.nl (same_nl e3) _ _ (noL_pl p) hy2, .tup (SqT.of upd_same) ?_, shaped_pl p, shaped_pls (ss.take i), _, rfl, ?_⟩
              · rw [List.map_take]
                exact DpAll.take i (Dp.sames e3 _ _ ds)
              · rw [any_pl]
                cases ca : (ss.take i).any fun q => decide (q = p) with
                | true =>
                  rw [ca] at raised
                  refine iteT ?_
                  exact ⟨_, rfl, (by show 2 ≤ 1000; decide), ih_made (by decide +kernel) (by omega) (raised rfl _ e3)⟩
                | false =>
                  rw [ca] at hb2
                  exact iteF ⟨_, _, rfl, e3, hb2⟩
    rintro σ H3 ⟨v1, v2, rfl, e, hb3⟩
    rw [ls, bad_end] at hb3
    rw [hb3] at kQ
    exact kQ rfl H3 e
end
end Kw



set_option Elab.async false
set_option linter.all false
set_option maxRecDepth 100000
set_option maxHeartbeats 4000000
namespace Kw
open PySem PySem.Spec PyProof.Rows L2
section
variable {P : Program} {w : World} {K : PySem.W.Frag} {mg : Str → Option Value} {base : Heap}
/-! ### House(hands, boxes, things, seals) -/
/-- all but what stands at h -/
def But (h : Addr) (H H' : Hp) : Prop := ∀ a o, H a = some o → a ≠ h → H' a = some o
def spHouse (K : PySem.W.Frag) (C CE : Addr) : Sp := fun vs H Q E => ∃ (h dx : Addr) (n : Int) (x y z : V) (bs ts ss : List Pl), vs = [.ref h, .int n, x, y, z] ∧ H h = some (.ins C dx []) ∧ Dp K H x (plsD bs) ∧ Dp K H y (plsD ts) ∧ Dp K H z (plsD ss) ∧ bs.length ≤ 100 ∧ ts.length ≤ 100 ∧ ss.length ≤ 100 ∧
  (∀ z i, errOf n bs ts ss = some (z, i) → Ri CE z i H E) ∧ (errOf n bs ts ss = none → ∀ H', But h H H' → HouseAt K C H' h ⟨n, bs, ts, ss⟩ → (Fv H z → HouseF K C H' h ⟨n, bs, ts, ss⟩) → Q .non H')
theorem scInit : FnScope ["self", "hands", "boxes", "things", "seals"] ["self", "hands", "boxes", "things", "seals"] (defScope sInit) := ⟨rfl, rfl, rfl, by decide +kernel, rfl, by decide +kernel, by decide +kernel⟩
theorem ok_house {f g C CE : Addr} {fd fdg : FuncData} (F : Fun K "__init__" "House.__init__" sInit f fd) (B : Bt mg) (T : HouseC K C)
    (G : FnOk P w K mg base (L2.CX P w) 4 g fdg ["hands", "boxes", "things", "seals"] (spNeed K CE)) (mG : mg "need_house" = some (.ref g)) (kG : PySem.W.keepIn K (.ref g) = true) (bG : Binds K fdg ["hands", "boxes", "things", "seals"] []) :
    FnOk P w K mg base (L2.CX P w) 5 f fd ["self", "hands", "boxes", "things", "seals"] (spHouse K C CE) := by
  refine F.okX scInit (fun vs H Q E h => ?_) (fun cdv A outer s H vs Q E hr h => ?_)
  · obtain ⟨h, dx, n, x, y, z, bs, ts, ss, rfl, _⟩ := h
    rfl
  · obtain ⟨h, dx, n, x, y, z, bs, ts, ss, rfl, hh, hx, hy, hz, hl1, hl2, hl3, kE, kQ⟩ := h
    obtain ⟨ab, xb, rfl, qb, db, lb⟩ := pls_at hx
    obtain ⟨at', xt, rfl, qt, dt, lt⟩ := pls_at hy
    obtain ⟨as, xs, rfl, qs, ds, ls⟩ := pls_at hz
    have tk : Takes (cxOf (L2.CX P w) P w K mg base ["self", "hands", "boxes", "things", "seals"] "House.__init__" (defScope sInit) f cdv A outer s H E) (fun cls d _ H => E cls d H) := takes_of rfl rfl rfl rfl
    refine ⟨_, pss_cons (ps_expr (pe_call G hr rfl mG kG bG .nil (passes_call tk (fun _ _ _ _ h => h)) (pa_cons (pv 1) (pa_cons (pv 2) (pa_cons (pv 3) (pa_cons (pv 4) pa_nil))))))
      (pss_cons (ps_fld (pv 0) (pv 1) rfl)
      (pss_cons (ps_fld (pv 0) (pe_callTy call_tuple_of (by rfl) B.tup (by decide +kernel) (pa_cons (pv 2) pa_nil)) rfl)
      (pss_cons (ps_fld (pv 0) (pe_callTy call_tuple_of (by rfl) B.tup (by decide +kernel) (pa_cons (pv 3) pa_nil)) rfl)
      (pss_cons (ps_fld (pv 0) (pe_callTy call_tuple_of (by rfl) B.tup (by decide +kernel) (pa_cons (pv 4) pa_nil)) rfl)
      (pss_one (ps_fld (pv 0) (pe_tup (pa_cons (pe_fld (pv 0) rfl) (pa_cons (pe_fld (pv 0) rfl) (pa_cons (pe_fld (pv 0) rfl) pa_nil)))) rfl)))))), ?_⟩
    refine ⟨_, rfl, _, rfl, _, rfl, _, rfl, n, .ref ab, .ref at', .ref as, bs, ts, ss, rfl, hx, hy, hz, hl1, hl2, hl3, kE, fun he H1 e1 => ?_⟩
    have h1 := e1 _ _ hh
    have tu : ∀ {a : Addr} {us : List V} {o : HO}, SqT K H a us → SqT K (upd H1 h o) a us := fun {a us o} q => by
      rcases SqT.same e1 q with (q | ⟨ob, q⟩) | q
      · exact .inl (.inl (by rw [upd_ne (ne_of q h1 (by intro z; cases z))]; exact q))
      · exact .inl (.inr ⟨ob, by rw [upd_ne (ne_of q h1 (by intro z; cases z))]; exact q⟩)
      · exact .inr q
    refine ⟨_, rfl, _, rfl, h, C, dx, _, rfl, h1, T.cl, T.nH, (by show 0 < 1000; decide), ?_⟩
    refine ⟨_, rfl, ab, xb, rfl, .inr ⟨tu qb, _, rfl, h, C, dx, _, rfl, upd_same, T.cl, T.nB, (by show 1 < 1000; decide), ?_⟩⟩
    rw [upd_upd]
    refine ⟨_, rfl, at', xt, rfl, .inr ⟨tu qt, _, rfl, h, C, dx, _, rfl, upd_same, T.cl, T.nT, ?_, ?_⟩⟩
    · have a3 := length_putF "boxes" (.ref ab) (putF "hands" (.int n) [])
      have a4 := length_putF "hands" (.int n) []
      have a5 : ([] : List (Str × V)).length = 0 := rfl
      omega
    rw [upd_upd]
    refine ⟨_, rfl, as, xs, rfl, .inr ⟨tu qs, _, rfl, h, C, dx, _, rfl, upd_same, T.cl, T.nS, ?_, ?_⟩⟩
    · have a2 := length_putF "things" (.ref at') (putF "boxes" (.ref ab) (putF "hands" (.int n) []))
      have a3 := length_putF "boxes" (.ref ab) (putF "hands" (.int n) [])
      have a4 := length_putF "hands" (.int n) []
      have a5 : ([] : List (Str × V)).length = 0 := rfl
      omega
    rw [upd_upd]
    have lk1 : (putF "seals" (.ref as) (putF "things" (.ref at') (putF "boxes" (.ref ab) (putF "hands" (.int n) [])))).lookup ("boxes" : Str) = some (V.ref ab) := by
      rw [lookup_putF, if_neg (by decide +kernel), lookup_putF, if_neg (by decide +kernel), lookup_putF, if_pos rfl]
    have lk2 : (putF "seals" (.ref as) (putF "things" (.ref at') (putF "boxes" (.ref ab) (putF "hands" (.int n) [])))).lookup ("things" : Str) = some (V.ref at') := by
      rw [lookup_putF, if_neg (by decide +kernel), lookup_putF, if_pos rfl]
    have lk3 : (putF "seals" (.ref as) (putF "things" (.ref at') (putF "boxes" (.ref ab) (putF "hands" (.int n) [])))).lookup ("seals" : Str) = some (V.ref as) := by
      rw [lookup_putF, if_pos rfl]
    refine ⟨_, rfl, h, C, dx, _, .ref ab, rfl, upd_same, T.cl, T.nB, lk1, _, rfl, h, C, dx, _, .ref at', rfl, upd_same, T.cl, T.nT, lk2, _, rfl, h, C, dx, _, .ref as, rfl, upd_same, T.cl, T.nS, lk3, (by show 3 ≤ sizeLine; decide), fun p hp => ?_⟩
    have nph : p ≠ h := fun e => by
      rw [e, upd_same] at hp
      cases hp
    refine ⟨_, rfl, h, C, dx, _, rfl, by rw [upd_ne nph.symm, upd_same], T.cl, T.nSt, ?_, ?_⟩
    · have a1 := length_putF "seals" (.ref as) (putF "things" (.ref at') (putF "boxes" (.ref ab) (putF "hands" (.int n) [])))
      have a2 := length_putF "things" (.ref at') (putF "boxes" (.ref ab) (putF "hands" (.int n) []))
      have a3 := length_putF "boxes" (.ref ab) (putF "hands" (.int n) [])
      have a4 := length_putF "hands" (.int n) []
      have a5 : ([] : List (Str × V)).length = 0 := rfl
      omega
    have hpH : H1 p = none := by rw [upd_ne nph] at hp; exact hp
    have key : ∀ b o, H b = some o → b ≠ h → (upd (upd (upd H1 h (.ins C dx (putF "seals" (.ref as) (putF "things" (.ref at') (putF "boxes" (.ref ab) (putF "hands" (.int n) [])))))) p (.tup [.ref ab, .ref at', .ref as])) h (.ins C dx (hsFs n (.ref ab) (.ref at') (.ref as) (.ref p)))) b = some o := fun b o e ne => by
      rw [upd_ne ne, upd_ne (ne_of_none (e1 b o e) hpH), upd_ne ne]
      exact e1 b o e
    have dps : ∀ (v : V) (ps : List Pl), Dp K H v (plsD ps) → Dp K (upd (upd (upd H1 h (.ins C dx (putF "seals" (.ref as) (putF "things" (.ref at') (putF "boxes" (.ref ab) (putF "hands" (.int n) [])))))) p (.tup [.ref ab, .ref at', .ref as])) h (.ins C dx (hsFs n (.ref ab) (.ref at') (.ref as) (.ref p)))) v (plsD ps) := fun v ps q =>
      Dp.tp (fun b xs e => by
        rcases e with e | ⟨o, e⟩
        · exact .inl (key b _ e (ne_of e hh (by intro z; cases z)))
        · exact .inr ⟨o, key b _ e (ne_of e hh (by intro z; cases z))⟩) _ _ (noL_pls ps) q
    refine kQ he _ key ⟨dx, _, _, _, _, upd_same, dps _ _ hx, dps _ _ hy, dps _ _ hz, ?_⟩ (fun hf => ⟨dx, _, _, _, _, upd_same, ⟨p, _, _, _, rfl, SqT.of (by rw [upd_ne nph, upd_same]), dps _ _ hx, dps _ _ hy, dps _ _ hz, ?_⟩⟩)
    rotate_left
    · obtain ⟨a0, x0, e0, o0, f0, f1, f2⟩ := hf
      exact ⟨a0, x0, e0, o0, key _ _ f0 (ne_of f0 hh (by intro z; cases z)), f1, f2⟩
    exact .tup (SqT.of (by rw [upd_ne nph, upd_same])) (.cons (dps _ _ hx) (.cons (dps _ _ hy) (.cons (dps _ _ hz) .nil)))

/-! ### items -/
def itD (k : Str) (i : Nat) : PyData := .tuple [.str k, .int i]
def kindD (k : Str) (n : Nat) : List PyData := (List.range n).map (itD k)
theorem wipe_one (σ : L2.St) (j : Nat) (x : Option V) : wipe ((wipe σ [j]).set j x) [j] = wipe σ [j] := by
  show (((σ.set j none).set j x).set j none) = σ.set j none
  rw [List.set_set, List.set_set]
theorem yes_lc {A B : Hp → Prop} {σ : L2.St} {H : Hp} (h : A H) : tYes σ H (fun b H3 => if b = true then A H3 else B H3) := by
  show (if true = true then A H else B H)
  rw [if_pos rfl]
  exact h
/-- [(k, number) for number in range(n)], the number's slot j -/
theorem lc_kind {K : PySem.W.Frag} {σ : L2.St} {H1 : Hp} {Dl : Addr} {Qd : Hp → Prop} (k : Str) (n j : Nat) (hj : j < σ.length) (hn : n ≤ 1000) (hD : H1 Dl = none)
    (hd : ∀ H xs, Same H1 H → H Dl = some (.lst xs) → DpAll K H xs (kindD k n) → Qd H) :
    ∃ W : Nat → Nat → Hp → Prop, (∃ m, W 0 m (upd H1 Dl (.lst []))) ∧ ∀ i m H, W i m H →
      ((Itr 0 n).stop i H ∧ Qd H) ∨ ((Itr 0 n).go i H ∧ ∃ Nx : Hp → Prop, (∀ H', Nx H' → ∃ m', m' < m ∧ W (i + 1) m' H') ∧ ∀ x H', (Itr 0 n).yld i H x H' → gName j x (wipe σ [j]) H' fun σ2 H2 => wipe σ2 [j] = wipe σ [j] ∧ tYes σ2 H2 fun b H3 =>
        if b = true then tTup (tCons (tC (.str k)) (tCons (tVar j) tNil)) σ2 H3 fun y H4 => ∃ acc, H4 Dl = some (.lst acc) ∧ acc.length < sizeLine ∧ Nx (upd H4 Dl (.lst (acc ++ [y]))) else Nx H3) := by
  refine lc_range (lo := 0) (n := n) (fun i H => Same H1 H ∧ ∃ xs, H Dl = some (.lst xs) ∧ DpAll K H xs (kindD k i) ∧ xs.length = i) ⟨same_upd hD, [], upd_same, .nil, rfl⟩ ?_ ?_
  · rintro i H hi ⟨e, xs, hx, dx, lx⟩
    refine ⟨wipe_one σ j _, ?_⟩
    refine yes_lc ?_
    refine ⟨_, List.getElem?_set_self (by rw [wipe_length]; exact hj), (by show 2 ≤ sizeLine; decide), fun p hp => ?_⟩
    have np : Dl ≠ p := ne_of_none hx hp
    refine ⟨xs, by rw [upd_ne np]; exact hx, by rw [lx, sizeLine_eq]; omega, ?_⟩
    have e2 : Same H1 (upd (upd H p (.tup [.str k, .int (0 + (i : Int))])) Dl (.lst (xs ++ [.ref p]))) := fun b o q => by
      rw [upd_ne (ne_of_none q hD), upd_ne (ne_of_none (e b o q) hp)]
      exact e b o q
    refine ⟨e2, xs ++ [.ref p], upd_same, ?_, by rw [List.length_append, lx]; rfl⟩
    have ek : kindD k (i + 1) = kindD k i ++ [itD k i] := by
      unfold kindD
      rw [List.range_succ, List.map_append]
      rfl
    rw [ek]
    have tp : Tp H (upd (upd H p (.tup [.str k, .int (0 + (i : Int))])) Dl (.lst (xs ++ [.ref p]))) := fun b us r => by
      rcases r with r | ⟨o, r⟩
      · exact .inl (by rw [upd_ne (ne_of r hx (by intro z; cases z)), upd_ne (ne_of_none r hp)]; exact r)
      · exact .inr ⟨o, by rw [upd_ne (ne_of r hx (by intro z; cases z)), upd_ne (ne_of_none r hp)]; exact r⟩
    refine DpAll.app (Dp.tps tp _ _ (noLs_map _ (fun _ => rfl) _) dx) (.cons (.tup (SqT.of (xs := [.str k, .int (0 + (i : Int))]) (by rw [upd_ne np.symm, upd_same])) (.cons (.str k) (.cons ?_ .nil))) .nil)
    rw [Int.zero_add]
    exact .int _
  · rintro H ⟨e, xs, hx, dx, lx⟩
    exact hd H xs e hx dx
theorem scItems : FnScope ["self", "boxes", "seals", "things", "number"] ["self"] (defScope sItems) := ⟨rfl, rfl, rfl, by decide +kernel, rfl, by decide +kernel, by decide +kernel⟩
/-! ### item in house -/
theorem ty_tupQ {K : PySem.W.Frag} {H : Hp} {a : Addr} {xs : List V} (h : SqT K H a xs) : TyX K H (.ref a) (.type "tuple") := by
  rcases h with (h | ⟨o, h⟩) | ⟨o, _, _, h, hc, _⟩
  · exact .base (.tup h)
  · exact .fTuple h
  · exact .kTuple h hc
def spHas (K : PySem.W.Frag) (C : Addr) : Sp := fun vs H Q _ => ∃ (h a : Addr) (d : Hs) (k : Str) (i : Int), vs = [.ref h, .ref a] ∧ HouseAt K C H h d ∧ SqT K H a [.str k, .int i] ∧ Q (.bl (numOk i (manyOf d k))) H
theorem scHas : FnScope ["self", "item"] ["self", "item"] (defScope sHas) := ⟨rfl, rfl, rfl, by decide +kernel, rfl, by decide +kernel, by decide +kernel⟩
theorem ok_has {f gm gn C : Addr} {fd fdm fdn : FuncData} (F : Fun K "__contains__" "House.__contains__" sHas f fd) (B : Bt mg)
    (GM : FnOk P w K mg base CX0 1 gm fdm ["house", "word"] (spMany K C)) (mM : mg "how_many" = some (.ref gm)) (kM : PySem.W.keepIn K (.ref gm) = true) (bM : Binds K fdm ["house", "word"] [])
    (GN : FnOk P w K mg base CX0 1 gn fdn ["value", "limit"] spNum) (mN : mg "is_number" = some (.ref gn)) (kN : PySem.W.keepIn K (.ref gn) = true) (bN : Binds K fdn ["value", "limit"] []) :
    FnOk P w K mg base CX0 2 f fd ["self", "item"] (spHas K C) := by
  refine F.ok scHas (fun vs H Q E h => ?_) (fun cdv A outer s H vs Q E hr h => ?_)
  · obtain ⟨h, a, d, k, i, rfl, _⟩ := h
    rfl
  · obtain ⟨h, a, d, k, i, rfl, hh, ha, kq⟩ := h
    refine ⟨_, pss_one (ps_ret (pe_and (pe_callB call_isi (by rfl) B.isi (by decide +kernel) (pa_cons (pv 1) (pa_cons (pe_bltn (v := .ty "tuple") (by rfl) B.tup (by decide +kernel) rfl) pa_nil)))
      (pe_and (pe_cmpR op_eq (pe_callB call_len_seq (by rfl) B.len PySem.boot_len (pa_cons (pv 1) pa_nil)) pe_int (nomark _))
        (pe_one (pe_call GN hr rfl mN kN bN .nil pass0 (pa_cons (pe_ix ix_tup (pv 1) pe_int (fun _ _ => rfl)) (pa_cons (pe_call GM hr rfl mM kM bM .nil pass0 (pa_cons (pv 0) (pa_cons (pe_ix ix_tup (pv 1) pe_int (fun _ _ => rfl)) pa_nil))) pa_nil))))))), ?_⟩
    refine ⟨_, rfl, _, _, _, _, true, rfl, .ty "tuple", ty_tupQ ha, kit_ty (by decide +kernel), _, rfl, iteT ?_⟩
    refine ⟨_, rfl, _, _, rfl, .inr ha, rfl, true, rfl, iteT ?_⟩
    refine ⟨_, rfl, a, _, 1, _, rfl, rfl, ha, rfl, _, rfl, _, rfl, a, _, 0, _, rfl, rfl, ha, rfl, h, d, k, rfl, hh, i, _, rfl, ?_⟩
    exact kq
/-! ### house == other -/
theorem lay_st (d : Hs) : PyData.canLay0 (stD d) = true := by
  have h1 := SeqAt.canLay_of_shaped (shaped_pls d.bs)
  have h2 := SeqAt.canLay_of_shaped (shaped_pls d.ts)
  have h3 := SeqAt.canLay_of_shaped (shaped_pls d.ss)
  simp [stD, PyData.canLay0, PyData.canLayAll0, h1, h2, h3]
theorem depth_plsD (ps : List Pl) : PyData.depth (plsD ps) ≤ 2 := by
  have := depth_pls ps
  simp [plsD, PyData.depth]
  omega
end
end Kw



set_option Elab.async false
set_option linter.all false
set_option maxRecDepth 100000
set_option maxHeartbeats 4000000
namespace Kw
open PySem PySem.Spec PyProof.Rows L2
abbrev sBegun : Stmt := top 65
abbrev sTake : Stmt := top 66
abbrev sAlike : Stmt := top 67
abbrev sPlaces : Stmt := top 68
abbrev sHouse : Stmt := top 69
abbrev sErr : Stmt := top 82
/-! ### the law's box of draws -/
def BoxAt (H : Hp) (b l : Addr) : Prop := ∃ (ns : List Int) (m : Int), H b = some (.lst [.ref l, .int m]) ∧ H l = some (.lst (ns.map V.int)) ∧ ns.length ≤ 63
def Tbs (H H' : Hp) : Prop := ∀ a ps, H a = some (.tbl ps) → H' a = some (.tbl ps)
/-- a draw: the box is changed, nothing else -/
structure Kb (b l : Addr) (H H' : Hp) : Prop where
  kp : Kp b l H H'
  tb : Tbs H H'
theorem Kb.refl (b l : Addr) (H : Hp) : Kb b l H H := ⟨Kp.refl b l H, fun _ _ h => h⟩
theorem Kb.trans {b l : Addr} {H H1 H2 : Hp} (x : Kb b l H H1) (y : Kb b l H1 H2) : Kb b l H H2 := ⟨x.kp.trans y.kp, fun a ps h => y.tb a ps (x.tb a ps h)⟩
theorem Kb.same {b l : Addr} {H H' : Hp} (e : Same H H') : Kb b l H H' := ⟨Kp.same e, fun a ps h => e a _ h⟩
theorem Kb.nl {b l : Addr} {H H' : Hp} (x : Kb b l H H') : Nl H H' := x.kp.nl
theorem BoxAt.same {H H' : Hp} {b l : Addr} (e : Same H H') (x : BoxAt H b l) : BoxAt H' b l := by
  obtain ⟨ns, m, h1, h2, h3⟩ := x
  exact ⟨ns, m, e _ _ h1, e _ _ h2, h3⟩
theorem BoxAt.ne {H : Hp} {b l : Addr} (x : BoxAt H b l) : b ≠ l := by
  obtain ⟨ns, m, h1, h2, _⟩ := x
  refine ne_of h1 h2 fun z => ?_
  have z' : [V.ref l, V.int m] = ns.map V.int := HO.lst.inj z
  cases ns with
  | nil => cases z'
  | cons n r => cases z'
section
variable {P : Program} {w : World} {K : PySem.W.Frag} {mg : Str → Option Value} {base : Heap}
/-! ### _law_begun -/
def spBegun (K : PySem.W.Frag) : Sp := fun vs H Q _ => ∃ (a : Addr) (ns : List Int), vs = [.ref a] ∧ SqL K H a (ns.map V.int) ∧ ns.length ≤ 63 ∧ ∀ b l H', Same H H' → BoxAt H' b l → Q (.ref b) H'
theorem scBegun : FnScope ["_law_script", "_law_stirred", "_law_cell"] ["_law_script"] (defScope sBegun) := ⟨rfl, rfl, rfl, by decide +kernel, rfl, by decide +kernel, by decide +kernel⟩
theorem ok_begun {f : Addr} {fd : FuncData} (F : Fun K "_law_begun" "_law_begun" sBegun f fd) (B : Bt mg) : FnOk P w K mg base CX0 1 f fd ["_law_script"] (spBegun K) := by
  refine F.ok scBegun (fun vs H Q E h => ?_) (fun cdv A outer s H vs Q E hr h => ?_)
  · obtain ⟨a, ns, rfl, _⟩ := h
    rfl
  · obtain ⟨a, ns, rfl, hs, hl, k⟩ := h
    refine ⟨_, pss_cons (ps_set (i := 1) scBegun.nd rfl (.inl rfl) pe_int)
      (pss_cons (ps_for PassesOwn.never rfl (pi_list (pv 0)) (pg_name (i := 2) scBegun.nd rfl (.inl rfl))
        (pss_one (ps_set (i := 1) scBegun.nd rfl (.inl rfl) (pe_op op_mod (pe_callTy call_int1 (by rfl) B.int (by decide +kernel) (pa_cons (pe_op op_add (pe_op op_add (pe_op op_mul (pv 1) pe_int) (pe_op op_mul (pv 2) pe_int)) pe_int) pa_nil)) pe_int))))
      (pss_one (ps_ret (pe_lst (pa_cons (pe_callTy call_list_of (by rfl) B.lst (by decide +kernel) (pa_cons (pv 0) pa_nil))
        (pa_cons (pe_op op_mul (pv 1) (pe_callTy call_int1 (by rfl) B.int (by decide +kernel) (pa_cons (pe_cmpR op_gt (pe_callB call_len_seq (by rfl) B.len PySem.boot_len (pa_cons (pv 0) pa_nil)) pe_int (nomark _)) pa_nil))) pa_nil)))))), ?_⟩
    refine ⟨_, rfl, a, rfl, ⟨_, hs⟩, for_list (K := K) (a := a) (xs := ns.map V.int) (fun i σ H2 => H2 = H ∧ ∃ (z : Int) (v : Option V), σ = [some (.ref a), some (.int z), v])
      ⟨rfl, 0, none, rfl⟩ (fun i σ H2 _ ⟨e, _⟩ => by rw [e]; exact hs) ?_ ?_⟩
    · rintro i y σ H2 hi ⟨rfl, z, v, rfl⟩
      obtain ⟨c, rfl⟩ : ∃ c, y = V.int c := by
        rw [List.getElem?_map] at hi
        cases e : ns[i]? with
        | none => rw [e] at hi; cases hi
        | some c => rw [e] at hi; exact ⟨c, (Option.some.inj hi).symm⟩
      refine ⟨_, rfl, _, _, rfl, rfl, .inr (by decide), _, rfl, _, _, rfl, rfl, .inr (by decide), _, _, rfl, rfl, _, _, rfl, rfl, .inl ⟨_, rfl, _, _, rfl, rfl, (show (0 : Int) < 2147483647 by decide), ?_⟩⟩
      exact ⟨rfl, _, _, rfl⟩
    · rintro σ H2 ⟨rfl, z, v, rfl⟩
      refine ⟨_, rfl, a, _, rfl, .inl hs, fun l hl' => ?_⟩
      refine ⟨_, rfl, _, rfl, a, _, rfl, .inl (Same.seq (same_upd hl') hs), _, _, rfl, rfl, .inr ⟨_, rfl, _, _, rfl, rfl, .inr ?_, ?_⟩⟩
      · split <;> decide
      refine ⟨(by show 2 ≤ sizeLine; decide), fun b hb => ?_⟩
      have e1 := same_upd (o := HO.lst (ns.map V.int)) hl'
      have e2 := Same.upd2 (o := HO.lst [V.ref l, .int (z * if decide ((2 : Int) < ((ns.map V.int).length : Nat)) = true then 1 else 0)]) e1 hb
      refine k b l _ e2 ⟨ns, _, upd_same, ?_, hl⟩
      rw [upd_ne (fun q => by rw [← q, upd_same] at hb; cases hb), upd_same]

/-! ### _law_take -/
theorem ints_all (K : PySem.W.Frag) (H : Hp) : ∀ ns : List Int, DpAll K H (ns.map V.int) (ns.map PyData.int)
  | [] => .nil
  | n :: ns => .cons (.int n) (ints_all K H ns)
theorem ints_lay : ∀ ns : List Int, PyData.canLayAll0 (ns.map PyData.int) = true
  | [] => rfl
  | n :: ns => by simp [PyData.canLayAll0, PyData.canLay0, ints_lay ns]
theorem ints_depth : ∀ ns : List Int, PyData.depthAll (ns.map PyData.int) = 0
  | [] => rfl
  | n :: ns => by simp [PyData.depthAll, PyData.depth, ints_depth ns]
theorem ints_shaped (ns : List Int) : SeqAt.shaped (.list (ns.map PyData.int)) = true := by
  simp [SeqAt.shaped, PyData.canLay0, PyData.depth, ints_lay, ints_depth]
theorem ints_empty (ns : List Int) : PyData.eqv (.list (ns.map PyData.int)) (.list []) = decide (ns = []) := by
  cases ns with
  | nil => simp [PyData.eqv, PyData.eqvAll]
  | cons n ns => simp [PyData.eqv, PyData.eqvAll]
def spTake : Sp := fun vs H Q _ => ∃ (b l : Addr) (m : Int), vs = [.ref b, .int m] ∧ 0 < m ∧ m ≤ 1000 ∧ BoxAt H b l ∧ ∀ r H', 0 ≤ r → r < m → BoxAt H' b l → Kb b l H H' → Q (.int r) H'
theorem scTake : FnScope ["_law_box", "_law_many", "_law_figure"] ["_law_box", "_law_many"] (defScope sTake) := ⟨rfl, rfl, rfl, by decide +kernel, rfl, by decide +kernel, by decide +kernel⟩
theorem ok_take {f : Addr} {fd : FuncData} (F : Fun K "_law_take" "_law_take" sTake f fd) (B : Bt mg) : FnOk P w K mg base CX0 1 f fd ["_law_box", "_law_many"] spTake := by
  refine F.ok scTake (fun vs H Q E h => ?_) (fun cdv A outer s H vs Q E hr h => ?_)
  · obtain ⟨b, l, m, rfl, _⟩ := h
    rfl
  · obtain ⟨b, l, m, rfl, m0, m1, hB, k⟩ := h
    have hu : (cxOf CX0 P w K mg base ["_law_box", "_law_many", "_law_figure"] "_law_take" (defScope sTake) f cdv A outer s H E).nox.A.units + 64 < cLine := hr.units
    have nbl := hB.ne
    obtain ⟨ns, z, hb, hl, hn⟩ := hB
    refine ⟨_, pss_cons (ps_if (pt_cmpR (op_eqD hu) (pe_ix ix_list (pv 0) pe_int (fun _ _ => rfl)) (pe_lst pa_nil) (nomark _))
        (pss_cons (ps_asg (pe_op op_mod (pe_callTy call_int1 (by rfl) B.int (by decide +kernel) (pa_cons (pe_op op_mul (pe_ix ix_list (pv 0) pe_int (fun _ _ => rfl)) pe_int) pa_nil)) pe_int) (pg_sub (pv 0) pe_int set_list))
          (pss_one (ps_ret (pe_op op_mod (pe_callTy call_int1 (by rfl) B.int (by decide +kernel) (pa_cons (pe_op op_fdiv (pe_ix ix_list (pv 0) pe_int (fun _ _ => rfl)) pe_int) pa_nil)) (pv 1))))) pss_nil)
      (pss_cons (ps_set (i := 2) scTake.nd rfl (.inl rfl) (pe_ix ix_list (pe_ix ix_list (pv 0) pe_int (fun _ _ => rfl)) pe_int (fun _ _ => rfl)))
      (pss_cons (ps_asg (pe_op op_fdiv (pv 2) (pv 1)) (pg_sub (pe_ix ix_list (pv 0) pe_int (fun _ _ => rfl)) pe_int set_list))
      (pss_cons (ps_if (PW.pt (pw_or (pt_cmpR op_eq (pe_ix ix_list (pe_ix ix_list (pv 0) pe_int (fun _ _ => rfl)) pe_int (fun _ _ => rfl)) pe_int (nomark _))
            (pw_or1 (pt_cmpR op_eq (pe_ix ix_list (pe_ix ix_list (pv 0) pe_int (fun _ _ => rfl)) pe_int (fun _ _ => rfl)) (pe_un un_neg pe_int) (nomark _)))))
          (pss_one (ps_expr (pe_bm PySem.F.plainAttrs_list PySem.F.slot_list_pop PySem.F.type_list_pop mt_popAt (pe_ix ix_list (pv 0) pe_int (fun _ _ => rfl)) (pa_cons pe_int pa_nil)))) pss_nil)
      (pss_one (ps_ret (pe_op op_mod (pv 2) (pv 1))))))), ?_⟩
    refine ⟨_, rfl, b, _, 0, _, rfl, rfl, SqL.of hb, rfl, (by show 0 ≤ sizeLine; decide), fun p hp => ?_⟩
    have e0 : Same H (upd H p (.lst [])) := same_upd hp
    have hb0 := e0 _ _ hb
    have hl0 := e0 _ _ hl
    refine ⟨.list (ns.map PyData.int), .list [], .lst (SqL.of hl0) (ints_all K _ ns), .lst (SqL.of upd_same) .nil, ints_shaped ns, by decide, _, rfl, ?_⟩
    rw [ints_empty]
    refine ite2 (fun c => ?_) (fun c => ?_)
    · have c' : ns = [] := of_decide_eq_true c
      subst c'
      refine ⟨_, rfl, b, _, 1, _, rfl, rfl, SqL.of hb0, rfl, _, _, rfl, rfl, .inr (by decide), .inl ⟨_, rfl, _, _, rfl, rfl, (show (0 : Int) < 2147483647 by decide), ?_⟩⟩
      refine ⟨_, rfl, b, _, 1, 1, rfl, rfl, hb0, rfl, ?_⟩
      refine ⟨_, rfl, b, _, 1, _, rfl, rfl, SqL.of upd_same, rfl, _, _, rfl, rfl, ⟨by decide, by decide⟩, .inl ⟨_, rfl, _, rfl, _, _, rfl, rfl, m0, ?_⟩⟩
      refine k _ _ (Int.emod_nonneg _ (by omega)) (Int.emod_lt_of_pos _ m0) ⟨[], _, upd_same, by rw [upd_ne nbl.symm]; exact hl0, Nat.zero_le _⟩ ?_
      refine (Kb.same e0).trans ⟨⟨fun a o h n1 n2 => ?_, fun a xs h n1 n2 => ?_⟩, fun a ps h => ?_⟩
      · rw [upd_ne (ne_of h hb0 (n1 _))]; exact h
      · rw [upd_ne n1]; exact h
      · rw [upd_ne (ne_of h hb0 (by intro q; cases q))]; exact h
    · have c' : ¬ ns = [] := fun q => c (decide_eq_true q)
      obtain ⟨n0, r, rfl⟩ : ∃ n0 r, ns = n0 :: r := by
        cases ns with
        | nil => exact absurd rfl c'
        | cons n0 r => exact ⟨n0, r, rfl⟩
      rw [List.map_cons] at hl0 hl
      have len0 : (V.int n0 :: r.map V.int).length = r.length + 1 := by simp
      have hr1 : r.length ≤ 62 := by simp at hn; omega
      refine ⟨_, rfl, b, _, 0, _, rfl, rfl, SqL.of hb0, rfl, l, _, 0, _, rfl, rfl, SqL.of hl0, atI_nat (j := 0) rfl, ?_⟩
      refine ⟨_, rfl, _, rfl, n0, m, rfl, rfl, ⟨m0, by omega⟩, _, rfl, b, _, 0, _, rfl, rfl, SqL.of hb0, rfl, l, _, 0, 0, rfl, rfl, hl0, ?_, ?_⟩
      · rw [len0]
        simp [ixN]
      rw [List.set_cons_zero]
      have hb1 : (upd (upd H p (.lst [])) l (.lst (V.int (n0 / m) :: r.map V.int))) b = some (.lst [.ref l, .int z]) := by rw [upd_ne nbl]; exact hb0
      have fin : ∀ (ns' : List Int), ns'.length ≤ 63 → ∀ H', H' b = some (.lst [.ref l, .int z]) → H' l = some (.lst (ns'.map V.int)) → (∀ a o, (upd H p (.lst [])) a = some o → a ≠ l → H' a = some o) →
          Q (.int (n0 % m)) H' := fun ns' hn' H' g1 g2 g3 => by
        refine k _ _ (Int.emod_nonneg _ (by omega)) (Int.emod_lt_of_pos _ m0) ⟨ns', z, g1, g2, hn'⟩ ((Kb.same e0).trans ⟨⟨fun a o h n1 n2 => ?_, fun a xs h n1 n2 => ?_⟩, fun a ps h => ?_⟩)
        · exact g3 a o h (ne_of h hl0 (n1 _))
        · exact g3 a _ h n2
        · exact g3 a _ h (ne_of h hl0 (by intro q; cases q))
      have popped : tDrop (tBM K "list" rPopAt (tOp (rIxL K) (tVar 0) (tC (.int 0))) (tCons (tC (.int 0)) tNil)) { nx := tRet (tOp (rI (fun _ j => 0 < j) fun i j => .int (i % j)) (tVar 2) (tVar 1)) { nx := fun _ H' => Q .non H', rt := Q }, rt := Q }
          [some (.ref b), some (.int m), some (.int n0)] (upd (upd H p (.lst [])) l (.lst (V.int (n0 / m) :: r.map V.int))) := by
        refine ⟨_, rfl, b, _, 0, _, rfl, rfl, SqL.of hb1, rfl, .inl ⟨rfl, _, SqL.of upd_same⟩, l, _, 0, 0, _, rfl, rfl, upd_same, by decide, by decide, ?_, rfl, ?_⟩
        · simp [seqIndex?]
        · rw [upd_upd]
          refine ⟨_, rfl, _, rfl, n0, m, rfl, rfl, m0, ?_⟩
          exact fin r (by omega) _ (by rw [upd_ne nbl]; exact hb0) upd_same fun a o h ne => by rw [upd_ne ne]; exact h
      have kept : tRet (tOp (rI (fun _ j => 0 < j) fun i j => .int (i % j)) (tVar 2) (tVar 1)) { nx := fun _ H' => Q .non H', rt := Q }
          [some (.ref b), some (.int m), some (.int n0)] (upd (upd H p (.lst [])) l (.lst (V.int (n0 / m) :: r.map V.int))) := by
        refine ⟨_, rfl, _, rfl, n0, m, rfl, rfl, m0, ?_⟩
        exact fin ((n0 / m) :: r) (by simp; omega) _ hb1 (by rw [upd_same]; rfl) fun a o h ne => by rw [upd_ne ne]; exact h
      refine ⟨_, rfl, b, _, 0, _, rfl, rfl, SqL.of hb1, rfl, l, _, 0, _, rfl, rfl, SqL.of upd_same, atI_nat (j := 0) rfl, rfl, _, rfl, ?_⟩
      refine ite2 (fun _ => iteT popped) (fun _ => ?_)
      refine ⟨_, rfl, b, _, 0, _, rfl, rfl, SqL.of hb1, rfl, l, _, 0, _, rfl, rfl, SqL.of upd_same, atI_nat (j := 0) rfl, _, rfl, rfl, _, rfl, ?_⟩
      exact ite2 (fun _ => popped) (fun _ => kept)

/-! ### _law_alike, asked of equal data -/
mutual
def okA : PyData → Bool
  | .int _ => true
  | .str _ => true
  | .none => true
  | .bool _ => true
  | .tuple ds => okAs ds && decide (ds.length ≤ 1000)
  | .list ds => okAs ds && decide (ds.length ≤ 1000)
  | _ => false
def okAs : List PyData → Bool
  | [] => true
  | d :: ds => okA d && okAs ds
end
theorem okAs_get : ∀ {ds : List PyData} {i : Nat} {d : PyData}, okAs ds = true → ds[i]? = some d → okA d = true
  | [], _, _, _, e => by simp at e
  | d :: ds, 0, _, h, e => by
    simp at e
    subst e
    simp [okAs] at h
    exact h.1
  | d :: ds, i + 1, _, h, e => by
    simp [okAs] at h
    exact okAs_get h.2 (by simpa using e)
theorem depth_get : ∀ {ds : List PyData} {i : Nat} {d : PyData}, ds[i]? = some d → d.depth ≤ PyData.depthAll ds
  | [], _, _, e => by simp at e
  | d :: ds, 0, _, e => by
    simp at e
    subst e
    simp [PyData.depthAll]
    omega
  | d :: ds, i + 1, _, e => by
    have := depth_get (ds := ds) (i := i) (by simpa using e)
    simp [PyData.depthAll]
    omega
theorem DpAll.at2 {K : PySem.W.Frag} {H : Hp} : ∀ {vs : List V} {ds : List PyData} {i : Nat} {d : PyData}, DpAll K H vs ds → ds[i]? = some d → ∃ x, vs[i]? = some x ∧ Dp K H x d
  | _, _, _, _, .nil, e => by simp at e
  | _, _, 0, _, .cons h _, e => by
    simp at e
    subst e
    exact ⟨_, rfl, h⟩
  | _, _, i + 1, d, .cons _ t, e => by
    obtain ⟨x, h1, h2⟩ := DpAll.at2 (i := i) (d := d) t (by simpa using e)
    exact ⟨x, by simpa using h1, h2⟩
theorem ty_tup {K : PySem.W.Frag} {H : Hp} {a : Addr} {xs : List V} (h : SqT K H a xs) : TyX K H (.ref a) (.type "tuple") := by
  rcases h with (h | ⟨o, h⟩) | ⟨o, _, _, h, hc, _⟩
  · exact .base (.tup h)
  · exact .fTuple h
  · exact .kTuple h hc
theorem ty_lst {K : PySem.W.Frag} {H : Hp} {a : Addr} {xs : List V} (h : SqL K H a xs) : TyX K H (.ref a) (.type "list") := by
  rcases h with (h | ⟨o, h⟩) | ⟨o, _, _, h, hc, _⟩
  · exact .base (.lst h)
  · exact .base (.frz h)
  · exact .kList h hc
def spAlike (K : PySem.W.Frag) (n : Nat) : Sp := fun vs H Q _ => ∃ (x y : V) (d : PyData), vs = [x, y] ∧ Dp K H x d ∧ Dp K H y d ∧ okA d = true ∧ d.depth < n ∧ Q (.bl true) H
theorem scAlike : FnScope ["_law_found", "_law_due", "_law_k"] ["_law_found", "_law_due"] (defScope sAlike) := ⟨rfl, rfl, rfl, by decide +kernel, rfl, by decide +kernel, by decide +kernel⟩
theorem ok_alike {f : Addr} {fd : FuncData} (F : Fun K "_law_alike" "_law_alike" sAlike f fd) (B : Bt mg) (mF : mg "_law_alike" = some (.ref f)) (bF : Binds K fd ["_law_found", "_law_due"] []) : ∀ n : Nat, FnOk P w K mg base CX0 n f fd ["_law_found", "_law_due"] (spAlike K n) := by
  intro n
  induction n with
  | zero => exact ⟨fun vs H Q E h => by obtain ⟨_, _, _, _, _, _, _, h, _⟩ := h; omega, fun A outer s H args us vs Q E _ _ _ _ h => by obtain ⟨_, _, _, _, _, _, _, h, _⟩ := h; omega⟩
  | succ n G =>
  refine F.ok scAlike (fun vs H Q E h => ?_) (fun cdv A outer s H vs Q E hr h => ?_)
  · obtain ⟨x, y, d, rfl, _⟩ := h
    rfl
  · obtain ⟨x, y, d, rfl, hx, hy, ok, hd, k⟩ := h
    refine ⟨_, pss_cons (ps_if (pt_cmp (pc_isN (pv 1))) (pss_one (ps_ret (pe_cmp (pc_isN (pv 0))))) pss_nil)
      (pss_cons (ps_if (pt_val (pe_callB call_isi (by rfl) B.isi (by decide +kernel) (pa_cons (pv 1) (pa_cons (pe_bltn (v := .ty "bool") (by rfl) B.bool (by decide +kernel) rfl) pa_nil)))) (pss_one (ps_ret (pe_and (pe_callB call_isi (by rfl) B.isi (by decide +kernel) (pa_cons (pv 0) (pa_cons (pe_bltn (v := .ty "bool") (by rfl) B.bool (by decide +kernel) rfl) pa_nil))) (pe_one (pe_cmpR op_eq (pv 0) (pv 1) (nomark _)))))) pss_nil)
      (pss_cons (ps_if (pt_val (pe_callB call_isi (by rfl) B.isi (by decide +kernel) (pa_cons (pv 1) (pa_cons (pe_bltn (v := .ty "int") (by rfl) B.int (by decide +kernel) rfl) pa_nil)))) (pss_one (ps_ret (pe_and (pe_callB call_isi (by rfl) B.isi (by decide +kernel) (pa_cons (pv 0) (pa_cons (pe_bltn (v := .ty "int") (by rfl) B.int (by decide +kernel) rfl) pa_nil))) (pe_and (pe_not (pe_callB call_isi (by rfl) B.isi (by decide +kernel) (pa_cons (pv 0) (pa_cons (pe_bltn (v := .ty "bool") (by rfl) B.bool (by decide +kernel) rfl) pa_nil)))) (pe_one (pe_cmpR op_eq (pv 0) (pv 1) (nomark _))))))) pss_nil)
      (pss_cons (ps_if (pt_val (pe_callB call_isi (by rfl) B.isi (by decide +kernel) (pa_cons (pv 1) (pa_cons (pe_bltn (v := .ty "str") (by rfl) B.str (by decide +kernel) rfl) pa_nil)))) (pss_one (ps_ret (pe_and (pe_callB call_isi (by rfl) B.isi (by decide +kernel) (pa_cons (pv 0) (pa_cons (pe_bltn (v := .ty "str") (by rfl) B.str (by decide +kernel) rfl) pa_nil))) (pe_one (pe_cmpR op_eq (pv 0) (pv 1) (nomark _)))))) pss_nil)
      (pss_cons (ps_if (PW.pt (pw_or (pt_cmpR op_ne (pe_callB call_isi (by rfl) B.isi (by decide +kernel) (pa_cons (pv 1) (pa_cons (pe_bltn (v := .ty "tuple") (by rfl) B.tup (by decide +kernel) rfl) pa_nil))) (pe_callB call_isi (by rfl) B.isi (by decide +kernel) (pa_cons (pv 0) (pa_cons (pe_bltn (v := .ty "tuple") (by rfl) B.tup (by decide +kernel) rfl) pa_nil))) (nomark _)) (pw_or1 (pt_cmpR op_ne (pe_callB call_isi (by rfl) B.isi (by decide +kernel) (pa_cons (pv 1) (pa_cons (pe_bltn (v := .ty "list") (by rfl) B.lst (by decide +kernel) rfl) pa_nil))) (pe_callB call_isi (by rfl) B.isi (by decide +kernel) (pa_cons (pv 0) (pa_cons (pe_bltn (v := .ty "list") (by rfl) B.lst (by decide +kernel) rfl) pa_nil))) (nomark _))))) (pss_one (ps_ret pe_bl)) pss_nil)
      (pss_cons (ps_if (pt_cmpR op_ne (pe_callB call_len_seq (by rfl) B.len PySem.boot_len (pa_cons (pv 0) pa_nil)) (pe_callB call_len_seq (by rfl) B.len PySem.boot_len (pa_cons (pv 1) pa_nil)) (nomark _)) (pss_one (ps_ret pe_bl)) pss_nil)
      (pss_cons (ps_for PassesOwn.never rfl (pi_range1 rfl B.rng (pa_cons (pe_callB call_len_seq (by rfl) B.len PySem.boot_len (pa_cons (pv 1) pa_nil)) pa_nil)) (pg_name (i := 2) scAlike.nd rfl (.inl rfl))
        (pss_one (ps_if (pt_not (pt_val (pe_call G hr rfl mF F.kp bF .nil pass0 (pa_cons (pe_ix ix_seq (pv 0) (pv 2) (fun _ _ => rfl)) (pa_cons (pe_ix ix_seq (pv 1) (pv 2) (fun _ _ => rfl)) pa_nil))))) (pss_one (ps_ret pe_bl)) pss_nil)))
      (pss_one (ps_ret pe_bl)))))))), ?_⟩
    cases hx with
    | non =>
      cases hy
      exact ⟨_, rfl, _, rfl, iteT ⟨_, rfl, k⟩⟩
    | bl c =>
      cases hy
      refine ⟨_, rfl, _, rfl, iteF ?_⟩
      refine ⟨_, rfl, _, _, _, _, true, rfl, .ty "bool", .base (.bl c), kit_ty (by decide +kernel), _, rfl, iteT ?_⟩
      refine ⟨_, rfl, _, _, _, _, true, rfl, .ty "bool", .base (.bl c), kit_ty (by decide +kernel), _, rfl, iteT ?_⟩
      refine ⟨_, rfl, _, rfl, rfl, ?_⟩
      rw [decide_eq_true rfl]
      exact k
    | int i =>
      cases hy
      refine ⟨_, rfl, _, rfl, iteF ?_⟩
      refine ⟨_, rfl, _, _, _, _, false, rfl, .ty "bool", .base (.int i), kit_ty (by decide +kernel), _, rfl, iteF ?_⟩
      refine ⟨_, rfl, _, _, _, _, true, rfl, .ty "int", .base (.int i), kit_ty (by decide +kernel), _, rfl, iteT ?_⟩
      refine ⟨_, rfl, _, _, _, _, true, rfl, .ty "int", .base (.int i), kit_ty (by decide +kernel), _, rfl, iteT ?_⟩
      refine ⟨_, rfl, _, _, _, _, false, rfl, .ty "bool", .base (.int i), kit_ty (by decide +kernel), _, rfl, _, rfl, iteT ?_⟩
      refine ⟨_, rfl, _, rfl, rfl, ?_⟩
      rw [decide_eq_true rfl]
      exact k
    | str z =>
      cases hy
      refine ⟨_, rfl, _, rfl, iteF ?_⟩
      refine ⟨_, rfl, _, _, _, _, false, rfl, .ty "bool", .base (.str z), kit_ty (by decide +kernel), _, rfl, iteF ?_⟩
      refine ⟨_, rfl, _, _, _, _, false, rfl, .ty "int", .base (.str z), kit_ty (by decide +kernel), _, rfl, iteF ?_⟩
      refine ⟨_, rfl, _, _, _, _, true, rfl, .ty "str", .base (.str z), kit_ty (by decide +kernel), _, rfl, iteT ?_⟩
      refine ⟨_, rfl, _, _, _, _, true, rfl, .ty "str", .base (.str z), kit_ty (by decide +kernel), _, rfl, iteT ?_⟩
      refine ⟨_, rfl, _, rfl, rfl, ?_⟩
      rw [decide_eq_true rfl]
      exact k
    | @lst a xs ds hs ha =>
      cases hy with
      | @lst b ys _ hs2 ha2 =>
      have ok' : okAs ds = true ∧ ds.length ≤ 1000 := by simpa [okA] using ok
      have hdd : PyData.depthAll ds < n := by
        simp [PyData.depth] at hd
        omega
      have l1 := DpAll.len ha
      have l2 := DpAll.len ha2
      have t1 := ty_lst hs
      have t2 := ty_lst hs2
      refine ⟨_, rfl, _, rfl, iteF ?_⟩
      refine ⟨_, rfl, _, _, _, _, false, rfl, .ty "bool", t2, kit_ty (by decide +kernel), _, rfl, iteF ?_⟩
      refine ⟨_, rfl, _, _, _, _, false, rfl, .ty "int", t2, kit_ty (by decide +kernel), _, rfl, iteF ?_⟩
      refine ⟨_, rfl, _, _, _, _, false, rfl, .ty "str", t2, kit_ty (by decide +kernel), _, rfl, iteF ?_⟩
      refine ⟨_, rfl, _, _, _, _, false, rfl, .ty "tuple", t2, kit_ty (by decide +kernel), _, rfl, _, _, _, _, false, rfl, .ty "tuple", t1, kit_ty (by decide +kernel), rfl, _, rfl, iteF ?_⟩
      refine ⟨_, rfl, _, _, _, _, true, rfl, .ty "list", t2, kit_ty (by decide +kernel), _, rfl, _, _, _, _, true, rfl, .ty "list", t1, kit_ty (by decide +kernel), rfl, _, rfl, iteF ?_⟩
      refine ⟨_, rfl, a, xs, rfl, .inl hs, _, rfl, b, ys, rfl, .inl hs2, rfl, _, rfl, ?_⟩
      rw [decI, l1, l2, decide_eq_true rfl]
      refine iteF ?_
      refine ⟨_, rfl, b, ys, rfl, .inl hs2, _, rfl, by omega, by omega, ?_⟩
      rw [show ((ys.length : Nat) : Int).toNat = ys.length by omega]
      refine for_range (lo := 0) (n := ys.length) (fun i σ H2 => H2 = H ∧ ∃ v : Option V, σ = [some (.ref a), some (.ref b), v]) ⟨rfl, none, rfl⟩ ?_ ?_
      · rintro i σ H2 hi ⟨rfl, v, rfl⟩
        obtain ⟨d', hd'⟩ : ∃ d', ds[i]? = some d' := ⟨ds[i]'(by omega), List.getElem?_eq_getElem (by omega)⟩
        obtain ⟨xv, hxv, dxv⟩ := DpAll.at2 ha hd'
        obtain ⟨yv, hyv, dyv⟩ := DpAll.at2 ha2 hd'
        have ax : atI xs (0 + (i : Int)) = some xv := by rw [Int.zero_add]; exact atI_nat hxv
        have ay : atI ys (0 + (i : Int)) = some yv := by rw [Int.zero_add]; exact atI_nat hyv
        have dep := depth_get hd'
        refine ⟨_, rfl, _, rfl, .inl ⟨a, xs, _, xv, rfl, rfl, hs, ax, _, rfl, _, rfl, .inl ⟨b, ys, _, yv, rfl, rfl, hs2, ay, xv, yv, d', rfl, dxv, dyv, okAs_get ok'.1 hd', by omega, true, rfl, iteF ?_⟩⟩⟩
        exact ⟨rfl, _, rfl⟩
      · rintro σ H2 ⟨rfl, v, rfl⟩
        exact k
    | @tup a xs ds hs ha =>
      cases hy with
      | @tup b ys _ hs2 ha2 =>
      have ok' : okAs ds = true ∧ ds.length ≤ 1000 := by simpa [okA] using ok
      have hdd : PyData.depthAll ds < n := by
        simp [PyData.depth] at hd
        omega
      have l1 := DpAll.len ha
      have l2 := DpAll.len ha2
      have t1 := ty_tup hs
      have t2 := ty_tup hs2
      refine ⟨_, rfl, _, rfl, iteF ?_⟩
      refine ⟨_, rfl, _, _, _, _, false, rfl, .ty "bool", t2, kit_ty (by decide +kernel), _, rfl, iteF ?_⟩
      refine ⟨_, rfl, _, _, _, _, false, rfl, .ty "int", t2, kit_ty (by decide +kernel), _, rfl, iteF ?_⟩
      refine ⟨_, rfl, _, _, _, _, false, rfl, .ty "str", t2, kit_ty (by decide +kernel), _, rfl, iteF ?_⟩
      refine ⟨_, rfl, _, _, _, _, true, rfl, .ty "tuple", t2, kit_ty (by decide +kernel), _, rfl, _, _, _, _, true, rfl, .ty "tuple", t1, kit_ty (by decide +kernel), rfl, _, rfl, iteF ?_⟩
      refine ⟨_, rfl, _, _, _, _, false, rfl, .ty "list", t2, kit_ty (by decide +kernel), _, rfl, _, _, _, _, false, rfl, .ty "list", t1, kit_ty (by decide +kernel), rfl, _, rfl, iteF ?_⟩
      refine ⟨_, rfl, a, xs, rfl, .inr hs, _, rfl, b, ys, rfl, .inr hs2, rfl, _, rfl, ?_⟩
      rw [decI, l1, l2, decide_eq_true rfl]
      refine iteF ?_
      refine ⟨_, rfl, b, ys, rfl, .inr hs2, _, rfl, by omega, by omega, ?_⟩
      rw [show ((ys.length : Nat) : Int).toNat = ys.length by omega]
      refine for_range (lo := 0) (n := ys.length) (fun i σ H2 => H2 = H ∧ ∃ v : Option V, σ = [some (.ref a), some (.ref b), v]) ⟨rfl, none, rfl⟩ ?_ ?_
      · rintro i σ H2 hi ⟨rfl, v, rfl⟩
        obtain ⟨d', hd'⟩ : ∃ d', ds[i]? = some d' := ⟨ds[i]'(by omega), List.getElem?_eq_getElem (by omega)⟩
        obtain ⟨xv, hxv, dxv⟩ := DpAll.at2 ha hd'
        obtain ⟨yv, hyv, dyv⟩ := DpAll.at2 ha2 hd'
        have ax : atI xs (0 + (i : Int)) = some xv := by rw [Int.zero_add]; exact atI_nat hxv
        have ay : atI ys (0 + (i : Int)) = some yv := by rw [Int.zero_add]; exact atI_nat hyv
        have dep := depth_get hd'
        refine ⟨_, rfl, _, rfl, .inr (.inl ⟨a, xs, _, xv, rfl, rfl, hs, ax, _, rfl, _, rfl, .inr (.inl ⟨b, ys, _, yv, rfl, rfl, hs2, ay, xv, yv, d', rfl, dxv, dyv, okAs_get ok'.1 hd', by omega, true, rfl, iteF ?_⟩)⟩)⟩
        exact ⟨rfl, _, rfl⟩
      · rintro σ H2 ⟨rfl, v, rfl⟩
        exact k
end
end Kw



set_option Elab.async false
set_option linter.all false
set_option maxRecDepth 100000
set_option maxHeartbeats 4000000
namespace Kw
open PySem PySem.Spec PyProof.Rows L2
section
variable {P : Program} {w : World} {K : PySem.W.Frag} {mg : Str → Option Value} {base : Heap}
theorem BoxAt.upd {H : Hp} {b l p : Addr} {o : HO} (hp : H p = none) (x : BoxAt H b l) : BoxAt (L2.upd H p o) b l := BoxAt.same (same_upd hp) x
theorem numOk_of {r m : Int} (h0 : 0 ≤ r) (h1 : r < m) : numOk r m = true := by
  unfold numOk
  rw [decide_eq_true h0, decide_eq_true h1]
  rfl
/-! ### _law_places -/
def spPlaces (K : PySem.W.Frag) : Sp := fun vs H Q _ => ∃ (b l : Addr) (h m : Int), vs = [.ref b, .int h, .int m] ∧ 0 < h ∧ h ≤ 1000 ∧ 0 ≤ m ∧ m ≤ 1000 ∧ BoxAt H b l ∧ ∀ v q H', Dp K H' v (plD q) → plOk q h m = true → BoxAt H' b l → Kb b l H H' → Q v H'
theorem scPlaces : FnScope ["_law_box", "_law_hands_here", "_law_many"] ["_law_box", "_law_hands_here", "_law_many"] (defScope sPlaces) := ⟨rfl, rfl, rfl, by decide +kernel, rfl, by decide +kernel, by decide +kernel⟩
theorem ok_places {f g : Addr} {fd fdg : FuncData} (F : Fun K "_law_places" "_law_places" sPlaces f fd) (G : FnOk P w K mg base CX0 1 g fdg ["_law_box", "_law_many"] spTake) (mG : mg "_law_take" = some (.ref g)) (kG : PySem.W.keepIn K (.ref g) = true) (bG : Binds K fdg ["_law_box", "_law_many"] []) :
    FnOk P w K mg base CX0 2 f fd ["_law_box", "_law_hands_here", "_law_many"] (spPlaces K) := by
  refine F.ok scPlaces (fun vs H Q E h => ?_) (fun cdv A outer s H vs Q E hr h => ?_)
  · obtain ⟨b, l, h, m, rfl, _⟩ := h
    rfl
  · obtain ⟨b, l, h, m, rfl, h0, h1, m0, m1, hB, k⟩ := h
    refine ⟨_, pss_cons (ps_if (PW.pt (pw_and (pt_cmpR op_gt (pv 2) pe_int (nomark _)) (pw_and1 (pt_cmpR op_eq (pe_call G hr rfl mG kG bG .nil pass0 (pa_cons (pv 0) (pa_cons pe_int pa_nil))) pe_int (nomark _)))))
        (pss_one (ps_ret (pe_tup (pa_cons pe_str (pa_cons (pe_call G hr rfl mG kG bG .nil pass0 (pa_cons (pv 0) (pa_cons (pv 2) pa_nil))) pa_nil))))) pss_nil)
      (pss_one (ps_ret (pe_tup (pa_cons pe_str (pa_cons (pe_call G hr rfl mG kG bG .nil pass0 (pa_cons (pv 0) (pa_cons (pv 1) pa_nil))) pa_nil))))), ?_⟩
    have fin : ∀ (H1 : Hp) (wd : Wd) (r : Int), BoxAt H1 b l → Kb b l H H1 → plOk (wd, r) h m = true → ∀ p, H1 p = none → Q (.ref p) (L2.upd H1 p (.tup [.str wd.str, .int r])) := fun H1 wd r hB1 hk ok p hp =>
      k _ (wd, r) _ (.tup (SqT.of upd_same) (.cons (.str _) (.cons (.int _) .nil))) ok (hB1.upd hp) (hk.trans (Kb.same (same_upd hp)))
    have hand : ∀ H1, BoxAt H1 b l → Kb b l H H1 → tRet (tTup (tCons (tC (.str "hand")) (tCons (tCall spTake [] E0 (tCons (tVar 0) (tCons (tVar 1) tNil))) tNil))) { nx := fun _ H' => Q .non H', rt := Q } (L2.start ["_law_box", "_law_hands_here", "_law_many"] [.ref b, .int h, .int m]) H1 := fun H1 hB1 hk => by
      refine ⟨_, rfl, _, rfl, b, l, h, rfl, h0, h1, hB1, fun r H2 r0 r1 hB2 hk2 => ⟨(by show 2 ≤ sizeLine; decide), fin H2 .hand r hB2 (hk.trans hk2) ?_⟩⟩
      exact numOk_of r0 r1
    refine ⟨_, rfl, _, _, rfl, rfl, _, rfl, ?_⟩
    refine ite2 (fun c => ?_) (fun c => iteF (hand H hB (Kb.refl b l H)))
    have c' : 0 < m := of_decide_eq_true c
    refine ⟨_, rfl, b, l, 2, rfl, by decide, by decide, hB, fun r H2 r0 r1 hB2 hk2 => ⟨rfl, _, rfl, ?_⟩⟩
    refine ite2 (fun _ => ?_) (fun _ => hand H2 hB2 hk2)
    refine ⟨_, rfl, _, rfl, b, l, m, rfl, c', m1, hB2, fun r2 H3 r20 r21 hB3 hk3 => ⟨(by show 2 ≤ sizeLine; decide), fin H3 .box r2 hB3 (hk2.trans hk3) ?_⟩⟩
    exact numOk_of r20 r21
/-! ### _law_house -/
theorem bad_none {f : Nat → Pl → Bool} : ∀ (l : List Pl) (k : Nat), (∀ i p, l[i]? = some p → f (k + i) p = false) → firstBad f k l = none
  | [], _, _ => rfl
  | p :: r, k, h => by
    have h0 := h 0 p rfl
    rw [Nat.add_zero] at h0
    show (if f k p = true then some k else firstBad f (k + 1) r) = none
    rw [h0, if_neg (by decide)]
    exact bad_none r (k + 1) fun i q e => by
      have := h (i + 1) q (by simpa using e)
      rw [show k + 1 + i = k + (i + 1) by omega]
      exact this
/-- what a drawn house is -/
structure HsOk (d : Hs) : Prop where
  h0 : 1 ≤ d.hands
  h1 : d.hands ≤ 4
  b0 : 1 ≤ d.bs.length
  b1 : d.bs.length ≤ 3
  t1 : d.ts.length ≤ 4
  s1 : d.ss.length ≤ 3
  okE : errOf d.hands d.bs d.ts d.ss = none
  nb : ∀ p ∈ d.bs, p.1 ≠ .gone
  nt : ∀ p ∈ d.ts, p.1 ≠ .gone
  ns : ∀ p ∈ d.ss, p.1 ≠ .gone
theorem Kb.updD {b l D : Addr} {H H' : Hp} {o : HO} (k : Kb b l H H') (hD : H D = .none) : Kb b l H (L2.upd H' D o) :=
  ⟨⟨fun a u h n1 n2 => by rw [upd_ne (ne_of_none h hD)]; exact k.kp.nl a u h n1 n2, fun a xs h n1 n2 => by rw [upd_ne (ne_of_none h hD)]; exact k.kp.ls a xs h n1 n2⟩, fun a ps h => by rw [upd_ne (ne_of_none h hD)]; exact k.tb a ps h⟩
theorem BoxAt.neL {H : Hp} {b l D : Addr} (x : BoxAt H b l) (hD : H D = .none) : D ≠ b ∧ D ≠ l := by
  obtain ⟨ns, m, h1, h2, _⟩ := x
  exact ⟨(ne_of_none h1 hD).symm, (ne_of_none h2 hD).symm⟩
theorem BoxAt.updD {H : Hp} {b l D : Addr} {o : HO} (x : BoxAt H b l) (n1 : D ≠ b) (n2 : D ≠ l) : BoxAt (L2.upd H D o) b l := by
  obtain ⟨ns, m, h1, h2, h3⟩ := x
  exact ⟨ns, m, by rw [upd_ne n1.symm]; exact h1, by rw [upd_ne n2.symm]; exact h2, h3⟩
theorem tp_lst {H : Hp} {D : Addr} {xs : List V} {o : HO} (h : H D = some (.lst xs)) : Tp H (L2.upd H D o) := fun a us r => by
  rcases r with r | ⟨u, r⟩
  · exact .inl (by rw [upd_ne (ne_of r h (by intro z; cases z))]; exact r)
  · exact .inr ⟨u, by rw [upd_ne (ne_of r h (by intro z; cases z))]; exact r⟩
theorem tp_nl {H H' : Hp} (k : Nl H H') : Tp H H' := fun a us r => by
  rcases r with r | ⟨u, r⟩
  · exact .inl (k _ _ r (fun _ z => nomatch z) fun _ z => nomatch z)
  · exact .inr ⟨u, k _ _ r (fun _ z => nomatch z) fun _ z => nomatch z⟩
/-- [_law_places(box, hands, x) for index in range(n)] -/
theorem lc_pl {σ : L2.St} {H2 : Hp} {D b l : Addr} {Qd : Hp → Prop} (x : Nat) (hands : Int) (g : Nat → Int) (n : Nat) (hn : n ≤ 100) (h0 : ∀ y, ((wipe σ [7]).set 7 y)[0]? = some (some (.ref b))) (h2 : ∀ y, ((wipe σ [7]).set 7 y)[2]? = some (some (.int hands)))
    (hx : ∀ i : Nat, ((wipe σ [7]).set 7 (some (.int (0 + (i : Int)))))[x]? = some (some (.int (g i)))) (hh0 : 0 < hands) (hh1 : hands ≤ 1000) (hg : ∀ i, i < n → 0 ≤ g i ∧ g i ≤ 1000) (hB : BoxAt H2 b l) (hD : H2 D = .none)
    (hd : ∀ (H : Hp) (xs : List V) (ps : List Pl), Kb b l H2 H → BoxAt H b l → H D = some (.lst xs) → DpAll K H xs (ps.map plD) → ps.length = n → (∀ j q, ps[j]? = some q → plOk q hands (g j) = true) → Qd H) :
    ∃ W : Nat → Nat → Hp → Prop, (∃ m, W 0 m (L2.upd H2 D (.lst []))) ∧ ∀ i m H, W i m H →
      ((Itr 0 n).stop i H ∧ Qd H) ∨ ((Itr 0 n).go i H ∧ ∃ Nx : Hp → Prop, (∀ H', Nx H' → ∃ m', m' < m ∧ W (i + 1) m' H') ∧ ∀ y H', (Itr 0 n).yld i H y H' → gName 7 y (wipe σ [7]) H' fun σ2 H2 => wipe σ2 [7] = wipe σ [7] ∧ tYes σ2 H2 fun b H3 =>
        if b = true then tCall (spPlaces K) [] E0 (tCons (tVar 0) (tCons (tVar 2) (tCons (tVar x) tNil))) σ2 H3 fun y H4 => ∃ acc, H4 D = some (.lst acc) ∧ acc.length < sizeLine ∧ Nx (L2.upd H4 D (.lst (acc ++ [y]))) else Nx H3) := by
  obtain ⟨nb, nl⟩ := hB.neL hD
  refine lc_range (lo := 0) (n := n) (fun i H => Kb b l H2 H ∧ BoxAt H b l ∧ ∃ xs ps, H D = some (.lst xs) ∧ DpAll K H xs (ps.map plD) ∧ ps.length = i ∧ ∀ j q, ps[j]? = some q → plOk q hands (g j) = true)
    ⟨(Kb.refl b l H2).updD hD, hB.updD nb nl, [], [], upd_same, .nil, rfl, fun j q e => by simp at e⟩ ?_ ?_
  · rintro i H hi ⟨hk, hB1, xs, ps, hxs, dx, lx, ok⟩
    refine ⟨wipe_one σ 7 _, yes_lc ?_⟩
    refine ⟨_, h0 _, _, h2 _, _, hx i, b, l, hands, g i, rfl, hh0, hh1, (hg i hi).1, (hg i hi).2, hB1, fun v q H' dv okq hB' hk' => ?_⟩
    have hx' := hk'.kp.ls D xs hxs nb nl
    have lxs : xs.length = ps.length := by rw [DpAll.len dx, List.length_map]
    refine ⟨xs, hx', by rw [sizeLine_eq]; omega, (hk.trans hk').updD hD, hB'.updD nb nl, xs ++ [v], ps ++ [q], upd_same, ?_, by rw [List.length_append, lx]; rfl, fun j p e => ?_⟩
    · rw [List.map_append]
      have tp := tp_lst (o := HO.lst (xs ++ [v])) hx'
      exact DpAll.app (Dp.tps tp _ _ (noLs_map _ noL_pl _) (Dp.tps (tp_nl hk'.nl) _ _ (noLs_map _ noL_pl _) dx)) (.cons (Dp.tp tp _ _ (noL_pl q) dv) .nil)
    · by_cases c : j < ps.length
      · rw [List.getElem?_append_left c] at e
        exact ok j p e
      · have ej : j = ps.length := by
          have := (List.getElem?_eq_some_iff.mp e).1
          simp at this
          omega
        subst ej
        rw [List.getElem?_append_right (Nat.le_refl _), Nat.sub_self] at e
        have ep : q = p := by simpa using e
        subst ep
        rw [lx]
        exact okq
  · rintro H ⟨hk, hB1, xs, ps, hxs, dx, lx, ok⟩
    exact hd H xs ps hk hB1 hxs dx lx ok
/-- the seals that are drawn one by one: a hand's, or on a box that has none -/
def OkS (m : Int) (qs : List Pl) : Prop := ∀ (i : Nat) q, qs[i]? = some q → q.1 = .hand ∨ (q.1 = .box ∧ numOk q.2 m = true ∧ q ∉ qs.take i)
theorem OkS.nil (m : Int) : OkS m [] := fun i q e => by simp at e
theorem OkS.add {m : Int} {qs : List Pl} {q : Pl} (h : OkS m qs) (hq : q.1 = .hand ∨ (q.1 = .box ∧ numOk q.2 m = true ∧ q ∉ qs)) : OkS m (qs ++ [q]) := fun j p e => by
  by_cases c : j < qs.length
  · rw [List.getElem?_append_left c] at e
    rw [List.take_append_of_le_length (by omega)]
    exact h j p e
  · have ej : j = qs.length := by
      have := (List.getElem?_eq_some_iff.mp e).1
      simp at this
      omega
    subst ej
    rw [List.getElem?_append_right (Nat.le_refl _), Nat.sub_self] at e
    have ep : q = p := by simpa using e
    subst ep
    rw [List.take_append_of_le_length (Nat.le_refl _), List.take_length]
    exact hq
def fixS (h : Int) (q : Pl) : Pl := if q.1 = .box then q else (.hand, q.2 % h)
theorem fix_ok {h m : Int} {qs : List Pl} (h0 : 0 < h) (ok : OkS m qs) (hl : qs.length ≤ 3) (ss : List Pl) (ess : ss = qs.map (fixS h)) : ∀ (i : Nat) p, ss[i]? = some p → badS h m ss (0 + i) p = false := fun i p e => by
  subst ess
  rw [List.getElem?_map] at e
  cases eq : qs[i]? with
  | none => rw [eq] at e; cases e
  | some q =>
    rw [eq] at e
    have e' : fixS h q = p := Option.some.inj e
    subst e'
    have hi := (List.getElem?_eq_some_iff.mp eq).1
    rw [Nat.zero_add]
    unfold badS
    have n3 : decide (i = 3) = false := decide_eq_false (by omega)
    rw [n3]
    rcases ok i q eq with hq | ⟨hq, hn, hni⟩
    · have ef : fixS h q = (.hand, q.2 % h) := by unfold fixS; rw [if_neg (by rw [hq]; decide)]
      rw [ef]
      have pk : plOk (.hand, q.2 % h) h m = true := numOk_of (Int.emod_nonneg _ (by omega)) (Int.emod_lt_of_pos _ h0)
      rw [pk]
      rfl
    · have ef : fixS h q = q := by unfold fixS; rw [if_pos hq]
      rw [ef]
      have pk : plOk q h m = true := by
        unfold plOk
        rw [if_neg (by rw [hq]; decide), hq, hn]
        rfl
      rw [pk]
      have na : ((qs.map (fixS h)).take i).any (fun z => decide (z = q)) = false := by
        rw [List.any_eq_false]
        intro z hz hzq
        have hz' : z = q := of_decide_eq_true hzq
        subst hz'
        rw [← List.map_take] at hz
        obtain ⟨z0, hz0, ez⟩ := List.mem_map.mp hz
        have : z0 = z := by
          unfold fixS at ez
          by_cases c : z0.1 = .box
          · rw [if_pos c] at ez; exact ez
          · rw [if_neg c] at ez
            rw [← ez] at hq
            cases hq
        subst this
        exact hni hz0
      rw [na]
      simp
theorem plOk_gone {p : Pl} {h m : Int} (k : plOk p h m = true) : p.1 ≠ .gone := fun z => by
  unfold plOk at k
  rw [z] at k
  cases k
theorem err_none {h : Int} {bs ts ss : List Pl} (h0 : 1 ≤ h) (h1 : h ≤ 4) (b0 : 1 ≤ bs.length) (b1 : bs.length ≤ 3) (okb : ∀ (i : Nat) p, bs[i]? = some p → plOk p h i = true) (t1 : ts.length ≤ 4) (okt : ∀ (i : Nat) p, ts[i]? = some p → plOk p h bs.length = true)
    (oks : ∀ (i : Nat) p, ss[i]? = some p → badS h bs.length ss (0 + i) p = false) : errOf h bs ts ss = none := by
  unfold errOf
  have hn : numOk h 5 = true := numOk_of (by omega) (by omega)
  have hz : decide (h = 0) = false := decide_eq_false (by omega)
  rw [hn, hz, if_neg (by decide)]
  have eb : badBoxes h bs = none := by
    unfold badBoxes
    rw [if_neg (by omega)]
    refine bad_none bs 0 fun i p e => ?_
    have hi := (List.getElem?_eq_some_iff.mp e).1
    unfold badB
    rw [Nat.zero_add, okb i p e, decide_eq_false (show ¬ i = 3 by omega)]
    rfl
  have et : firstBad (badT h bs.length) 0 ts = none := by
    refine bad_none ts 0 fun i p e => ?_
    have hi := (List.getElem?_eq_some_iff.mp e).1
    unfold badT
    rw [Nat.zero_add, okt i p e, decide_eq_false (show ¬ i = 4 by omega)]
    rfl
  rw [eb, et, bad_none ss 0 oks]
theorem mem_get {α : Type} {l : List α} {p : α} (h : p ∈ l) : ∃ i : Nat, l[i]? = some p := by
  obtain ⟨i, hi, e⟩ := List.getElem_of_mem h
  exact ⟨i, List.getElem?_eq_some_iff.mpr ⟨hi, e⟩⟩
def spLHouse (K : PySem.W.Frag) (C : Addr) : Sp := fun vs H Q _ => ∃ (b l t : Addr) (s0 s1 s2 s3 : Int), vs = [.ref b, .ref t] ∧ SqT K H t [.int s0, .int s1, .int s2, .int s3] ∧ (1 ≤ s0 ∧ s0 ≤ 4) ∧ (1 ≤ s1 ∧ s1 ≤ 3) ∧ (0 ≤ s2 ∧ s2 ≤ 4) ∧ (0 ≤ s3 ∧ s3 ≤ 3) ∧ BoxAt H b l ∧
  ∀ h d H', HouseAt K C H' h d → HouseF K C H' h d → HsOk d → BoxAt H' b l → Kb b l H H' → Q (.ref h) H'
theorem scHouse : FnScope ["_law_box", "_law_sizes", "_law_hands_here", "_law_many", "_law_boxes", "_law_things", "_law_seals", "_law_index", "_law_place"] ["_law_box", "_law_sizes"] (defScope sHouse) := ⟨rfl, rfl, rfl, by decide +kernel, rfl, by decide +kernel, by decide +kernel⟩
theorem ok_lhouse {f gT gP gH C CE : Addr} {fd fdT fdP fdH : FuncData} (F : Fun K "_law_house" "_law_house" sHouse f fd) (B : Bt mg)
    (GT : FnOk P w K mg base CX0 1 gT fdT ["_law_box", "_law_many"] spTake) (mT : mg "_law_take" = some (.ref gT)) (kT : PySem.W.keepIn K (.ref gT) = true) (bT : Binds K fdT ["_law_box", "_law_many"] [])
    (GP : FnOk P w K mg base CX0 2 gP fdP ["_law_box", "_law_hands_here", "_law_many"] (spPlaces K)) (mP : mg "_law_places" = some (.ref gP)) (kP : PySem.W.keepIn K (.ref gP) = true) (bP : Binds K fdP ["_law_box", "_law_hands_here", "_law_many"] [])
    (M : Mk K C gH) (GH : FnOk P w K mg base (L2.CX P w) 5 gH fdH ["self", "hands", "boxes", "things", "seals"] (spHouse K C CE)) (mH : mg "House" = some (.ref C)) (bH : Binds K fdH ["self", "hands", "boxes", "things", "seals"] []) :
    FnOk P w K mg base CX0 7 f fd ["_law_box", "_law_sizes"] (spLHouse K C) := by
  refine F.ok scHouse (fun vs H Q E h => ?_) (fun cdv A outer s H vs Q E hr h => ?_)
  · obtain ⟨b, l, t, s0, s1, s2, s3, rfl, _⟩ := h
    rfl
  · obtain ⟨b, l, t, s0, s1, s2, s3, rfl, ht, b0, b1, b2, b3, hB, k⟩ := h
    have hr1 : Room 1 _ := hr.mono (by decide)
    have hr2 : Room 2 _ := hr.mono (by decide)
    have hu65 : (cxOf CX0 P w K mg base ["_law_box", "_law_sizes", "_law_hands_here", "_law_many", "_law_boxes", "_law_things", "_law_seals", "_law_index", "_law_place"] "_law_house" (defScope sHouse) f cdv A outer s H E).nox.A.units + 65 < cLine := by have := hr.un; show (A.deeper _).units + 65 < cLine; omega
    refine ⟨_, pss_cons (ps_set (i := 2) scHouse.nd rfl (.inr rfl) (pe_op op_add pe_int (pe_call GT hr1 rfl mT kT bT .nil pass0 (pa_cons (pv 0) (pa_cons (pe_ix ix_tup (pv 1) pe_int (fun _ _ => rfl)) pa_nil)))))
      (pss_cons (ps_set (i := 3) scHouse.nd rfl (.inr rfl) (pe_op op_add pe_int (pe_call GT hr1 rfl mT kT bT .nil pass0 (pa_cons (pv 0) (pa_cons (pe_ix ix_tup (pv 1) pe_int (fun _ _ => rfl)) pa_nil)))))
      (pss_cons (ps_set (i := 4) scHouse.nd rfl (.inl rfl) (pe_callTy call_tuple_of (by rfl) B.tup (by decide +kernel) (pa_cons (pe_lc (own := [("_law_index", 7)]) (g := gName 7) (tt := tYes) (te := tCall (spPlaces K) [] E0 (tCons (tVar 0) (tCons (tVar 2) (tCons (tVar 7) tNil)))) rfl scHouse.nd (pi_range1 rfl B.rng (pa_cons (pv 3) pa_nil))
        (blkOk_by (own := [("_law_index", 7)]) (N := ["_law_box", "_law_sizes", "_law_hands_here", "_law_many", "_law_boxes", "_law_things", "_law_seals", "_law_index", "_law_place"]) (sc := defScope sHouse) (by decide +kernel)) (fun _ _ _ _ _ => pg_name (i := 7) scHouse.nd rfl (.inl rfl)) (fun _ _ _ _ _ => pts_nil) (fun _ _ _ _ _ => (pe_call GP hr2 rfl mP kP bP .nil pass0 (pa_cons (pv 0) (pa_cons (pv 2) (pa_cons (pv 7) pa_nil)))))) pa_nil)))
      (pss_cons (ps_set (i := 5) scHouse.nd rfl (.inl rfl) (pe_callTy call_tuple_of (by rfl) B.tup (by decide +kernel) (pa_cons (pe_lc (own := [("_law_index", 7)]) (g := gName 7) (tt := tYes) (te := tCall (spPlaces K) [] E0 (tCons (tVar 0) (tCons (tVar 2) (tCons (tVar 3) tNil)))) rfl scHouse.nd (pi_range1 rfl B.rng (pa_cons (pe_call GT hr1 rfl mT kT bT .nil pass0 (pa_cons (pv 0) (pa_cons (pe_op op_add (pe_ix ix_tup (pv 1) pe_int (fun _ _ => rfl)) pe_int) pa_nil))) pa_nil))
        (blkOk_by (own := [("_law_index", 7)]) (N := ["_law_box", "_law_sizes", "_law_hands_here", "_law_many", "_law_boxes", "_law_things", "_law_seals", "_law_index", "_law_place"]) (sc := defScope sHouse) (by decide +kernel)) (fun _ _ _ _ _ => pg_name (i := 7) scHouse.nd rfl (.inl rfl)) (fun _ _ _ _ _ => pts_nil) (fun _ _ _ _ _ => (pe_call GP hr2 rfl mP kP bP .nil pass0 (pa_cons (pv 0) (pa_cons (pv 2) (pa_cons (pv 3) pa_nil)))))) pa_nil)))
      (pss_cons (ps_set (i := 6) scHouse.nd rfl (.inl rfl) (pe_tup pa_nil))
      (pss_cons (ps_for PassesOwn.never rfl (pi_range1 rfl B.rng (pa_cons (pe_call GT hr1 rfl mT kT bT .nil pass0 (pa_cons (pv 0) (pa_cons (pe_op op_add (pe_ix ix_tup (pv 1) pe_int (fun _ _ => rfl)) pe_int) pa_nil))) pa_nil)) (pg_name (i := 7) scHouse.nd rfl (.inl rfl))
        (pss_cons (ps_set (i := 8) scHouse.nd rfl (.inl rfl) (pe_call GP hr2 rfl mP kP bP .nil pass0 (pa_cons (pv 0) (pa_cons (pv 2) (pa_cons (pv 3) pa_nil)))))
        (pss_one (ps_set (i := 6) scHouse.nd rfl (.inl rfl) (pe_op op_catA (pv 6) (pe_tup (pa_cons (pe_ifExp (PW.pt (pw_or (pt_cmpR op_eq (pe_ix ix_tup (pv 8) pe_int (fun _ _ => rfl)) pe_str (nomark _)) (pw_or1 (pt_cmpR (op_inDT hu65) (pv 8) (pv 6) (by rfl)))))
          (pe_tup (pa_cons pe_str (pa_cons (pe_ix ix_tup (pv 8) pe_int (fun _ _ => rfl)) pa_nil))) (pv 8)) pa_nil)))))))
      (pss_cons (ps_set (i := 6) scHouse.nd rfl (.inl rfl) (pe_callTy call_tupleF (by rfl) B.tup (by decide +kernel) (pa_cons (pe_lc (own := [("_law_place", 8)]) (g := gName 8) (tt := tYes)
          (te := tIf (tTest (tOp rEq (tOp (rIxT K) (tVar 8) (tC (.int 0))) (tC (.str "box")))) (tVar 8) (tTup (tCons (tC (.str "hand")) (tCons (tOp (rI (fun _ j => 0 < j) fun i j => .int (i % j)) (tCB (fun xs H Q => (∃ i, xs = [.int i] ∧ Q (.int i) H) ∨ ∃ k, xs = [.bl k] ∧ Q (.int (if k then 1 else 0)) H) (tCons (tOp (rIxT K) (tVar 8) (tC (.int 1))) tNil)) (tVar 2)) tNil))))
          rfl scHouse.nd (pi_tup (pv 6)) (blkOk_by (own := [("_law_place", 8)]) (N := ["_law_box", "_law_sizes", "_law_hands_here", "_law_many", "_law_boxes", "_law_things", "_law_seals", "_law_index", "_law_place"]) (sc := defScope sHouse) (by decide +kernel)) (fun _ _ _ _ _ => pg_name (i := 8) scHouse.nd rfl (.inl rfl)) (fun _ _ _ _ _ => pts_nil)
          (fun _ _ _ _ _ => pe_ifExp (pt_cmpR op_eq (pe_ix ix_tup (pv 8) pe_int (fun _ _ => rfl)) pe_str (nomark _)) (pv 8) (pe_tup (pa_cons pe_str (pa_cons (pe_op op_mod (pe_callTy call_int1 (by rfl) B.int (by decide +kernel) (pa_cons (pe_ix ix_tup (pv 8) pe_int (fun _ _ => rfl)) pa_nil)) (pv 2)) pa_nil))))) pa_nil)))
      (pss_one (ps_ret (pe_make M GH hr rfl mH bH .nil passL (pa_cons (pv 2) (pa_cons (pv 4) (pa_cons (pv 5) (pa_cons (pv 6) pa_nil))))))))))))), ?_⟩
    -- the numbers
    refine ⟨_, rfl, _, rfl, t, _, 0, _, rfl, rfl, ht, rfl, b, l, s0, rfl, by omega, by omega, hB, fun n H1 n0 n1 hB1 k1 => ⟨_, _, rfl, rfl, ?_⟩⟩
    refine ⟨_, rfl, _, rfl, t, _, 1, _, rfl, rfl, SqT.nl k1.nl ht, rfl, b, l, s1, rfl, by omega, by omega, hB1, fun m H2 m0 m1 hB2 k2 => ⟨_, _, rfl, rfl, ?_⟩⟩
    have nn : ∀ z : Int, 0 ≤ z → ((z.toNat : Nat) : Int) = z := fun z hz => by omega
    -- boxes
    refine ⟨_, rfl, _, rfl, by omega, by omega, fun D1 hD1 => ?_⟩
    refine lc_pl (K := K) 7 (1 + n) (fun i => 0 + (i : Int)) (1 + m).toNat (by omega) (fun _ => rfl) (fun _ => rfl) (fun i => rfl) (by omega) (by omega) (fun i hi => ⟨by omega, by omega⟩) hB2 hD1 fun H3 xb bs k3 hB3 hx3 db lb okb => ?_
    refine ⟨D1, xb, rfl, .inl ⟨SqL.of hx3, fun ab hab => ?_⟩⟩
    have hB3' := hB3.upd (o := HO.tup xb) hab
    have k3' : Kb b l H (L2.upd H3 ab (.tup xb)) := (((k1.trans k2).trans k3)).trans (Kb.same (same_upd hab))
    have dpb : Dp K (L2.upd H3 ab (.tup xb)) (.ref ab) (plsD bs) := .tup (SqT.of upd_same) (Dp.sames (same_upd hab) _ _ db)
    -- things
    refine ⟨_, rfl, _, rfl, t, _, 2, _, rfl, rfl, SqT.nl k3'.nl ht, rfl, _, _, rfl, rfl, b, l, s2 + 1, rfl, by omega, by omega, hB3', fun m2 H4 m20 m21 hB4 k4 => ⟨m2, rfl, by omega, by omega, fun D2 hD2 => ?_⟩⟩
    refine lc_pl (K := K) 3 (1 + n) (fun _ => 1 + m) m2.toNat (by omega) (fun _ => rfl) (fun _ => rfl) (fun i => rfl) (by omega) (by omega) (fun i hi => ⟨by omega, by omega⟩) hB4 hD2 fun H5 xt ts k5 hB5 hx5 dt lt okt => ?_
    refine ⟨D2, xt, rfl, .inl ⟨SqL.of hx5, fun at' hat => ?_⟩⟩
    have hB5' := hB5.upd (o := HO.tup xt) hat
    have k45 : Kb b l (L2.upd H3 ab (.tup xb)) (L2.upd H5 at' (.tup xt)) := (k4.trans k5).trans (Kb.same (same_upd hat))
    have k5' : Kb b l H (L2.upd H5 at' (.tup xt)) := k3'.trans k45
    have dpt : Dp K (L2.upd H5 at' (.tup xt)) (.ref at') (plsD ts) := .tup (SqT.of upd_same) (Dp.sames (same_upd hat) _ _ dt)
    have dpb5 := Dp.nl k45.nl _ _ (noL_pls bs) dpb
    -- seals, one by one
    refine ⟨(by show 0 ≤ sizeLine; decide), fun a0 ha0 => ?_⟩
    have hB6 := hB5'.upd (o := HO.tup []) ha0
    have k6 : Kb b l (L2.upd H5 at' (.tup xt)) (L2.upd (L2.upd H5 at' (.tup xt)) a0 (.tup [])) := Kb.same (same_upd ha0)
    refine ⟨_, rfl, _, rfl, t, _, 3, _, rfl, rfl, SqT.nl (k5'.trans k6).nl ht, rfl, _, _, rfl, rfl, b, l, s3 + 1, rfl, by omega, by omega, hB6, fun m3 H7 m30 m31 hB7 k7 => ⟨m3, rfl, by omega, by omega, ?_⟩⟩
    refine for_range (lo := 0) (n := m3.toNat) (fun i σ Hn => ∃ (vi vp : Option V) (a : Addr) (xs : List V) (qs : List Pl), σ = [some (.ref b), some (.ref t), some (.int (1 + n)), some (.int (1 + m)), some (.ref ab), some (.ref at'), some (.ref a), vi, vp] ∧ Kb b l (L2.upd H5 at' (.tup xt)) Hn ∧ BoxAt Hn b l ∧ SqT K Hn a xs ∧ DpAll K Hn xs (qs.map plD) ∧ qs.length = i ∧ OkS (1 + m) qs)
      ⟨none, none, a0, [], [], rfl, k6.trans k7, hB7, SqT.nl k7.nl (SqT.of upd_same), .nil, rfl, OkS.nil _⟩ ?_ ?_
    · rintro i σ Hn hi ⟨vi, vp, a, xs, qs, rfl, kn, hBn, qa, da, la, oks⟩
      refine ⟨_, rfl, _, rfl, _, rfl, b, l, 1 + n, 1 + m, rfl, by omega, by omega, by omega, by omega, hBn, fun v q Hm dv okq hBm km => ?_⟩
      obtain ⟨av, rfl, qv⟩ := pl_at dv
      have cat : ∀ (y0 : V) (q' : Pl) (H2 : Hp), Same Hm H2 → Dp K H2 y0 (plD q') → (q'.1 = .hand ∨ (q'.1 = .box ∧ numOk q'.2 (1 + m) = true ∧ q' ∉ qs)) → ∀ p : Addr, H2 p = none → ∀ R : V → Hp → Prop,
          (∀ (c : Addr) (xs' : List V) (H3 : Hp), Kb b l (L2.upd H5 at' (.tup xt)) H3 → BoxAt H3 b l → SqT K H3 c xs' → DpAll K H3 xs' ((qs ++ [q']).map plD) → (qs ++ [q']).length = i + 1 → OkS (1 + m) (qs ++ [q']) → R (.ref c) H3) →
          rCatA K (.ref a) (.ref p) (L2.upd H2 p (.tup [y0])) R := fun y0 q' H2 e2 d2 hq p hp R kR => by
        have e3 : Same Hm (L2.upd H2 p (.tup [y0])) := Same.upd2 e2 hp
        have lxs : xs.length = qs.length := by rw [DpAll.len da, List.length_map]
        have dxs : ∀ H3, Same Hm H3 → DpAll K H3 xs (qs.map plD) := fun H3 e => Dp.sames e _ _ (Dp.nls km.nl _ _ (noLs_map _ noL_pl _) da)
        have dy : Dp K (L2.upd H2 p (.tup [y0])) y0 (plD q') := Dp.same (same_upd hp) _ _ d2
        have lq : (qs ++ [q']).length = i + 1 := by rw [List.length_append, la]; rfl
        refine ⟨a, p, xs, [y0], rfl, rfl, SqT.same e3 (SqT.nl km.nl qa), SqT.of upd_same, (by rw [sizeLine_eq]; show xs.length + 1 ≤ _; omega), fun ex => ?_, (fun _ z => by cases z), fun _ _ c hc => ?_⟩
        · subst ex
          have eq0 : qs = [] := List.eq_nil_of_length_eq_zero (by rw [← lxs]; rfl)
          subst eq0
          exact kR p [y0] _ ((kn.trans km).trans (Kb.same e3)) (hBm.same e3) (SqT.of upd_same) (.cons dy .nil) lq (oks.add hq)
        · have e4 : Same Hm (L2.upd (L2.upd H2 p (.tup [y0])) c (.tup (xs ++ [y0]))) := Same.upd2 e3 hc
          refine kR c (xs ++ [y0]) _ ((kn.trans km).trans (Kb.same e4)) (hBm.same e4) (SqT.of upd_same) ?_ lq (oks.add hq)
          rw [List.map_append]
          exact DpAll.app (dxs _ e4) (.cons (Dp.same (same_upd hc) _ _ dy) .nil)
      have fin : ∀ (y0 : V) (q' : Pl) (H2 : Hp), Same Hm H2 → Dp K H2 y0 (plD q') → (q'.1 = .hand ∨ (q'.1 = .box ∧ numOk q'.2 (1 + m) = true ∧ q' ∉ qs)) → ∀ p : Addr, H2 p = none → rCatA K (.ref a) (.ref p) (L2.upd H2 p (.tup [y0])) fun x H1 => gName 6 x (([some (V.ref b), some (V.ref t), some (V.int (1 + n)), some (V.int (1 + m)), some (V.ref ab), some (V.ref at'), some (V.ref a), vi, vp].set 7 (some (V.int (0 + (i : Int))))).set 8 (some (V.ref av))) H1 fun σ Hn => ∃ (vi vp : Option V) (a : Addr) (xs : List V) (qs : List Pl), σ = [some (.ref b), some (.ref t), some (.int (1 + n)), some (.int (1 + m)), some (.ref ab), some (.ref at'), some (.ref a), vi, vp] ∧ Kb b l (L2.upd H5 at' (.tup xt)) Hn ∧ BoxAt Hn b l ∧ SqT K Hn a xs ∧ DpAll K Hn xs (qs.map plD) ∧ qs.length = i + 1 ∧ OkS (1 + m) qs :=
        fun y0 q' H2 e2 d2 hq p hp => cat y0 q' H2 e2 d2 hq p hp _ fun c xs' H3 k1 k2 k3 k4 k5 k6 => ⟨_, _, c, xs', _, rfl, k1, k2, k3, k4, k5, k6⟩
      refine ⟨_, rfl, _, rfl, av, _, 0, _, rfl, rfl, qv, rfl, rfl, _, rfl, ?_⟩
      rw [decS]
      have isn : ∀ p : Addr, Hm p = none → SqT K (L2.upd Hm p (.tup [.str ("hand" : Str), .int q.2])) p [.str ("hand" : Str), .int q.2] := fun p hp => SqT.of upd_same
      have dh : ∀ p : Addr, Hm p = none → Dp K (L2.upd Hm p (.tup [.str ("hand" : Str), .int q.2])) (.ref p) (plD (.hand, q.2)) := fun p hp => .tup (isn p hp) (.cons (.str _) (.cons (.int _) .nil))
      by_cases c1 : q.1 = .hand
      · rw [show decide (q.1.str = ("hand" : Str)) = true from decide_eq_true (by rw [c1]; rfl)]
        refine iteT (iteT ?_)
        refine ⟨_, rfl, av, _, 1, _, rfl, rfl, qv, rfl, (by show 2 ≤ sizeLine; decide), fun p hp => ⟨(by show 1 ≤ sizeLine; decide), fun p2 hp2 => ?_⟩⟩
        exact fin _ (.hand, q.2) _ (same_upd hp) (dh p hp) (.inl rfl) p2 hp2
      · rw [show decide (q.1.str = ("hand" : Str)) = false from decide_eq_false fun z => c1 (wd_inj (v := .hand) z)]
        have okb2 : q.1 = .box ∧ numOk q.2 (1 + m) = true := by
          unfold plOk at okq
          rw [if_neg c1, Bool.and_eq_true] at okq
          exact ⟨of_decide_eq_true okq.1, okq.2⟩
        refine iteF ⟨_, rfl, _, rfl, plD q, qs.map plD, dv, .tup (SqT.nl km.nl qa) (Dp.nls km.nl _ _ (noLs_map _ noL_pl _) da), shaped_pl q, shaped_pls qs, _, rfl, ?_⟩
        rw [any_pl, if_neg (show ¬ (false = true) by decide)]
        cases ca : qs.any fun z => decide (z = q) with
        | true =>
          refine iteT ⟨_, rfl, av, _, 1, _, rfl, rfl, qv, rfl, (by show 2 ≤ sizeLine; decide), fun p hp => ⟨(by show 1 ≤ sizeLine; decide), fun p2 hp2 => ?_⟩⟩
          exact fin _ (.hand, q.2) _ (same_upd hp) (dh p hp) (.inl rfl) p2 hp2
        | false =>
          refine iteF ⟨_, rfl, (by show 1 ≤ sizeLine; decide), fun p2 hp2 => ?_⟩
          refine fin _ q _ (fun _ _ e => e) dv (.inr ⟨okb2.1, okb2.2, fun z => ?_⟩) p2 hp2
          have := List.any_eq_false.mp ca q z
          exact this (decide_eq_true rfl)
    · rintro σ Hn ⟨vi, vp, a, xs, qs, rfl, kn, hBn, qa, da, la, oks⟩
      refine ⟨_, rfl, a, rfl, ⟨xs, qa⟩, fun D hD => ?_⟩
      have lxs : xs.length = qs.length := by rw [DpAll.len da, List.length_map]
      have e0 : ∀ (H : Hp) (o : HO), Same Hn H → Same Hn (L2.upd H D o) := fun H o e a o' h => by rw [upd_ne (ne_of_none h hD)]; exact e a o' h
      refine lc_tup (K := K) (a := a) (xs := xs) (fun i H => Same Hn H ∧ ∃ ys, H D = some (.lst ys) ∧ ys.length = i ∧ DpAll K H ys ((qs.take i).map fun q => plD (fixS (1 + n) q)))
        ⟨same_upd hD, [], upd_same, rfl, .nil⟩ (fun i H _ ⟨e, _⟩ => SqT.same e qa) ?_ ?_
      · rintro i y H' hi ⟨e, ys, hys, lys, dys⟩
        have hi1 := (List.getElem?_eq_some_iff.mp hi).1
        obtain ⟨d, hd1, hd2⟩ := DpAll.get da hi
        obtain ⟨q, hq⟩ : ∃ q, qs[i]? = some q := ⟨_, List.getElem?_eq_getElem (by omega)⟩
        have ed : plD q = d := by
          rw [List.getElem?_map, hq] at hd1
          exact Option.some.inj hd1
        subst ed
        have dy := Dp.same e _ _ hd2
        have fin : ∀ (y0 : V) (H4 : Hp), Same Hn H4 → H4 D = some (.lst ys) → DpAll K H4 ys ((qs.take i).map fun q => plD (fixS (1 + n) q)) → Dp K H4 y0 (plD (fixS (1 + n) q)) → ∃ acc, H4 D = some (.lst acc) ∧ acc.length < sizeLine ∧ Same Hn (L2.upd H4 D (.lst (acc ++ [y0]))) ∧ ∃ zs, (L2.upd H4 D (.lst (acc ++ [y0]))) D = some (.lst zs) ∧ zs.length = i + 1 ∧ DpAll K (L2.upd H4 D (.lst (acc ++ [y0]))) zs ((qs.take (i + 1)).map fun q => plD (fixS (1 + n) q)) := fun y0 H4 e4 h4 d4 dy4 => by
          refine ⟨ys, h4, by rw [sizeLine_eq]; omega, e0 _ _ e4, ys ++ [y0], upd_same, by rw [List.length_append, lys]; rfl, ?_⟩
          have tp := tp_lst (o := HO.lst (ys ++ [y0])) h4
          have et : (qs.take (i + 1)).map (fun q => plD (fixS (1 + n) q)) = (qs.take i).map (fun q => plD (fixS (1 + n) q)) ++ [plD (fixS (1 + n) q)] := by
            rw [List.take_add_one, hq]
            simp
          rw [et]
          exact DpAll.app (Dp.tps tp _ _ (noLs_map (fun q => plD (fixS (1 + n) q)) (fun q => noL_pl _) _) d4) (.cons (Dp.tp tp _ _ (noL_pl _) dy4) .nil)
        obtain ⟨av, rfl, qv⟩ := pl_at dy
        refine ⟨wipe_one _ 8 _, yes_lc ?_⟩
        refine ⟨_, rfl, av, _, 0, _, rfl, rfl, qv, rfl, rfl, _, rfl, ?_⟩
        rw [decS]
        by_cases c1 : q.1 = .box
        · rw [show decide (q.1.str = ("box" : Str)) = true from decide_eq_true (by rw [c1]; rfl)]
          refine iteT ⟨_, rfl, fin _ _ e hys dys ?_⟩
          unfold fixS
          rw [if_pos c1]
          exact dy
        · rw [show decide (q.1.str = ("box" : Str)) = false from decide_eq_false fun z => c1 (wd_inj (v := .box) z)]
          refine iteF ⟨_, rfl, av, _, 1, _, rfl, rfl, qv, rfl, .inl ⟨_, rfl, _, rfl, _, _, rfl, rfl, (by omega), (by show 2 ≤ sizeLine; decide), fun p hp => ?_⟩⟩
          refine fin _ _ (Same.upd2 e hp) (by rw [upd_ne (ne_of_none hys hp)]; exact hys) (Dp.sames (same_upd hp) _ _ dys) ?_
          unfold fixS
          rw [if_neg c1]
          exact .tup (SqT.of upd_same) (.cons (.str _) (.cons (.int _) .nil))
      · rintro H' ⟨e, ys, hys, lys, dys⟩
        refine ⟨D, ys, rfl, SqL.of hys, fun as o has oc od => ?_⟩
        rw [lxs, List.take_length] at dys
        have e5 : Same Hn (L2.upd H' as (.frz o (.tup ys))) := Same.upd2 e has
        have dps : Dp K (L2.upd H' as (.frz o (.tup ys))) (.ref as) (plsD (qs.map (fixS (1 + n)))) := .tup (Fz.sq ⟨o, upd_same, oc, od⟩) (by rw [List.map_map]; exact Dp.sames (same_upd has) _ _ dys)
        have k6' := (kn.trans (Kb.same e5))
        have dpb6 := Dp.nl k6'.nl _ _ (noL_pls bs) dpb5
        have dpt6 := Dp.nl k6'.nl _ _ (noL_pls ts) dpt
        have hB6' := hBn.same e5
        have kAll := k5'.trans k6'
        have lb1 : bs.length = (1 + m).toNat := lb
        have err : errOf (1 + n) bs ts (qs.map (fixS (1 + n))) = none := by
          refine err_none (by omega) (by omega) (by omega) (by omega) (fun i p e => ?_) (by omega) (fun i p e => ?_) ?_
          · have := okb i p e
            rwa [Int.zero_add] at this
          · have := okt i p e
            rwa [show ((bs.length : Nat) : Int) = 1 + m by omega]
          · rw [show ((bs.length : Nat) : Int) = 1 + m by omega]
            exact fix_ok (by omega) oks (by omega) _ rfl
        have fzs : Fv (L2.upd H' as (.frz o (.tup ys))) (.ref as) := ⟨as, ys, rfl, o, upd_same, oc, od⟩
        generalize hHe : L2.upd H' as (.frz o (.tup ys)) = He at *
        refine ⟨_, rfl, _, rfl, _, rfl, _, rfl, fun x dx hx hdx ne => ?_⟩
        have hdx' : (L2.upd He dx (.own x)) x = none := by rw [upd_ne ne.symm]; exact hx
        have e7 : Same He (L2.upd (L2.upd He dx (.own x)) x (.ins C dx [])) := Same.upd2 (same_upd hdx) hdx'
        refine ⟨x, dx, 1 + n, _, _, _, bs, ts, qs.map (fixS (1 + n)), rfl, upd_same, Dp.same e7 _ _ dpb6, Dp.same e7 _ _ dpt6, Dp.same e7 _ _ dps, by omega, by omega, by rw [List.length_map]; omega, fun z i e => ?_, fun _ H8 hb8 hh8 hf8 => ⟨rfl, ?_⟩⟩
        · rw [err] at e
          cases e
        · have e8 : Same He H8 := fun a o h => hb8 a o (e7 a o h) (ne_of_none h hx)
          refine k x _ H8 hh8 (hf8 (fzs.nl fun a o h _ _ => e7 a o h)) ⟨by show 1 ≤ 1 + n; omega, by show 1 + n ≤ 4; omega, by show 1 ≤ bs.length; omega, by show bs.length ≤ 3; omega, by show ts.length ≤ 4; omega, by show (qs.map _).length ≤ 3; rw [List.length_map]; omega, err, fun p hp => ?_, fun p hp => ?_, fun p hp => ?_⟩ (hB6'.same e8) (kAll.trans (Kb.same e8))
          · obtain ⟨i, hi⟩ := mem_get hp
            exact plOk_gone (okb i p hi)
          · obtain ⟨i, hi⟩ := mem_get hp
            exact plOk_gone (okt i p hi)
          · obtain ⟨q, hq, rfl⟩ := List.mem_map.mp hp
            obtain ⟨i, hi⟩ := mem_get hq
            unfold fixS
            rcases oks i q hi with z | ⟨z, _⟩
            · rw [if_neg (by rw [z]; decide)]
              intro z'
              cases z'
            · rw [if_pos z, z]
              intro z'
              cases z'
end
end Kw



set_option Elab.async false
set_option linter.all false
set_option maxRecDepth 100000
set_option maxHeartbeats 4000000
namespace Kw
open PySem PySem.Spec PyProof.Rows L2
section
variable {P : Program} {w : World} {K : PySem.W.Frag} {mg : Str → Option Value} {base : Heap}
/-! ### _law_error -/
def KindAt (K : PySem.W.Frag) (mg : Str → Option Value) (CE : Addr) (x : Str) (b : Bool) : Prop := ∃ c, mg x = some (.ref c) ∧ PySem.W.kitOne K (.ref CE) (.ref c) = some b
theorem tcat {σ : L2.St} {H : Hp} {Q : VK} {i : Nat} {l : Addr} {xs vs : List V} {args : TA} (h0 : σ[i]? = some (some (.ref l))) (h1 : H l = some (.lst xs)) (ha : ∀ R : List V → Hp → Prop, R vs H → args σ H R) (hl : xs.length + vs.length ≤ sizeLine)
    (k : ∀ (p : Addr) H', Same H H' → H' p = some (.lst (xs ++ vs)) → Q (.ref p) H') : tOp rCat (tVar i) (tLst args) σ H Q :=
  ⟨_, h0, ha _ ⟨by omega, fun p hp => ⟨l, p, xs, vs, rfl, rfl, (same_upd hp) _ _ h1, upd_same, hl, fun p2 hp2 => k _ _ (Same.upd2 (same_upd hp) hp2) upd_same⟩⟩⟩
theorem scErr : FnScope ["_law_work", "error", "_law_kinds", "_law_names", "_law_name"] ["_law_work"] (defScope sErr) := ⟨rfl, rfl, rfl, by decide +kernel, rfl, by decide +kernel, by decide +kernel⟩
def namesV : List Str := ["InsideItself", "InvalidCourse", "InvalidHands", "InvalidHouse", "InvalidLog", "InvalidNumber", "IsSealed", "NoCourse", "NotHeld", "NotInside", "NotSealed", "UnknownBox", "UnknownHand", "UnknownItem", "UnknownSeal"]
theorem iteFe {b : Bool} {A B : Prop} (hb : b = false) (h : B) : if b = true then A else B := by
  rw [hb]
  exact iteF h
theorem iteTe {b : Bool} {A B : Prop} (hb : b = true) (h : A) : if b = true then A else B := by
  rw [hb]
  exact iteT h
def errSuite : List Stmt := match defBody sErr with
  | .Try _ (.ExceptHandler _ _ s _ :: _) _ _ _ :: _ => s
  | _ => []
end
end Kw



set_option Elab.async false
set_option linter.all false
set_option maxRecDepth 100000
set_option maxHeartbeats 4000000
namespace Kw
open PySem PySem.Spec PyProof.Rows L2
section
variable {P : Program} {w : World} {K : PySem.W.Frag} {mg : Str → Option Value} {base : Heap}
/-! ### _law_error, any of the plain errors -/
/-- the error class at place j of the law's names -/
structure ErrJ (K : PySem.W.Frag) (mg : Str → Option Value) (CE CW : Addr) (j : Nat) : Prop where
  exc : ExcC K CE
  xf : XfC K CE
  nP : PySem.W.findIn K (.ref CE) "part" = some none
  nI : PySem.W.findIn K (.ref CE) "index" = some none
  wat : mg "WatchError" = some (.ref CW)
  exm : PySem.W.exmOne K (.ref CE) (.ref CW) = some true
  ve : mg "ValueError" = none
  kve : PySem.W.kitOne K (.ref CE) (.type "ValueError") = some true
  kInsideItself : KindAt K mg CE "InsideItself" (decide (0 = j))
  kInvalidCourse : KindAt K mg CE "InvalidCourse" (decide (1 = j))
  kInvalidHands : KindAt K mg CE "InvalidHands" (decide (2 = j))
  kInvalidHouse : KindAt K mg CE "InvalidHouse" (decide (3 = j))
  kInvalidLog : KindAt K mg CE "InvalidLog" (decide (4 = j))
  kInvalidNumber : KindAt K mg CE "InvalidNumber" (decide (5 = j))
  kIsSealed : KindAt K mg CE "IsSealed" (decide (6 = j))
  kNoCourse : KindAt K mg CE "NoCourse" (decide (7 = j))
  kNotHeld : KindAt K mg CE "NotHeld" (decide (8 = j))
  kNotInside : KindAt K mg CE "NotInside" (decide (9 = j))
  kNotSealed : KindAt K mg CE "NotSealed" (decide (10 = j))
  kUnknownBox : KindAt K mg CE "UnknownBox" (decide (11 = j))
  kUnknownHand : KindAt K mg CE "UnknownHand" (decide (12 = j))
  kUnknownItem : KindAt K mg CE "UnknownItem" (decide (13 = j))
  kUnknownSeal : KindAt K mg CE "UnknownSeal" (decide (14 = j))
def DdOk (dd : Option Addr) (H : Hp) : Prop := ∀ d, dd = some d → ∃ fs, H d = some (.xd fs)
theorem DdOk.same {dd : Option Addr} {H H' : Hp} (e : Same H H') (h : DdOk dd H) : DdOk dd H' := fun d hd => by
  obtain ⟨fs, hf⟩ := h d hd
  exact ⟨fs, e _ _ hf⟩
theorem tisiG {σ : L2.St} {H : Hp} {Q : VK} {CE a c : Addr} {dd : Option Addr} {b : Bool} (h0 : σ[1]? = some (some (.ref a))) (hd : DdOk dd H) (ki : PySem.W.kitOne K (.ref CE) (.ref c) = some b) (q : Q (.bl b) H) :
    tCB (fun xs H Q => (∀ d, dd = some d → ∃ fs, H d = some (.xd fs)) ∧ rIsE K CE a xs H Q) (tCons (tVar 1) (tCons (tC (.ref c)) tNil)) σ H Q :=
  ⟨_, h0, hd, .ref c, .ref c, b, rfl, fun _ z => z, ki, q⟩
def kindsJ (j : Nat) : List Bool := (List.range 15).map fun i => decide (i = j)
def nameJ (j : Nat) : Str := namesV.getD j ""
theorem cnt_kinds {j : Nat} (hj : j < 15) : (kindsJ j).count true = 1 := by
  have h : ∀ i : Fin 15, (kindsJ i).count true = 1 := by decide +kernel
  exact h ⟨j, hj⟩
theorem flat_kinds (j : Nat) : ((kindsJ j).map V.bl).all flatV = true := by
  rw [List.all_eq_true]
  intro x hx
  obtain ⟨b, _, rfl⟩ := List.mem_map.mp hx
  rfl
theorem at_kinds {j : Nat} (hj : j < 15) : ((kindsJ j).map V.bl)[j]? = some (.bl true) := by
  have h : ∀ i : Fin 15, (kindsJ i)[i.val]? = some true := by decide +kernel
  rw [List.getElem?_map, h ⟨j, hj⟩]
  rfl
theorem no_kinds {j m : Nat} {z : V} (hj : j < 15) (hm : m < j) (e : ((kindsJ j).map V.bl)[m]? = some z) : eqV z (.bl true) = false := by
  have h : ∀ i k : Fin 15, k.val < i.val → (kindsJ i)[k.val]? = some false := by decide +kernel
  rw [List.getElem?_map, h ⟨j, hj⟩ ⟨m, by omega⟩ hm] at e
  cases e
  rfl
theorem at_names {j : Nat} (hj : j < 15) : atI (namesV.map V.str) (j : Nat) = some (.str (nameJ j)) := by
  have h : ∀ i : Fin 15, namesV[i.val]? = some (nameJ i) := by decide +kernel
  refine atI_nat ?_
  rw [List.getElem?_map, h ⟨j, hj⟩]
  rfl
theorem nm_not {j : Nat} (hj : j < 15) (hn : j ≠ 2 ∧ j ≠ 3 ∧ j ≠ 4) : decide (nameJ j = ("InvalidHouse" : Str)) = false := by
  have h : ∀ i : Fin 15, i.val ≠ 3 → decide (nameJ i = ("InvalidHouse" : Str)) = false := by decide +kernel
  exact h ⟨j, hj⟩ hn.2.1
theorem nm_in {j : Nat} (hj : j < 15) (hn : j ≠ 2 ∧ j ≠ 3 ∧ j ≠ 4) : inV (.str (nameJ j)) [V.str ("InvalidHands" : Str), .str ("InvalidLog" : Str)] = false := by
  have h : ∀ i : Fin 15, i.val ≠ 2 → i.val ≠ 4 → inV (.str (nameJ i)) [V.str ("InvalidHands" : Str), .str ("InvalidLog" : Str)] = false := by decide +kernel
  exact h ⟨j, hj⟩ hn.1 hn.2.2
theorem err_suiteG {g : Addr} {cdg : Value} {A : Around} {outer : List Env} {s0 : Shared} {H0 : Hp} {CE CW a : Addr} {j : Nat} {oe : Obj} {dd : Option Addr} {pn : List (Addr × Obj)} (T : ErrJ K mg CE CW j) (hj : j < 15) (hn : j ≠ 2 ∧ j ≠ 3 ∧ j ≠ 4) (B : Bt mg) (hz : Zc (.ref CE) dd oe) (hf : ∃ vs, oe.data = .fields vs)
    (D : Ends) (σ : L2.St) (H : Hp) (v0 v2 v3 v4 : Option V) (hσ : σ = [v0, some (.ref a), v2, v3, v4]) (hh : DdOk dd H) (k : ∀ H2, Same H H2 → D.rt (.str (nameJ j)) H2) :
      ∃ T, PSs (Cx.suite ((cxOf CX0 P w K mg base ["_law_work", "error", "_law_kinds", "_law_names", "_law_name"] "_law_error" (defScope sErr) g cdg A outer s0 H0 E0).nox) a ((a, oe) :: pn)) errSuite T ∧ T D σ H := by
    obtain ⟨cInsideItself, mInsideItself, qInsideItself⟩ := T.kInsideItself
    obtain ⟨cInvalidCourse, mInvalidCourse, qInvalidCourse⟩ := T.kInvalidCourse
    obtain ⟨cInvalidHands, mInvalidHands, qInvalidHands⟩ := T.kInvalidHands
    obtain ⟨cInvalidHouse, mInvalidHouse, qInvalidHouse⟩ := T.kInvalidHouse
    obtain ⟨cInvalidLog, mInvalidLog, qInvalidLog⟩ := T.kInvalidLog
    obtain ⟨cInvalidNumber, mInvalidNumber, qInvalidNumber⟩ := T.kInvalidNumber
    obtain ⟨cIsSealed, mIsSealed, qIsSealed⟩ := T.kIsSealed
    obtain ⟨cNoCourse, mNoCourse, qNoCourse⟩ := T.kNoCourse
    obtain ⟨cNotHeld, mNotHeld, qNotHeld⟩ := T.kNotHeld
    obtain ⟨cNotInside, mNotInside, qNotInside⟩ := T.kNotInside
    obtain ⟨cNotSealed, mNotSealed, qNotSealed⟩ := T.kNotSealed
    obtain ⟨cUnknownBox, mUnknownBox, qUnknownBox⟩ := T.kUnknownBox
    obtain ⟨cUnknownHand, mUnknownHand, qUnknownHand⟩ := T.kUnknownHand
    obtain ⟨cUnknownItem, mUnknownItem, qUnknownItem⟩ := T.kUnknownItem
    obtain ⟨cUnknownSeal, mUnknownSeal, qUnknownSeal⟩ := T.kUnknownSeal
    refine ⟨_, (pss_cons (ps_set (i := 2) scErr.nd rfl (.inl rfl) (pe_lst (pa_cons (pe_callB (call_isO T.exc hz hf) (by rfl) B.isi (by decide +kernel) (pa_cons (pv 1) (pa_cons (pe_glob (v := .ref cInsideItself) rfl mInsideItself rfl) pa_nil))) (pa_cons (pe_callB (call_isO T.exc hz hf) (by rfl) B.isi (by decide +kernel) (pa_cons (pv 1) (pa_cons (pe_glob (v := .ref cInvalidCourse) rfl mInvalidCourse rfl) pa_nil))) (pa_cons (pe_callB (call_isO T.exc hz hf) (by rfl) B.isi (by decide +kernel) (pa_cons (pv 1) (pa_cons (pe_glob (v := .ref cInvalidHands) rfl mInvalidHands rfl) pa_nil))) pa_nil)))))
        (pss_cons (ps_set (i := 2) scErr.nd rfl (.inl rfl) (pe_op op_cat (pv 2) (pe_lst (pa_cons (pe_callB (call_isO T.exc hz hf) (by rfl) B.isi (by decide +kernel) (pa_cons (pv 1) (pa_cons (pe_glob (v := .ref cInvalidHouse) rfl mInvalidHouse rfl) pa_nil))) (pa_cons (pe_callB (call_isO T.exc hz hf) (by rfl) B.isi (by decide +kernel) (pa_cons (pv 1) (pa_cons (pe_glob (v := .ref cInvalidLog) rfl mInvalidLog rfl) pa_nil))) pa_nil)))))
        (pss_cons (ps_set (i := 2) scErr.nd rfl (.inl rfl) (pe_op op_cat (pv 2) (pe_lst (pa_cons (pe_callB (call_isO T.exc hz hf) (by rfl) B.isi (by decide +kernel) (pa_cons (pv 1) (pa_cons (pe_glob (v := .ref cInvalidNumber) rfl mInvalidNumber rfl) pa_nil))) (pa_cons (pe_callB (call_isO T.exc hz hf) (by rfl) B.isi (by decide +kernel) (pa_cons (pv 1) (pa_cons (pe_glob (v := .ref cIsSealed) rfl mIsSealed rfl) pa_nil))) (pa_cons (pe_callB (call_isO T.exc hz hf) (by rfl) B.isi (by decide +kernel) (pa_cons (pv 1) (pa_cons (pe_glob (v := .ref cNoCourse) rfl mNoCourse rfl) pa_nil))) pa_nil))))))
        (pss_cons (ps_set (i := 2) scErr.nd rfl (.inl rfl) (pe_op op_cat (pv 2) (pe_lst (pa_cons (pe_callB (call_isO T.exc hz hf) (by rfl) B.isi (by decide +kernel) (pa_cons (pv 1) (pa_cons (pe_glob (v := .ref cNotHeld) rfl mNotHeld rfl) pa_nil))) (pa_cons (pe_callB (call_isO T.exc hz hf) (by rfl) B.isi (by decide +kernel) (pa_cons (pv 1) (pa_cons (pe_glob (v := .ref cNotInside) rfl mNotInside rfl) pa_nil))) (pa_cons (pe_callB (call_isO T.exc hz hf) (by rfl) B.isi (by decide +kernel) (pa_cons (pv 1) (pa_cons (pe_glob (v := .ref cNotSealed) rfl mNotSealed rfl) pa_nil))) pa_nil))))))
        (pss_cons (ps_set (i := 2) scErr.nd rfl (.inl rfl) (pe_op op_cat (pv 2) (pe_lst (pa_cons (pe_callB (call_isO T.exc hz hf) (by rfl) B.isi (by decide +kernel) (pa_cons (pv 1) (pa_cons (pe_glob (v := .ref cUnknownBox) rfl mUnknownBox rfl) pa_nil))) (pa_cons (pe_callB (call_isO T.exc hz hf) (by rfl) B.isi (by decide +kernel) (pa_cons (pv 1) (pa_cons (pe_glob (v := .ref cUnknownHand) rfl mUnknownHand rfl) pa_nil))) pa_nil)))))
        (pss_cons (ps_set (i := 2) scErr.nd rfl (.inl rfl) (pe_op op_cat (pv 2) (pe_lst (pa_cons (pe_callB (call_isO T.exc hz hf) (by rfl) B.isi (by decide +kernel) (pa_cons (pv 1) (pa_cons (pe_glob (v := .ref cUnknownItem) rfl mUnknownItem rfl) pa_nil))) (pa_cons (pe_callB (call_isO T.exc hz hf) (by rfl) B.isi (by decide +kernel) (pa_cons (pv 1) (pa_cons (pe_glob (v := .ref cUnknownSeal) rfl mUnknownSeal rfl) pa_nil))) pa_nil)))))
        (pss_cons (ps_set (i := 3) scErr.nd rfl (.inl rfl) (pe_lst (pa_cons pe_str (pa_cons pe_str (pa_cons pe_str (pa_cons pe_str (pa_cons pe_str (pa_cons pe_str pa_nil))))))))
        (pss_cons (ps_set (i := 3) scErr.nd rfl (.inl rfl) (pe_op op_cat (pv 3) (pe_lst (pa_cons pe_str (pa_cons pe_str (pa_cons pe_str (pa_cons pe_str (pa_cons pe_str (pa_cons pe_str (pa_cons pe_str pa_nil))))))))))
        (pss_cons (ps_set (i := 3) scErr.nd rfl (.inl rfl) (pe_op op_cat (pv 3) (pe_lst (pa_cons pe_str (pa_cons pe_str pa_nil)))))
        (pss_cons (ps_if (PW.pt (pw_or (pt_cmpR op_ne (pe_bm PySem.F.plainAttrs_list PySem.F.slot_list_count PySem.F.type_list_count mt_countB (pv 2) (pa_cons pe_bl pa_nil)) pe_int (nomark _))
        (pw_or1 (pt_not (pt_val (pe_callB (call_isO T.exc hz hf) (by rfl) B.isi (by decide +kernel) (pa_cons (pv 1) (pa_cons (pe_bltn (v := .ty "ValueError") (by rfl) T.ve (by decide +kernel) rfl) pa_nil)))))))) (pss_one (ps_ret pe_str)) pss_nil)
        (pss_cons (ps_set (i := 4) scErr.nd rfl (.inl rfl) (pe_ix ix_list (pv 3) (pe_bm PySem.F.plainAttrs_list PySem.F.slot_list_index PySem.F.type_list_index mt_index (pv 2) (pa_cons pe_bl pa_nil)) (fun _ _ => rfl)))
        (pss_cons (ps_if (pt_cmpR op_eq (pv 4) pe_str (nomark _)) (pss_one (ps_ret (pe_tup (pa_cons (pv 4) (pa_cons (pe_xf T.xf T.nP hz hf (pv 1)) (pa_cons (pe_xf T.xf T.nI hz hf (pv 1)) pa_nil)))))) pss_nil)
        (pss_one (ps_ret (pe_ifExp (pt_cmpR op_in_seq (pv 4) (pe_tup (pa_cons pe_str (pa_cons pe_str pa_nil))) (by rfl)) (pe_tup (pa_cons (pv 4) (pa_cons (pe_xf T.xf T.nI hz hf (pv 1)) pa_nil))) (pv 4)))))))))))))))), ?_⟩
    subst hσ
    refine (tisiG rfl hh qInsideItself (tisiG rfl hh qInvalidCourse (tisiG rfl hh qInvalidHands ⟨(by show 3 ≤ sizeLine; decide), fun p1 hp1 => ?_⟩)))
    have e1 := same_upd (o := HO.lst [V.bl (decide (0 = j)), V.bl (decide (1 = j)), V.bl (decide (2 = j))]) hp1
    have h1 : (L2.upd H p1 (.lst [V.bl (decide (0 = j)), V.bl (decide (1 = j)), V.bl (decide (2 = j))])) p1 = some (.lst [V.bl (decide (0 = j)), V.bl (decide (1 = j)), V.bl (decide (2 = j))]) := upd_same
    have hh1 := DdOk.same e1 hh
    generalize L2.upd H p1 (.lst [V.bl (decide (0 = j)), V.bl (decide (1 = j)), V.bl (decide (2 = j))]) = H1 at *
    refine tcat (xs := [V.bl (decide (0 = j)), V.bl (decide (1 = j)), V.bl (decide (2 = j))]) (vs := [V.bl (decide (3 = j)), V.bl (decide (4 = j))]) rfl h1 (fun R r => (tisiG rfl hh1 qInvalidHouse (tisiG rfl hh1 qInvalidLog r))) (by show 3 + 2 ≤ sizeLine; decide) (fun p2 H2 f2 h2 => ?_)
    have e2 := e1.trans f2
    have hh2 := DdOk.same e2 hh
    refine tcat (xs := [V.bl (decide (0 = j)), V.bl (decide (1 = j)), V.bl (decide (2 = j)), V.bl (decide (3 = j)), V.bl (decide (4 = j))]) (vs := [V.bl (decide (5 = j)), V.bl (decide (6 = j)), V.bl (decide (7 = j))]) rfl h2 (fun R r => (tisiG rfl hh2 qInvalidNumber (tisiG rfl hh2 qIsSealed (tisiG rfl hh2 qNoCourse r)))) (by show 5 + 3 ≤ sizeLine; decide) (fun p3 H3 f3 h3 => ?_)
    have e3 := e2.trans f3
    have hh3 := DdOk.same e3 hh
    refine tcat (xs := [V.bl (decide (0 = j)), V.bl (decide (1 = j)), V.bl (decide (2 = j)), V.bl (decide (3 = j)), V.bl (decide (4 = j)), V.bl (decide (5 = j)), V.bl (decide (6 = j)), V.bl (decide (7 = j))]) (vs := [V.bl (decide (8 = j)), V.bl (decide (9 = j)), V.bl (decide (10 = j))]) rfl h3 (fun R r => (tisiG rfl hh3 qNotHeld (tisiG rfl hh3 qNotInside (tisiG rfl hh3 qNotSealed r)))) (by show 8 + 3 ≤ sizeLine; decide) (fun p4 H4 f4 h4 => ?_)
    have e4 := e3.trans f4
    have hh4 := DdOk.same e4 hh
    refine tcat (xs := [V.bl (decide (0 = j)), V.bl (decide (1 = j)), V.bl (decide (2 = j)), V.bl (decide (3 = j)), V.bl (decide (4 = j)), V.bl (decide (5 = j)), V.bl (decide (6 = j)), V.bl (decide (7 = j)), V.bl (decide (8 = j)), V.bl (decide (9 = j)), V.bl (decide (10 = j))]) (vs := [V.bl (decide (11 = j)), V.bl (decide (12 = j))]) rfl h4 (fun R r => (tisiG rfl hh4 qUnknownBox (tisiG rfl hh4 qUnknownHand r))) (by show 11 + 2 ≤ sizeLine; decide) (fun p5 H5 f5 h5 => ?_)
    have e5 := e4.trans f5
    have hh5 := DdOk.same e5 hh
    refine tcat (xs := [V.bl (decide (0 = j)), V.bl (decide (1 = j)), V.bl (decide (2 = j)), V.bl (decide (3 = j)), V.bl (decide (4 = j)), V.bl (decide (5 = j)), V.bl (decide (6 = j)), V.bl (decide (7 = j)), V.bl (decide (8 = j)), V.bl (decide (9 = j)), V.bl (decide (10 = j)), V.bl (decide (11 = j)), V.bl (decide (12 = j))]) (vs := [V.bl (decide (13 = j)), V.bl (decide (14 = j))]) rfl h5 (fun R r => (tisiG rfl hh5 qUnknownItem (tisiG rfl hh5 qUnknownSeal r))) (by show 13 + 2 ≤ sizeLine; decide) (fun p6 H6 f6 h6 => ?_)
    have e6 := e5.trans f6
    have hh6 := DdOk.same e6 hh
    refine ⟨(by show 6 ≤ sizeLine; decide), fun p7 hp7 => ?_⟩
    have f7 := same_upd (o := HO.lst [V.str ("InsideItself" : Str), V.str ("InvalidCourse" : Str), V.str ("InvalidHands" : Str), V.str ("InvalidHouse" : Str), V.str ("InvalidLog" : Str), V.str ("InvalidNumber" : Str)]) hp7
    have h7 : (L2.upd H6 p7 (.lst [V.str ("InsideItself" : Str), V.str ("InvalidCourse" : Str), V.str ("InvalidHands" : Str), V.str ("InvalidHouse" : Str), V.str ("InvalidLog" : Str), V.str ("InvalidNumber" : Str)])) p7 = some (.lst [V.str ("InsideItself" : Str), V.str ("InvalidCourse" : Str), V.str ("InvalidHands" : Str), V.str ("InvalidHouse" : Str), V.str ("InvalidLog" : Str), V.str ("InvalidNumber" : Str)]) := upd_same
    generalize L2.upd H6 p7 (.lst [V.str ("InsideItself" : Str), V.str ("InvalidCourse" : Str), V.str ("InvalidHands" : Str), V.str ("InvalidHouse" : Str), V.str ("InvalidLog" : Str), V.str ("InvalidNumber" : Str)]) = H7 at *
    have e7 := e6.trans f7
    have hK7 := f7 _ _ h6
    refine tcat (xs := [V.str ("InsideItself" : Str), V.str ("InvalidCourse" : Str), V.str ("InvalidHands" : Str), V.str ("InvalidHouse" : Str), V.str ("InvalidLog" : Str), V.str ("InvalidNumber" : Str)]) (vs := [V.str ("IsSealed" : Str), V.str ("NoCourse" : Str), V.str ("NotHeld" : Str), V.str ("NotInside" : Str), V.str ("NotSealed" : Str), V.str ("UnknownBox" : Str), V.str ("UnknownHand" : Str)]) rfl h7 (fun R r => r) (by decide +kernel) (fun p8 H8 f8 h8 => ?_)
    have e8 := e7.trans f8
    have hK8 := f8 _ _ hK7
    refine tcat (xs := [V.str ("InsideItself" : Str), V.str ("InvalidCourse" : Str), V.str ("InvalidHands" : Str), V.str ("InvalidHouse" : Str), V.str ("InvalidLog" : Str), V.str ("InvalidNumber" : Str), V.str ("IsSealed" : Str), V.str ("NoCourse" : Str), V.str ("NotHeld" : Str), V.str ("NotInside" : Str), V.str ("NotSealed" : Str), V.str ("UnknownBox" : Str), V.str ("UnknownHand" : Str)]) (vs := [V.str ("UnknownItem" : Str), V.str ("UnknownSeal" : Str)]) rfl h8 (fun R r => r) (by decide +kernel) (fun p9 H9 f9 h9 => ?_)
    have e9 := e8.trans f9
    have hK9 := f9 _ _ hK8
    have hhE := DdOk.same e9 hh
    have hKE : H9 p6 = some (.lst ((kindsJ j).map V.bl)) := hK9
    have hNE : H9 p9 = some (.lst (namesV.map V.str)) := h9
    refine ⟨_, rfl, .inl ⟨rfl, _, SqL.of hKE⟩, p6, kindsJ j, true, rfl, rfl, SqL.of hKE, rfl, _, rfl, iteFe (by rw [cnt_kinds hj]; rfl) ?_⟩
    refine ⟨_, rfl, hhE, .ty "ValueError", .type "ValueError", true, rfl, fun u z => z, T.kve, _, rfl, iteF ?_⟩
    refine ⟨_, rfl, _, rfl, .inl ⟨rfl, _, SqL.of hKE⟩, p6, (kindsJ j).map V.bl, .bl true, j, .bl true, rfl, rfl, SqL.of hKE, rfl, flat_kinds j, at_kinds hj, rfl, fun m z' hm e => no_kinds hj hm e, p9, namesV.map V.str, (j : Nat), .str (nameJ j), rfl, rfl, SqL.of hNE, at_names hj, ?_⟩
    refine ⟨_, rfl, rfl, _, rfl, iteFe (by rw [decS]; exact nm_not hj hn) ?_⟩
    refine ⟨_, rfl, (by show 2 ≤ sizeLine; decide), fun pz hpz => ⟨pz, [.str ("InvalidHands" : Str), .str ("InvalidLog" : Str)], rfl, .inr (SqT.of upd_same), rfl, rfl, _, rfl, iteFe (nm_in hj hn) ⟨_, rfl, ?_⟩⟩⟩
    exact k _ (e9.trans (same_upd hpz))
end
end Kw



set_option Elab.async false
set_option linter.all false
set_option maxRecDepth 100000
set_option maxHeartbeats 4000000
namespace Kw
open PySem PySem.Spec PyProof.Rows L2
section
variable {X : Cx}
/-! ### match of a tuple against [word, names..] -/
/-- the names behind the word, with their slots; none: the pattern _ -/
inductive Caps (X : Cx) : List Pattern → List (Option Nat) → Prop
  | nil : Caps X [] []
  | wild {pos : Pos} {ps : List Pattern} {is : List (Option Nat)} : Caps X ps is → Caps X (.MatchAs none none pos :: ps) (none :: is)
  | name {x : Str} {i : Nat} {pos : Pos} {ps : List Pattern} {is : List (Option Nat)} : X.N[i]? = some x → X.env.scope.names.lookup x = some .local → Caps X ps is → Caps X (.MatchAs none (some x) pos :: ps) (some i :: is)
def setAll : List (Option Nat) → List V → L2.St → L2.St
  | some i :: is, v :: vs, σ => setAll is vs (σ.set i (some v))
  | none :: is, _ :: vs, σ => setAll is vs σ
  | _, _, σ => σ
structure MCase where
  word : Str
  slots : List (Option Nat)
  body : TS
def mGo (w0 : Str) (rest : List V) (D : Ends) (σ : L2.St) (H : Hp) : List MCase → Prop
  | [] => D.nx σ H
  | c :: cs => if c.slots.length = rest.length ∧ c.word = w0 then c.body D (setAll c.slots rest σ) H else mGo w0 rest D σ H cs
/-- match t: case [word, ..]: .. -/
def tMatch (K : PySem.W.Frag) (te : TE) (cs : List MCase) : TS := fun D σ H => te σ H fun x H1 => ∃ (a : Addr) (w0 : Str) (rest : List V), x = .ref a ∧ SqT K H1 a (.str w0 :: rest) ∧ mGo w0 rest D σ H1 cs
/-- the cases as the text has them -/
inductive Cases (X : Cx) : List MatchCase → List MCase → Prop
  | nil : Cases X [] []
  | cons {s : Str} {j : Nat} {p1 p2 pos : Pos} {ps : List Pattern} {is : List (Option Nat)} {body : List Stmt} {tb : TS} {cs : List MatchCase} {rs : List MCase} (h : Caps X ps is) (hb : PSs X body tb) (hr : Cases X cs rs) :
      Cases X (⟨.MatchSequence (.MatchValue (.Constant (.str s) j p1) p2 :: ps) pos, none, body⟩ :: cs) (⟨s, is, tb⟩ :: rs)
theorem Caps.len {ps : List Pattern} {is : List (Option Nat)} (h : Caps X ps is) : ps.length = is.length := by
  induction h with
  | nil => rfl
  | wild _ ih => simp [ih]
  | name _ _ _ ih => simp [ih]
theorem Caps.nostar {ps : List Pattern} {is : List (Option Nat)} (h : Caps X ps is) : ∀ p ∈ ps, p.isStar = false := by
  induction h with
  | nil => intro p hp; cases hp
  | wild _ ih =>
    intro p hp
    rcases List.mem_cons.mp hp with rfl | hp
    · rfl
    · exact ih p hp
  | name _ _ _ ih =>
    intro p hp
    rcases List.mem_cons.mp hp with rfl | hp
    · rfl
    · exact ih p hp
/-- the captured names and their values -/
def bindsOf : List Pattern → List Value → List (Str × Value)
  | .MatchAs _ (some x) _ :: ps, u :: us => (x, u) :: bindsOf ps us
  | _ :: ps, _ :: us => bindsOf ps us
  | _, _ => []
theorem run_caps {ps : List Pattern} {is : List (Option Nat)} (h : Caps X ps is) : ∀ {us : List Value} {s : Shared} {E : Value → Shared → Prop} {Q : Option (List (Str × Value)) → Shared → Prop}, us.length = ps.length → Q (some (bindsOf ps us)) s →
    wpAny (model X.prog X.w) X.A (matchEach ps X.env us) Q E s := by
  induction h with
  | nil =>
    intro us s E Q hl hq
    cases us with
    | nil => exact wpAny_matchEach_nil hq
    | cons u us => simp at hl
  | wild _ ih =>
    intro us s E Q hl hq
    cases us with
    | nil => simp at hl
    | cons u us =>
      refine wpAny_matchEach_cons (wpAny_matchPattern_Capture ?_)
      exact ih (by simpa using hl) hq
  | name _ _ _ ih =>
    intro us s E Q hl hq
    cases us with
    | nil => simp at hl
    | cons u us =>
      refine wpAny_matchEach_cons (wpAny_matchPattern_Capture ?_)
      exact ih (by simpa using hl) hq
theorem run_binds {ps : List Pattern} {is : List (Option Nat)} (h : Caps X ps is) (hN : X.N.Nodup) : ∀ {us : List Value} {vs : List V} {pins : List (Addr × Obj)} {σ : L2.St} {H : Hp} {s : Shared} {E : Value → Shared → Prop} {Q : Unit → Shared → Prop}, us.length = ps.length → Vals vs us →
    Inv X pins σ H s → (∀ s', Inv X pins (setAll is vs σ) H s' → Q () s') → wpAny (model X.prog X.w) X.A (assignInOrder ((bindsOf ps us).map fun (n, _) => bindName X.env n) ((bindsOf ps us).map (·.2))) Q E s := by
  induction h with
  | nil =>
    intro us vs pins σ H s E Q hl r I k
    cases us with
    | nil => exact wpAny_assignInOrder_none (k s I)
    | cons u us => simp at hl
  | wild _ ih =>
    intro us vs pins σ H s E Q hl r I k
    cases us with
    | nil => simp at hl
    | cons u us =>
      cases r with
      | cons r1 rr => exact ih (by simpa using hl) rr I k
  | name hi hx _ ih =>
    intro us vs pins σ H s E Q hl r I k
    cases us with
    | nil => simp at hl
    | cons u us =>
      cases r with
      | cons r1 rr =>
        refine wpAny_assignInOrder_more (wpAny_bindName (store_ok I hN hi (.inl hx) r1 (fun s' I' => ?_) (.inr hx)))
        exact ih (by simpa using hl) rr I' k
theorem run_cases (hc : X.calm = true) (hN : X.N.Nodup) {a : Addr} {w0 : Str} {rest : List V} {mcs : List MatchCase} {rs : List MCase} (h : Cases X mcs rs) : ∀ {pins : List (Addr × Obj)} {σ : L2.St} {H : Hp} {s : Shared} {D : Ends} {first : Bool}, Inv X pins σ H s → SqT X.K H a (.str w0 :: rest) → mGo w0 rest D σ H rs →
    wpAny (model X.prog X.w) X.A (matchCases mcs X.env (.ref a) first) (fun f s' => SP X pins D f s') X.xe s := by
  induction h with
  | nil =>
    intro pins σ H s D first I hs hq
    exact wpAny_matchCases_nil ⟨σ, H, I, hq⟩
  | @cons w j p1 p2 pos ps is body tb cs rs h hb hr ih =>
    intro pins σ H s D first I hs hq
    obtain ⟨its, rv, ht, hz⟩ := I.tuple hs
    have hlen : its.length = rest.length + 1 := by rw [← rv.length]; rfl
    have pl : (Pattern.MatchValue (.Constant (.str w) j p1) p2 :: ps).length = is.length + 1 := by rw [List.length_cons, h.len]
    have star : (Pattern.MatchValue (.Constant (.str w) j p1) p2 :: ps).findIdx? (·.isStar) = none := List.findIdx?_eq_none_iff.mpr fun p hp => by
      rcases List.mem_cons.mp hp with rfl | hp
      · rfl
      · exact h.nostar p hp
    have wild : ((Pattern.MatchValue (.Constant (.str w) j p1) p2 :: ps).all fun p => p.isWildcard || (p.isStar && p.names.isEmpty)) = false := rfl
    have hz' : rest.length + 1 ≤ sizeLine := hz
    have fit : ((its.toArray.size : Nat) : Int) < 2 ^ 63 := by
      rw [List.size_toArray]
      rw [sizeLine_eq] at hz'
      omega
    refine wpAny_matchCases_cons ?_
    by_cases cl : is.length = rest.length
    · refine matchSeq_tuple_hit ht fit (by rw [pl, List.size_toArray, hlen, cl]) ?_ star wild
      rw [show (Pattern.MatchValue (.Constant (.str w) j p1) p2 :: ps).length = its.toArray.size by rw [pl, List.size_toArray, hlen, cl]]
      refine unpackItems_tuple (I.ok.hd hc) ht fun h' hx => ?_
      have I1 : Inv X pins σ H { s with heap := h', toks := s.toks + 1 + 1 } := I.kept (t' := s.toks + 1 + 1) fun b o e => hx b o (Nat.ne_of_lt (Heap.lt_size e)) e
      have el : its.toArray.toList = its := by simp
      rw [el]
      cases rv with
      | @cons _ u0 _ us r0 rr =>
        have lu : us.length = ps.length := by
          have : us.length + 1 = rest.length + 1 := hlen
          rw [h.len]
          omega
        refine wpAny_matchEach_cons (wpAny_matchPattern_Value ?_)
        refine thn ((pe_str (X := X) (x := w) (j := j) (pos := p1)).run pins _ σ H (fun v H1 => v = .str w ∧ H1 = H) I1 ⟨rfl, rfl⟩) fun u s1 hu => ?_
        obtain ⟨v, H1, I2, r2, ev, eH⟩ := hu
        subst ev eH
        refine thn (op_eq pins s1 σ H1 (V.str w0) (V.str w) u0 u (fun z H2 => z = .bl (decide ((V.str w0) = V.str w)) ∧ H2 = H1) I2 r0 r2 ⟨rfl, rfl, rfl⟩) fun z s2 hz2 => ?_
        obtain ⟨zv, H2, I3, rz, ez, eH2⟩ := hz2
        subst ez eH2
        obtain rfl : z = Value.bool (decide ((V.str w0) = V.str w)) := rz
        refine wpAny_truthy_bool ?_
        by_cases cw : w = w0
        · subst cw
          rw [decide_eq_true rfl]
          show wpAny _ _ _ _ _ _
          refine run_caps h lu ?_
          show wpAny _ _ _ _ _ _
          refine run_binds h hN lu rr I3 fun s3 I4 => ?_
          have hq' : tb D (setAll is rest σ) H2 := by
            have q := hq
            unfold mGo at q
            rwa [if_pos ⟨cl, rfl⟩] at q
          exact hb.run pins s3 _ H2 D I4 hq'
        · have ne : decide ((V.str w0) = V.str w) = false := decide_eq_false fun z => cw (V.str.inj z).symm
          rw [ne]
          show wpAny _ _ _ _ _ _
          have hq' : mGo w0 rest D σ H2 rs := by
            have q := hq
            unfold mGo at q
            rwa [if_neg (fun z => cw z.2)] at q
          exact ih I3 hs hq'
    · refine matchSeq_tuple_miss ht fit (by rw [pl, List.size_toArray, hlen]; omega) ?_ star wild
      have hq' : mGo w0 rest D σ H rs := by
        have q := hq
        unfold mGo at q
        rwa [if_neg (fun z => cl z.1)] at q
      exact ih (I.kept (t' := _) fun _ _ e => e) hs hq'
theorem ps_match {e : Expr} {te : TE} {mcs : List MatchCase} {rs : List MCase} {pos : Pos} (hc : X.calm = true) (hN : X.N.Nodup) (he : PE X e te) (h : Cases X mcs rs) : PS X (.Match e mcs pos) (tMatch X.K te rs) := by
  refine ⟨fun pins s σ H D I q => wpAny_Match (thn (he.run pins s σ H _ I q) fun v s1 hv => ?_)⟩
  obtain ⟨x, H1, I1, r1, a, w0, rest, ex, hs, hg⟩ := hv
  subst ex
  cases r1
  exact run_cases hc hN h I1 hs hg
end
end Kw



set_option Elab.async false
set_option linter.all false
set_option maxRecDepth 100000
set_option maxHeartbeats 4000000
namespace Kw
open PySem PySem.Spec PyProof.Rows L2
section
variable {X : Cx}
/-- {item}, an item: a word and a number; some text that is not long -/
def tFmtI (K : PySem.W.Frag) (te : TE) : TE := fun σ H Q => te σ H fun x H1 => ∃ (a : Addr) (w : Str) (i : Int), x = .ref a ∧ SqT K H1 a [.str w, .int i] ∧ w.length ≤ 20 ∧ (∀ c ∈ w.cps.toList, c < 16 ^ 8) ∧ 0 ≤ i ∧ i ≤ 1000 ∧ ∀ m : Str, m.length ≤ 300 → Q (.str m) H1
theorem log2_le {i : Int} (h0 : 0 ≤ i) (h1 : i ≤ 1000) : i.natAbs.log2 < 1920 := by
  have h2 : i.natAbs ≤ 1000 := by omega
  by_cases h3 : i.natAbs = 0
  · rw [h3]; decide
  · have := (Nat.log2_lt h3 (k := 10)).mpr (by omega)
    omega
theorem pe_fmtI {e : Expr} {te : TE} {pos : Pos} {k : Nat} (hr : Room k X.A) (he : PE X e te) : PE X (.FormattedValue e (-1) none pos) (tFmtI X.K te) := by
  refine ⟨fun pins s σ H Q I h => ?_⟩
  refine wpAny_FormattedValue_plain (thn (he.run pins s σ H _ I h) fun v s1 hv => ?_)
  obtain ⟨x, H1, I1, r1, a, w, i, rfl, ht, hw, hc, i0, i1, q⟩ := hv
  cases r1
  obtain ⟨its, rv, ⟨o, ho, hcl, n, hd⟩, _⟩ := I1.tuple ht
  have h1 := StrLaws.reprText_len w hc
  have h2 : (toString i : Str).length ≤ 4 := toString_length_le i0 (k := 4) (by decide) (by omega)
  have hp : piled [reprText w, (toString i : Str)] ≤ 230 := by
    rw [piled_cons, piled_cons, piled_nil]
    omega
  have htx := fmt_text [reprText w, (toString i : Str)]
  have hz : sizeLine ≥ 100000 := by rw [sizeLine_eq]; omega
  have hT : ReprAll X.prog X.w its.toArray.toList [reprText w, (toString i : Str)] := by
    rw [show its.toArray.toList = its by simp]
    cases rv with
    | cons ra rr =>
      cases rr with
      | cons rb rr =>
        cases rr
        obtain ⟨t1, rfl⟩ := ra
        obtain ⟨t2, rfl⟩ := rb
        exact .cons (ReprIs.str w t1 (by omega)) (.cons (ReprIs.int t2 (log2_le i0 i1)) .nil)
  have hu := hr.units
  exact fmt_tuple (by omega) ho hcl hd hT (by omega) fun m u tk hm => ⟨.str m, H1, I1.tok _, ⟨u, rfl⟩, q m (by omega)⟩
end
end Kw



set_option Elab.async false
set_option linter.all false
set_option maxRecDepth 100000
set_option maxHeartbeats 4000000
namespace Kw
open PySem PySem.Spec PyProof.Rows L2
/-! ### sorted over tuples of words, numbers and tuples of these -/
/-- x < y is told: numbers, words, tuples place by place -/
def cmpE : PyData → PyData → Bool
  | .int _, .int _ => true
  | .str _, .str _ => true
  | .tuple [.str _, .int _], .tuple [.str _, .int _] => true
  | _, _ => false
/-- .. of two tuples, at the first place where they differ -/
def topCmp : List PyData → List PyData → Bool
  | x :: xs, y :: ys => if PyData.eqv x y = true then topCmp xs ys else cmpE x y
  | _, _ => true
section
variable {prog : Program} {w : World}
theorem rc_str {A : Around} {s : Shared} (a b : Str) (t u : Tok) : Ob.RcOp .Lt A s (.str a t) (.str b u) (decide (a.cps.toList < b.cps.toList)) := fun _ _ _ _ h => PyProof.Rows.lt_str h
/-- x < y -/
theorem lt_reads {A : Around} {s : Shared} {v u : Value} {d e : PyData} {as bs : List Addr} (r1 : Reads s.heap v d as) (r2 : Reads s.heap u e bs) (hu : A.units + 3 < cLine) (h : cmpE d e = true) : ∃ b, Ob.RcOp .Lt A s v u b := by
  unfold cmpE at h
  split at h
  · cases r1
    cases r2
    exact ⟨_, Ob.RcOp.lt_int _ _ _ _⟩
  · cases r1
    cases r2
    exact ⟨_, rc_str _ _ _ _⟩
  · rename_i w1 i1 w2 i2
    cases r1 with
    | @tuple a o vs n _ as1 g1 g2 g3 g4 =>
      cases r2 with
      | @tuple a' o' vs' n' _ as2 k1 k2 k3 k4 =>
        have hv : ∃ t1 t2, vs.toList = [.str w1 t1, .int i1 t2] := by
          generalize vs.toList = l at g4
          cases g4 with
          | cons p1 q1 =>
            cases q1 with
            | cons p2 q2 =>
              cases q2
              cases p1
              cases p2
              exact ⟨_, _, rfl⟩
        have hv' : ∃ t1 t2, vs'.toList = [.str w2 t1, .int i2 t2] := by
          generalize vs'.toList = l at k4
          cases k4 with
          | cons p1 q1 =>
            cases q1 with
            | cons p2 q2 =>
              cases q2
              cases p1
              cases p2
              exact ⟨_, _, rfl⟩
        obtain ⟨t1, t2, e1⟩ := hv
        obtain ⟨t3, t4, e2⟩ := hv'
        obtain rfl : vs = #[.str w1 t1, .int i1 t2] := by rw [← Array.toArray_toList (xs := vs), e1]
        obtain rfl : vs' = #[.str w2 t3, .int i2 t4] := by rw [← Array.toArray_toList (xs := vs'), e2]
        refine ⟨_, Ob.RcOp.tuples_lt (e := fun j => if j = 0 then w1 == w2 else i1 == i2) (r := fun j => if j = 0 then decide (w1.cps.toList < w2.cps.toList) else decide (i1 < i2)) ⟨_, g1, g2, _, g3⟩ ⟨_, k1, k2, _, k3⟩ (by omega) (fun j h1 h2 => ?_) (fun j h1 h2 _ => ?_)⟩
        · match j, h1, h2 with
          | 0, _, _ => exact SeqAt.EqAt.str_str _ _ _ _
          | 1, _, _ => exact SeqAt.EqAt.int_int _ _ _ _
          | j + 2, h1, _ => simp at h1; omega
        · match j, h1, h2 with
          | 0, _, _ => exact rc_str _ _ _ _
          | 1, _, _ => exact Ob.RcOp.lt_int _ _ _ _
          | j + 2, h1, _ => simp at h1; omega
  · cases h
theorem lex_reads {A : Around} {s : Shared} {b : Bool} (fin : Bool) (hu : A.units + 20 < cLine) : ∀ (xs ys : List PyData) (vs us : List Value) (as bs : List Addr) (i : Nat), ReadsAll s.heap vs xs as → ReadsAll s.heap us ys bs → PyData.canLayAll0 xs = true → PyData.canLayAll0 ys = true → PyData.depthAll xs ≤ 10 →
    topCmp xs ys = true → (i = 0 → ∀ x y xr yr, xs = x :: xr → ys = y :: yr → (∃ w, x = .str w) ∧ ∃ w, y = .str w) → ∃ r, PySem.W.KatLex prog w A b fin (fun r' s' => s' = s ∧ r' = r) (vs.zip us) i s
  | [], ys, vs, us, as, bs, i, h1, h2, _, _, _, _, _ => by
    cases h1
    exact ⟨fin, PySem.W.kat_nil ⟨rfl, rfl⟩⟩
  | x :: xs, [], vs, us, as, bs, i, h1, h2, _, _, _, _, _ => by
    cases h2
    rw [List.zip_nil_right]
    exact ⟨fin, PySem.W.kat_nil ⟨rfl, rfl⟩⟩
  | x :: xs, y :: ys, vs, us, as, bs, i, h1, h2, c1, c2, d1, ht, h0 => by
    cases h1 with
    | @cons v vr _ _ as1 as2 p1 q1 =>
      cases h2 with
      | @cons u ur _ _ bs1 bs2 p2 q2 =>
        simp only [PyData.canLayAll0, Bool.and_eq_true] at c1 c2
        simp only [PyData.depthAll] at d1
        have eq := SeqAt.eqAt_reads x y A s v u as1 bs1 p1 p2 c1.1 c2.1 (by have : min x.depth y.depth ≤ x.depth := Nat.min_le_left _ _; omega)
        unfold topCmp at ht
        cases ce : PyData.eqv x y with
        | true =>
          rw [ce, if_pos rfl] at ht
          obtain ⟨r, hr⟩ := lex_reads (b := b) fin hu xs ys vr ur as2 bs2 (i + 1) q1 q2 c1.2 c2.2 (by omega) ht (fun z => by omega)
          rw [ce] at eq
          exact ⟨r, PySem.W.kat_cons (eq prog w _ _ (PySem.W.kat_yes hr))⟩
        | false =>
          rw [ce, if_neg (by decide)] at ht
          rw [ce] at eq
          cases cb : (b && i == 0) with
          | true =>
            have hi : i = 0 := by
              have := (Bool.and_eq_true_iff.mp cb).2
              simpa using this
            obtain ⟨⟨w1, e1⟩, ⟨w2, e2⟩⟩ := h0 hi x y xs ys rfl rfl
            subst e1 e2
            cases p1
            cases p2
            refine ⟨decide (w1.cps.toList < w2.cps.toList), PySem.W.kat_cons (eq prog w _ _ (PySem.W.kat_no ?_))⟩
            rw [cb]
            exact oneLt_str ⟨rfl, rfl⟩
          | false =>
            obtain ⟨k, hk⟩ := lt_reads (A := A) p1 p2 (by omega) ht
            refine ⟨k, PySem.W.kat_cons (eq prog w _ _ (PySem.W.kat_no ?_))⟩
            rw [cb]
            exact PySem.W.kat_one _ _ (hk prog w _ _ ⟨rfl, rfl⟩)
mutual
theorem reads_keep {h h' : Heap} (k : ∀ b o, h.get? b = some o → o.cls = .type "tuple" → h'.get? b = some o) : ∀ (d : PyData) {v : Value} {as : List Addr}, noL d = true → Reads h v d as → Reads h' v d as
  | .none, _, _, _, r => by cases r; exact .none
  | .bool b, _, _, _, r => by cases r; exact .bool b
  | .int i, _, _, _, r => by cases r; exact .int i _
  | .str x, _, _, _, r => by cases r; exact .str x _
  | .list _, _, _, n, _ => by simp [noL] at n
  | .dict _, _, _, n, _ => by simp [noL] at n
  | .tuple ds, _, _, n, r => by
    cases r with
    | tuple g1 g2 g3 g4 => exact .tuple (k _ _ g1 g2) g2 g3 (reads_keeps k ds (by simpa [noL] using n) g4)
theorem reads_keeps {h h' : Heap} (k : ∀ b o, h.get? b = some o → o.cls = .type "tuple" → h'.get? b = some o) : ∀ (ds : List PyData) {vs : List Value} {as : List Addr}, noLs ds = true → ReadsAll h vs ds as → ReadsAll h' vs ds as
  | [], _, _, _, r => by cases r; exact .nil
  | d :: ds, _, _, n, r => by
    cases r with
    | cons r1 rr =>
      have n' : noL d = true ∧ noLs ds = true := by simpa [noLs] using n
      exact .cons (reads_keep k d n'.1 r1) (reads_keeps k ds n'.2 rr)
end
/-- what is sorted -/
structure Sd (d : PyData) : Prop where
  ex : ∃ w rest, d = .tuple (.str w :: rest)
  lay : d.canLay0 = true
  dep : d.depth ≤ 10
  nol : noL d = true
def itemsD' : PyData → List PyData
  | .tuple ds => ds
  | _ => []
/-- every two of them compare -/
def Cmps (ds : List PyData) : Prop := ∀ d ∈ ds, ∀ e ∈ ds, topCmp (itemsD' d) (itemsD' e) = true
theorem tot_reads {A : Around} {s : Shared} {b : Bool} {vs : List Value} (hu : A.units + 20 < cLine) (P : PyData → Prop) (hP : ∀ d, P d → Sd d) (hc : ∀ d e, P d → P e → topCmp (itemsD' d) (itemsD' e) = true)
    (hv : ∀ v ∈ vs, ∃ d as, P d ∧ Reads s.heap v d as) : Srt.Tot prog w A s (tuples' b) (fun p => p.1 ∈ vs) := by
  intro p q hm hm'
  obtain ⟨d, as, pd, r1⟩ := hv _ hm
  obtain ⟨e, bs, pe, r2⟩ := hv _ hm'
  have s1 := hP d pd
  have s2 := hP e pe
  have c := hc d e pd pe
  obtain ⟨w1, t1, e1⟩ := s1.ex
  obtain ⟨w2, t2, e2⟩ := s2.ex
  have l1 := s1.lay
  have l2 := s2.lay
  have dp := s1.dep
  subst e1 e2
  generalize p.1 = v at *
  generalize q.1 = u at *
  cases r1 with
  | tuple g1 g2 g3 g4 =>
    cases r2 with
    | tuple k1 k2 k3 k4 =>
      simp only [PyData.canLay0] at l1 l2
      simp only [PyData.depth] at dp
      obtain ⟨r, hr⟩ := lex_reads (prog := prog) (w := w) (b := b) _ hu _ _ _ _ _ _ 0 g4 k4 l1 l2 (by omega) c (fun _ x y xr yr ex ey => by
        cases ex
        cases ey
        exact ⟨⟨_, rfl⟩, ⟨_, rfl⟩⟩)
      exact ⟨r, PySem.W.kat_lt g1 g3 k1 k3 hr⟩
theorem firsts_reads {h : Heap} {P : PyData → Prop} (hP : ∀ d, P d → Sd d) : ∀ {vs : List Value}, (∀ v ∈ vs, ∃ d as, P d ∧ Reads h v d as) → ∃ fs : List Value, PySem.W.KatTups h vs fs ∧ fs.length = vs.length ∧ ∀ f ∈ fs, ∃ x t, f = Value.str x t
  | [], _ => ⟨[], PySem.W.KatTups.nil, rfl, fun _ hm => by simp at hm⟩
  | v :: vs, hp => by
    obtain ⟨fs, h1, h2, h3⟩ := firsts_reads hP (vs := vs) fun v' hm => hp v' (List.mem_cons_of_mem _ hm)
    obtain ⟨d, as, pd, r⟩ := hp v List.mem_cons_self
    obtain ⟨w1, t1, e1⟩ := (hP d pd).ex
    subst e1
    cases r with
    | @tuple a o xs n _ _ g1 g2 g3 g4 =>
      obtain ⟨t, rest, e⟩ : ∃ t rest, xs.toList = Value.str w1 t :: rest := by
        generalize xs.toList = l at g4
        cases g4 with
        | cons p1 q1 =>
          cases p1
          exact ⟨_, _, rfl⟩
      have hf : xs[0]? = some (Value.str w1 t) := by rw [← Array.getElem?_toList, e]; rfl
      refine ⟨.str w1 t :: fs, PySem.W.KatTups.cons g1 g2 g3 hf h1, by rw [List.length_cons, List.length_cons, h2], fun f hm => ?_⟩
      rcases List.mem_cons.mp hm with rfl | hm
      · exact ⟨w1, t, rfl⟩
      · exact h3 f hm
theorem sortable_reads {A : Around} {s : Shared} {a : Addr} {vs : List Value} (hu : A.units + 20 < cLine) (h0 : 0 < vs.length) (P : PyData → Prop) (hP : ∀ d, P d → Sd d) (hc : ∀ d e, P d → P e → topCmp (itemsD' d) (itemsD' e) = true)
    (hv : ∀ v ∈ vs, ∃ d as, P d ∧ Reads s.heap v d as) (ha : ∀ o, s.heap.get? a = some o → o.cls ≠ .type "tuple") : Srt.Sortable prog w A s a vs := by
  intro h' keep
  have hv' : ∀ v ∈ vs, ∃ d as, P d ∧ Reads h' v d as := fun v hm => by
    obtain ⟨d, as, pd, r⟩ := hv v hm
    exact ⟨d, as, pd, reads_keep (fun b o e c => keep b o (fun z => by subst z; exact ha o e c) e) d (hP d pd).nol r⟩
  obtain ⟨fs, h1, h2, h3⟩ := firsts_reads hP hv'
  refine ⟨tuples' true, fun Q E hq => ?_, tot_reads (s := { s with heap := h' }) hu P hP hc hv'⟩
  refine PySem.W.kat_kind (T := .type "str") h1 (by omega) (fun f hm => ?_) (by rfl) ?_
  · obtain ⟨x, t, rfl⟩ := h3 f hm
    exact PySem.W.Looks.now
  · have e : (Value.type "str" != Value.type "tuple") = true := by first | decide +kernel | rfl | decide
    rw [e]
    exact hq
end
theorem vals_perm {out its : List Value} (h : out.Perm its) : ∀ {xs : List V}, Vals xs its → ∃ ys, Vals ys out ∧ ys.Perm xs := by
  induction h with
  | nil =>
    intro xs r
    cases r
    exact ⟨[], .nil, List.Perm.refl _⟩
  | cons u _ ih =>
    intro xs r
    cases r with
    | cons r1 rr =>
      obtain ⟨ys, r2, p⟩ := ih rr
      exact ⟨_ :: ys, .cons r1 r2, p.cons _⟩
  | swap u v l =>
    intro xs r
    cases r with
    | cons r1 rr =>
      cases rr with
      | cons r2 rr => exact ⟨_, .cons r2 (.cons r1 rr), List.Perm.swap _ _ _⟩
  | trans _ _ ih1 ih2 =>
    intro xs r
    obtain ⟨ys, r2, p2⟩ := ih2 r
    obtain ⟨zs, r3, p3⟩ := ih1 r2
    exact ⟨zs, r3, p3.trans p2⟩
theorem reads_mem {h : Heap} : ∀ {vs : List Value} {ds : List PyData} {as : List Addr}, ReadsAll h vs ds as → ∀ v ∈ vs, ∃ d as, d ∈ ds ∧ Reads h v d as
  | _, _, _, .nil, v, hv => by cases hv
  | _, _, _, .cons r1 rr, v, hv => by
    rcases List.mem_cons.mp hv with rfl | hv
    · exact ⟨_, _, List.mem_cons_self, r1⟩
    · obtain ⟨d, as, h1, h2⟩ := reads_mem rr v hv
      exact ⟨d, as, List.mem_cons_of_mem _ h1, h2⟩
/-- sorted(l), l a list of tuples of words, numbers and small tuples: the same in some order -/
def rSortD (K : PySem.W.Frag) : List V → Hp → VK → Prop := fun vs H Q => ∃ (a : Addr) (xs : List V) (ds : List PyData), vs = [.ref a] ∧ SqL K H a xs ∧ DpAll K H xs ds ∧ (∀ d ∈ ds, Sd d) ∧ Cmps ds ∧
  ∀ (ys : List V) (p : Addr), ys.Perm xs → H p = none → Q (.ref p) (L2.upd H p (.lst ys))
theorem cr_sortD {X : Cx} (hu : X.A.units + 60 < cLine) : CallR X (.builtin "sorted") (rSortD X.K) := by
  intro pins s σ H vs us Q I r h
  obtain ⟨a, xs, ds, rfl, hs, hd, hS, hC, q⟩ := h
  obtain ⟨its, rv, hl, hz⟩ := I.list hs
  rw [Vals.ref1 r]
  have lx : its.length = xs.length := rv.length.symm
  obtain ⟨as, ra⟩ := Dp.readsAll I ds xs its hd rv
  refine Srt.sorted_any hl.isList (by rw [lx]; exact hz) (fun h2 h1 a' ha' k => ?_) fun out ho => ?_
  · refine sortable_reads (s := { s with heap := h1 }) (by show X.A.units + 1 + 1 + 20 < cLine; omega) (by omega) (fun d => d ∈ ds) hS (fun d e hd he => hC d hd e he) (fun v hv => ?_) fun o e => ?_
    · obtain ⟨d, as, hd1, r1⟩ := reads_mem ra v hv
      exact ⟨d, as, hd1, reads_keep (fun b o e _ => (k b o e).2) d (hS d hd1).nol r1⟩
    · have e' : some o = some (seqObj "list" its.toArray 0) := e.symm.trans ha'
      cases e'
      intro c
      exact absurd (Value.type.inj c) (by decide)
  · obtain ⟨ys, ry, py⟩ := vals_perm ho rv
    obtain ⟨ep, he'⟩ := PyProof.Rows.sortedAll_at s.heap its out.toArray
    have hlen : ys.length ≤ sizeLine := by rw [py.length_eq]; exact hz
    exact ⟨.ref _, L2.upd H (s.heap.objs.size + 1) (.lst ys), I.laid (t' := s.toks) (fun _ _ => PyProof.Rows.sortedAll_old) (Nat.le_succ _) ⟨hlen, out, ep, ry, he'⟩, rfl, q ys _ py (I.hok.fresh (Nat.le_succ _))⟩
end Kw



set_option Elab.async false
set_option linter.all false
set_option maxRecDepth 100000
set_option maxHeartbeats 4000000
/-! o(..), o an instance of a class with an own __call__. -/
namespace Kw
open PySem PySem.Spec PySem.Calls PyProof.Rows L2
section
variable {M : Model} {A : Around} {E : Value → Shared → Prop} {s : Shared} {pos : Pos} {x : Addr} {fs : List Value} {Q : Value → Shared → Prop}
end
section
variable {X : Cx} {CX : CXT} {C f : Addr} {fd : FuncData} {k : Nat} {ps : List Str} {sp : Sp} {E : XK} {x : Str} {p pos : Pos} {e : Expr} {es : List Expr} {to : TE} {t : TA}
end
end Kw



set_option Elab.async false
set_option linter.all false
set_option maxRecDepth 100000
set_option maxHeartbeats 4000000
namespace Kw
open PySem PySem.Spec PyProof.Rows L2
/-! ### defs of which what is raised has no context; an error class made where an exception is handled -/
/-- the context of the body, where an exception is handled -/
def supCxH (CX : CXT) (P : Program) (w : World) (K : PySem.W.Frag) (mg : Str → Option Value) (base : Heap) (N : List Str) (qual : Str) (scope : Scope) (f : Addr) (cd : Value) (cc : Addr) (A : Around) (outer : List Env) (s : Shared) (H : Hp) (E : XK) (p : Addr × Obj) : Cx where
  prog := P
  w := w
  K := K
  mg := mg
  base := base
  A := A.deeper (sEnv qual scope s.heap.objs.size f cd cc)
  N := N
  s_0 := s
  H_0 := H
  env := sEnv qual scope s.heap.objs.size f cd cc
  outer := outer
  stack := sEnv qual scope s.heap.objs.size f cd cc :: outer
  ex := []
  calm := false
  fn := fun _ => false
  pn := [p]
  xe := fun e s' => wpAny (model P w) (A.deeper (sEnv qual scope s.heap.objs.size f cd cc)) (leaving (sEnv qual scope s.heap.objs.size f cd cc) e) (fun _ s'' => CX outer H s E e s'') (fun e' s'' => CX outer H s E e' s'') s'

section
variable {CX : CXT} {P : Program} {w : World} {K : PySem.W.Frag} {mg : Str → Option Value} {base : Heap} {N : List Str} {qual : Str} {scope : Scope} {f cc : Addr} {cd : Value} {A : Around} {outer : List Env} {s : Shared} {H : Hp} {E : XK}
theorem sup_startH {us : List Value} {vs : List V} {h1 : Heap} {tk : Nat} {D : Addr} {ccl : Value} {ccd : Option Addr} {ccs : Array (Option Value)} (S : SupScope N scope) {p : Addr × Obj} (hpin : L2H.PinOk outer H s p) (e0 : Env0 P w K mg base A outer s H) (hl : vs.length = N.length) (r : Vals vs us)
    (hcell : K.lookup cc = some ⟨ccl, ccd, .cell (some (.ref D)), ccs⟩)
    (hns : h1.Ns s.heap.objs.size (fun x => (N.zip us).reverse.lookup x)) (hk : ∀ b o, s.heap.get? b = some o → h1.get? b = some o) :
    Inv (supCxH CX P w K mg base N qual scope f cd cc A outer s H E p) [] (vs.map some) H { s with heap := h1, toks := tk } := by
  have noA : ∀ b : Addr, b ∉ (supCxH CX P w K mg base N qual scope f cd cc A outer s H E p).ex := fun b z => absurd (show b ∈ ([] : List Addr) from z) (by simp)
  have KX := e0.mod.kin
  have hcb := KX _ _ hcell
  have cells : ∀ {y c}, (supCxH CX P w K mg base N qual scope f cd cc A outer s H E p).env.cells.lookup y = some c → y = ("__class__" : Str) ∧ c = cc := fun {y c} h => by
    have h' : List.lookup y [(("__class__" : Str), cc)] = some c := h
    by_cases e : y = ("__class__" : Str)
    · subst e
      have q : List.lookup ("__class__" : Str) [(("__class__" : Str), cc)] = some cc := by simp [List.lookup]
      rw [q] at h'
      exact ⟨rfl, (Option.some.inj h').symm⟩
    · have q : (y == ("__class__" : Str)) = false := by simpa using e
      simp [List.lookup, q] at h'
  refine ⟨⟨e0.mod, S.kind, rfl, rfl, Nat.le_refl _, fun y z c h1 h2 => (cells h1).1.trans (cells h2).1.symm, fun y hy => ?_, fun y c h _ => Bool.noConfusion (show false = true from h), (fun z => Bool.noConfusion (show false = true from z)), Around.frames_deeper e0.frames, .inr ⟨rfl, rfl⟩, fun b z => absurd z (noA b), e0.bs, e0.bsz, fun b _ _ => noA b, fun b z => absurd z (noA b), e0.funs, e0.frf⟩,
    rfl, e0.bare, Un.kept hk, ⟨_, hns, fun i y v h1 h2 h3 => ?_⟩, fun y c h => ?_, e0.hok.fresh (Nat.le_refl _), fun y c h => ?_, fun q hq => ?_, e0.hok.kept hk, ?_⟩
  · have hy : scope.names.lookup y = some .cell ∨ scope.names.lookup y = some .free := hy
    rcases hy with hy | hy
    · exact absurd rfl (S.nocell _ (PySem.mem_of_lookup hy))
    · have e := S.onlyFree y hy
      subst e
      exact ⟨cc, by show List.lookup ("__class__" : Str) [(("__class__" : Str), cc)] = some cc; simp [List.lookup]⟩
  · rw [List.getElem?_map] at h2
    cases e : vs[i]? with
    | none =>
      rw [e] at h2
      cases h2
    | some a =>
      rw [e] at h2
      cases h2
      obtain ⟨u, hu, rv⟩ := r.get e
      have hp : N[i]? = some y := h1
      refine ⟨u, rv, .inl ⟨S.par y (List.mem_of_getElem? hp), ?_⟩⟩
      have hlen := r.length
      -- the place of y in the reversed bindings
      have key : ∀ (N : List Str) (us : List Value) (i : Nat), N.Nodup → N[i]? = some y → us[i]? = some u → (N.zip us).reverse.lookup y = some u := by
        intro N
        induction N with
        | nil => intro us i _ h; simp at h
        | cons n N ih =>
          intro us i nd h1 h2
          cases us with
          | nil => simp at h2
          | cons u0 us =>
            rw [List.zip_cons_cons, List.reverse_cons]
            cases i with
            | zero =>
              simp at h1 h2
              subst h1 h2
              have hn : (N.zip us).reverse.lookup n = none := by
                have hnn := (List.nodup_cons.mp nd).1
                cases q : (N.zip us).reverse.lookup n with
                | none => rfl
                | some z =>
                  have hm := PySem.mem_of_lookup q
                  exact absurd (List.of_mem_zip (List.mem_reverse.mp hm)).1 hnn
              rw [List.lookup_append, hn]
              simp [List.lookup]
            | succ i =>
              have q := ih us i (List.nodup_cons.mp nd).2 (by simpa using h1) (by simpa using h2)
              rw [List.lookup_append, q]
              rfl
      exact key N us i S.nd hp hu
  · obtain ⟨_, rfl⟩ := cells h
    exact ⟨_, _, hk _ _ (e0.bs _ _ hcb).1, rfl⟩
  · obtain ⟨_, rfl⟩ := cells h
    exact (e0.bs _ _ hcb).2
  · have eq : q = p := by simpa using (show q ∈ [p] ++ ([] : List (Addr × Obj)) from hq)
    rw [eq]
    exact ⟨hk p.1 p.2 hpin.get, hpin.free, Nat.ne_of_lt (Heap.lt_size hpin.get), hpin.nofs, hpin.nocell⟩
  · show (vs.map some).length = N.length
    rw [List.length_map, hl]
end

section
variable {CX : CXT} {P : Program} {w : World} {K : PySem.W.Frag} {mg : Str → Option Value} {base : Heap} {k : Nat} {N : List Str} {name qual : Str} {scope : Scope} {params : Arguments} {f cc cda C : Addr} {ar : Arg} {vsC : Array Value} {fileS : Str} {tf : Tok}
  {dV kV doc pm ct oc ccl cl : Value} {an od cdd cld : Option Addr} {osl ccs csl : Array (Option Value)} {e : Expr} {rest : List Stmt} {p0 p1 p2 p3 p4 : Pos} {sp : Sp} {pl : Addr → Sem Bool}
theorem fn_superH (T : SupC P K mg C)
    (lk : K.lookup f = some ⟨oc, od, .func (PySem.W.ksFn name qual params (.Expr (supCall e p0 p1 p2 p3) p4 :: rest) scope dV kV doc pm an (.ref cda) ct cc), osl⟩) (hcd : PySem.W.codeIn K (.ref cda) qual = true)
    (hp : (params.posonlyargs ++ params.args).head? = some ar) (hself : N[0]? = some ar.arg)
    (hcode : K.lookup cda = some ⟨ccl, cdd, .fields vsC, ccs⟩) (hvs : vsC[2]? = some (.str fileS tf)) (hfile : ((P.main.file : Str) == fileS) = true)
    (hcell : K.lookup cc = some ⟨cl, cld, .cell (some (.ref C)), csl⟩)
    (S : SupScope N scope) (len : ∀ vs H Q E, sp vs H Q E → vs.length = N.length)
    (hsw : ∀ L, swapsWith (supCall e p0 p1 p2 p3) none p4.line (sEnv qual scope L f (.ref cda) cc) = pure false)
    (hev : ∀ L, eval (supCall e p0 p1 p2 p3) (sEnv qual scope L f (.ref cda) cc) = (do
      let ov ← attributeBase (.Call (.Name "super" p0) [] [] p1) "__init__" (sEnv qual scope L f (.ref cda) cc) (eval (.Call (.Name "super" p0) [] [] p1) (sEnv qual scope L f (.ref cda) cc))
      standAt p2.atName
      let (g, first) ← holding [ov] (getMethod ov "__init__" (pl L))
      callWith p3 g first (backTo p3 (starEach [e] (sEnv qual scope L f (.ref cda) cc))) []))
    (hst : ∀ L, starEach [e] (sEnv qual scope L f (.ref cda) cc) = [(false, eval e (sEnv qual scope L f (.ref cda) cc))])
    (hbody : ∀ (A : Around) (outer : List Env) (s : Shared) (H : Hp) (vs : List V) (Q : VK) (E : XK) (p : Addr × Obj), L2H.Hot1 A p → L2H.RoomH k (A.deeper (sEnv qual scope s.heap.objs.size f (.ref cda) cc)) → sp vs H Q E →
      ∃ te t, PE (supCxH CX P w K mg base N qual scope f (.ref cda) cc A outer s H E p) e te ∧ PSs (supCxH CX P w K mg base N qual scope f (.ref cda) cc A outer s H E p) rest t ∧
        (∃ a, vs[0]? = some (V.ref a) ∧ H a = some (exo a C none)) ∧ tSup C te t { nx := fun _ H' => Q .non H', rt := Q } (vs.map some) H) :
    L2H.FnH P w K mg base CX (k + 1) f (PySem.W.ksFn name qual params (.Expr (supCall e p0 p1 p2 p3) p4 :: rest) scope dV kV doc pm an (.ref cda) ct cc) N sp := by
  refine ⟨len, fun A outer s H args us vs Q E p hr hot hpin e0 hb r hsp => ?_⟩
  have hl := len _ _ _ _ hsp
  have KX : K.In s.heap := e0.mod.kin.keeps fun b o e => (e0.bs b o e).1
  have lim : s.heap.NoLimit := e0.mod.nolimit.keeps fun b o e => (e0.bs b o e).1
  refine PySem.ks_codeAny_call_defAt (binds := N.zip us) hr.depth (KX _ _ lk) rfl lim (PySem.W.codeRec_of KX hcd) rfl hb S.nocell (fun y hy => S.par y.1 (List.of_mem_zip hy).1) (fun h1 hns hk => ?_) S.co S.gen S.kind
  obtain ⟨te, t, pe, pss, ⟨a, hva, hHa⟩, hq⟩ := hbody A outer s H vs Q E p hot (hr.deeper _) hsp
  have I : L2.Inv (supCxH CX P w K mg base N qual scope f (.ref cda) cc A outer s H E p) [] (vs.map some) H { s with heap := h1, toks := s.toks + (N.zip us).length } := sup_startH S hpin e0 hl r hcell hns hk
  have fin : ∀ {σ' : L2.St} {H' : Hp} {v : V} {u : Value} {s' : Shared}, L2.Inv (supCxH CX P w K mg base N qual scope f (.ref cda) cc A outer s H E p) [] σ' H' s' → RelV v u → Q v H' → CE outer P w H s Q u s' :=
    fun {σ' H' v u s'} J rv q => ⟨v, H', J.os, J.bare, J.base, J.hok, rv, q⟩
  show PySem.wpAt _ _ _ (execs _ (sEnv qual scope s.heap.objs.size f (.ref cda) cc)) _ _ _
  refine PySem.ks_wpAt_execs_cons (PySem.ks_wpAt_Expr_any (PySem.ks_wpAt_MethodCall (pl := pl s.heap.objs.size) ?_ (hev _)) I.quiet (hsw _))
  obtain ⟨nm, q, N', bs, bm, sn, sub, ab, col, dd, k0, k1, k2, k3, k5, hC, hbm, hal⟩ := T.along
  have KX1 : K.In h1 := KX.keeps hk
  have hcl : PySem.W.clsIn K C = some { name := nm, bases := bs, mro := .ref C :: bm, ns := N', qualname := q, hasDict := true, slotNames := sn, subclasses := sub, abstract := ab, collection := col, hasDel := false } := by unfold PySem.W.clsIn; rw [hC] <;> rfl
  have e0' : (vs.map some)[0]? = some (some (V.ref a)) := by rw [List.getElem?_map, hva]; rfl
  -- self, a
  obtain ⟨m, hnm, hlm⟩ := id I.loc
  obtain ⟨uS, ruS, lkS⟩ := hlm 0 ar.arg (V.ref a) hself e0' (.inl (S.par _ (List.mem_of_getElem? hself)))
  obtain rfl : uS = Value.ref a := ruS
  have hma : m ar.arg = some (.ref a) := by
    rcases lkS with ⟨_, z⟩ | ⟨z, _⟩
    · exact z
    · have z' : scope.names.lookup ar.arg = some .cell ∨ scope.names.lookup ar.arg = some .free := z
      rw [S.par _ (List.mem_of_getElem? hself)] at z'
      rcases z' with z' | z' <;> cases z'
  obtain ⟨t1, ho⟩ := exo_at I.hok hHa
  obtain ⟨mb, hmb, hmb2⟩ := I.mod.blt
  refine PySem.ks_wpAt_super_base (env := sEnv qual scope s.heap.objs.size f (.ref cda) cc) S.sup S.cls (by decide) rfl (KX1 _ _ lk) rfl hp rfl (KX1 _ _ hcode) rfl hvs hfile T.htop ?_
  refine PySem.W.ks_loadName_global S.kind S.sup (Calls.loadGlobal_builtin (env := sEnv qual scope s.heap.objs.size f (.ref cda) cc) (I.mod.glob.keeps I.bk) T.sup (hmb.keeps I.bk) ((hmb2 _ (by decide +kernel)).trans boot_super) ⟨rfl, ?_⟩)
  refine wpAny_loadName_free S.kind S.cls rfl ⟨_, KX1 _ _ hcell, rfl⟩ ?_
  refine wpAny_loadName_local S.kind (S.par _ (List.mem_of_getElem? hself)) hnm hma ?_
  obtain ⟨oD, hD1, hD2⟩ : ∃ oD, h1.get? C = some oD ∧ oD.data = .cls { name := nm, bases := bs, mro := .ref C :: bm, ns := N', qualname := q, hasDict := true, slotNames := sn, subclasses := sub, abstract := ab, collection := col, hasDel := false } := ⟨_, KX1 _ _ hC, rfl⟩
  refine PySem.ks_wpAny_isType_cls hD1 hD2 ⟨rfl, ?_⟩
  refine PySem.ks_wpAny_call_super hD1 hD2 ho rfl (fun c e => nomatch e) (PySem.W.looks_mroIn KX1 T.self) (fun h2 eso kk => ?_)
  -- the super object stands; its method
  have I2 := I.kept (t' := s.toks + (N.zip us).length) kk
  have KX2 : K.In h2 := KX1.keeps kk
  have ho2 := kk _ _ ho
  have It : PySem.W.InstAt h2 a { cls := .ref C, dict := none, data := .fields #[.ref t1, .none, .none, .none, .bool false, .none] } C none := ⟨ho2, rfl, rfl, trivial⟩
  refine PySem.W.kxs_getMethod PySem.W.kxs_ValueError eso (PySem.W.looks_opaque KX2 T.tp) (l₀ := .ref C :: bm) (fun A Q E s k q => wpAny_bind ((PySem.W.looks_clsIn KX2 hcl) A _ E s k (wpAny_pure q))) rfl KX2 hal (It.type.andThen (PySem.W.looks_subIn KX2 T.isVE)) (PySem.W.ks_ne KX2 It hcl) (by decide) ?_
  have I3 := I2.kept (t' := s.toks + (N.zip us).length + 1) (h' := h2.push (PySem.W.kxs_mw "ValueError.__init__" a)) fun b o e => Heap.get?_push_of_some _ e
  have hu : (h2.push (PySem.W.kxs_mw "ValueError.__init__" a)).get? h2.objs.size = some (PySem.W.kxs_mw "ValueError.__init__" a) := Heap.get?_push_at rfl rfl
  have I4 := I3.pins_of (pins' := [(h2.objs.size, PySem.W.kxs_mw "ValueError.__init__" a)]) (fun p hp => by
    obtain rfl := List.mem_singleton.mp hp
    exact ⟨hu, I2.hok.fresh (Nat.le_refl _), Nat.ne_of_gt I2.lt, I2.nofs (Nat.le_refl _), fun v z => nomatch z⟩)
  show wpAny _ _ (callWith p3 (.ref h2.objs.size) [] (backTo p3 (starEach [e] (sEnv qual scope s.heap.objs.size f (.ref cda) cc))) []) _ _ _
  have pa : PA (supCxH CX P w K mg base N qual scope f (.ref cda) cc A outer s H E p) [e] (tCons te tNil) := pa_cons pe pa_nil (hst _)
  have ru := pa.run p3 _ _ (vs.map some) H (fun ws H1 => match ws with | [v] => (∃ z, v = .str z) ∧ ∃ a, (vs.map some)[0]? = some (some (.ref a)) ∧ H1 a = some (exo a C none) ∧ t { nx := fun _ H' => Q .non H', rt := Q } (vs.map some) H1 | _ => False) I4 hq
  have ehs : starEach [e] (supCxH CX P w K mg base N qual scope f (.ref cda) cc A outer s H E p).env = [(false, eval e (sEnv qual scope s.heap.objs.size f (.ref cda) cc))] := hst _
  rw [ehs] at ru
  rw [hst]
  refine PySem.W.kxs_callWith (i := "ValueError.__init__") (x := a) rfl (Calls.evalArgs_plain (thn ru fun ws s5 hw => ?_))
  obtain ⟨vs5, H5, I5, r5, q5⟩ := hw
  have hu5 : s5.heap.get? h2.objs.size = some (PySem.W.kxs_mw "ValueError.__init__" a) := (I5.pin (h2.objs.size, PySem.W.kxs_mw "ValueError.__init__" a) (List.mem_append.mpr (.inr (List.mem_singleton.mpr rfl)))).1
  refine ⟨hu5, ?_⟩
  cases r5 with
  | nil => exact q5.elim
  | @cons v5 u5 vr ur rv rr =>
    cases rr with
    | cons _ _ => exact q5.elim
    | nil =>
      obtain ⟨_, a', ea', hH5, q5⟩ := q5
      have ea : a' = a := by
        have z := ea'.symm.trans e0'
        cases z
        rfl
      subst ea
      refine bw_ok (X := supCxH CX P w K mg base N qual scope f (.ref cda) cc A outer s H E p) T.oex I5 hH5 hu5 (by show 1 ≤ sizeLine; rw [sizeLine_eq]; decide) fun s6 I6 => ?_
      have I7 : L2.Inv (supCxH CX P w K mg base N qual scope f (.ref cda) cc A outer s H E p) [] (vs.map some) H5 s6 := I6.unpinned (pins := []) (pl := [(h2.objs.size, PySem.W.kxs_mw "ValueError.__init__" a')])
      show PySem.wpAt _ _ _ (execs rest _) _ _ _
      refine PySem.wpAt_of_wpAny (wpAny_mono (pss.run [] s6 (vs.map some) H5 _ I7 q5) (fun fl s' hs => ?_) fun _ _ x => x)
      cases fl with
      | ret u =>
        obtain ⟨v, σ', H', J, rv, q⟩ := hs
        exact fin J rv q
      | next =>
        obtain ⟨σ', H', J, q⟩ := hs
        exact fin (v := V.non) (u := Value.none) J rfl q
      | brk =>
        obtain ⟨_, _, _, q⟩ := hs
        exact False.elim q
      | cont =>
        obtain ⟨_, _, _, q⟩ := hs
        exact False.elim q
end
section
variable {X : Cx} {pos p : Pos} {e : Expr} {es : List Expr} {ta : TA}
theorem pmk_oexN {CX : CXT} {x : Str} {C fI : Addr} {k : Nat} {fd : FuncData} {ps : List Str} {sp : Sp} {ds : List Value} {dvs : List V} (T : OexC X.K C) (iC : PySem.W.findIn X.K (.ref C) "__init__" = some (some (.ref fI))) (tI : PySem.W.typeIn X.K (.ref fI) = some (.type "function"))
    (F1 : FnOk X.prog X.w X.K X.mg X.base CX k fI fd ps sp) (hr : Room (k + 1) X.A) (hb : Binds X.K fd ps ds) (hd : Vals dvs ds) (hx : Passes CX X (fun _ _ _ => False)) (hg : Gl X x) (hm : X.mg x = some (.ref C)) (ha : PA X (e :: es) ta)
    (hdb : (x == ("__debug__" : Str)) = false := by decide) (he : starEach (e :: es) X.env = (false, eval e X.env) :: starEach es X.env := by rfl) (hpl : (backTo pos (starEach es X.env)).any (·.1) = false := by rfl) :
    L2N.PMk X (.Call (.Name x p) (e :: es) [] pos) (tMkO C sp dvs ta) := by
  intro pins s σ H Q I h
  obtain ⟨nm, q, N, bs, bm, sn, sub, ab, col, dd, k0, k1, k2, k3, k5, hC, hbm⟩ := T.cls
  refine wpAny_Call_Name_kw (ld_glob I hg hm ?_ hdb)
  refine PySem.W.callWith_K (h₀ := X.base) I.ok.mod.kin T.kC (thn (ha.run pos pins s σ H _ I h) fun us s1 ⟨vs, H1, I1, r1, hz, q1⟩ => ⟨I1.kIn, ?_⟩) he hpl
  show wpAny _ _ (call (.ref C) us) _ _ _
  obtain ⟨hp, g, dr, tk, os⟩ := s1
  have hsz : hp.objs.size ≤ hp.objs.size + 1 := Nat.le_succ _
  have hn : H1 (hp.objs.size + 1) = none := I1.hok.fresh hsz
  have hq := q1 (hp.objs.size + 1) hn
  have kk : ∀ b o, hp.get? b = some o → ((hp.push (PySem.W.kdv_tup us)).push (PySem.HandSPX.excO C hp.objs.size)).get? b = some o := fun b o e => Heap.get?_push_of_some _ (Heap.get?_push_of_some _ e)
  have hget : ((hp.push (PySem.W.kdv_tup us)).push (PySem.HandSPX.excO C hp.objs.size)).get? (hp.objs.size + 1) = some (PySem.HandSPX.excO C hp.objs.size) := by heap_get
  have I2 : Inv X pins σ (upd H1 (hp.objs.size + 1) (exo (hp.objs.size + 1) C none)) ⟨(hp.push (PySem.W.kdv_tup us)).push (PySem.HandSPX.excO C hp.objs.size), g, dr, tk, os⟩ :=
    I1.laid (t' := tk) (a := hp.objs.size + 1) (o := exo (hp.objs.size + 1) C none) (h' := (hp.push (PySem.W.kdv_tup us)).push (PySem.HandSPX.excO C hp.objs.size)) kk hsz (exo_ok hget)
  have r2 : Vals (V.ref (hp.objs.size + 1) :: (vs ++ dvs)) (Value.ref (hp.objs.size + 1) :: (us ++ ds)) := .cons rfl (r1.append hd)
  have hl : (Value.ref (hp.objs.size + 1) :: us ++ ds).length = ps.length := by
    have e := r2.length
    rw [F1.len _ _ _ _ hq] at e
    exact e.symm
  have hus : us.length ≤ sizeLine := by
    rw [← Paired.length r1, sizeLine_eq]
    omega
  refine wpAny_call (PySem.HandSPX.call_own F.excBase_ValueError (fun Y => PySem.HandSPX.refsVE_contains Y bm hbm) (I1.kIn _ _ hC) (PySem.W.looks_findIn I1.kIn iC) (fun self => PySem.W.bind_fn I1.kIn self tI) hus
    (codeAny_mono (F1.run _ X.stack _ _ ⟨Value.ref (hp.objs.size + 1) :: us, []⟩ (Value.ref (hp.objs.size + 1) :: (us ++ ds)) _ _ (fun _ _ _ => False) (hr.make C us []) (I2.env0.make C us []) (hb _ (Value.ref (hp.objs.size + 1) :: us) I2.kIn hl) r2 hq) fun r s' hq' => ?_))
  cases r with
  | error er => exact hx pins σ _ _ er s' I2 hq'
  | ok fl =>
    cases fl with
    | ret u =>
      obtain ⟨v, H2, os2, bare2, un2, hok2, rv, ev, d, fs, ea, ed, hd1, q2⟩ := hq'
      subst ev
      obtain ⟨h2, g2, d2, t2, os'⟩ := s'
      obtain ⟨t0, G, J, kG, ge, hoe, na⟩ := mk_end0 (d2 := d2) (t2 := t2) I1 hsz kk un2 hok2 os2 bare2 ea ed hd1
      refine ⟨rv, hp.objs.size + 1, _, _, ⟨G, g2, d2, t2, os'⟩, _, .ref C, some d, rfl, J, kG, ge, hoe, ⟨rfl, rfl, fun vs hv => ?_⟩, rfl, rfl, na, rfl, bare2, raises_own T.exC T.tyC, q2⟩
      cases hv
      rfl
    | next => exact False.elim hq'
    | brk => exact False.elim hq'
    | cont => exact False.elim hq'
end
theorem okN {P : Program} {w : World} {K : PySem.W.Frag} {mg : Str → Option Value} {base : Heap} {x qual : Str} {st : Stmt} {f : Addr} {fd : FuncData} {N ps : List Str} {k : Nat} {sp : Sp} (F : Fun K x qual st f fd) (S : FnScope N ps (defScope st)) (len : ∀ vs H Q E, sp vs H Q E → vs.length = ps.length)
    (hbody : ∀ (cdv : Value) (A : Around) (outer : List Env) (s : Shared) (H : Hp) (vs : List V) (Q : VK) (E : XK), Room k (A.deeper (envOfC qual (defScope st) s.heap.objs.size f cdv)) → sp vs H Q E →
      ∃ t, PSs (cxOf (L2N.CX P w) P w K mg base N qual (defScope st) f cdv A outer s H E) (defBody st) t ∧ t { nx := fun _ H' => Q .non H', rt := Q } (L2.start N vs) H) : FnOk P w K mg base (L2N.CX P w) (k + 1) f fd ps sp := by
  obtain ⟨oc, od, kV, doc, pm, an, cdv, ct, osl, rfl, lk, hcd⟩ := F.ex
  exact fn_of lk hcd S len fun A outer s H vs Q E hr hsp => hbody cdv A outer s H vs Q E hr hsp
/-- X(e) -/
theorem pmk_own1N {X : Cx} {C : Addr} {bmB : List Value} {B newId initId : String} {x : Str} {e : Expr} {ta : TE} {p pos : Pos} (F : ExcBaseFacts B newId initId bmB) (q : PySem.W.excIn X.K C bmB newId = true) (gC : X.mg x = some (.ref C)) (kC : PySem.W.keepIn X.K (.ref C) = true) (r : Raises X (.ref C)) (hg : Gl X x)
    (he : PE X e ta) (hs : starEach [e] X.env = (false, eval e X.env) :: starEach [] X.env := by rfl) (hdb : (x == ("__debug__" : Str)) = false := by decide) :
    L2N.PMk X (.Call (.Name x p) [e] [] pos) (fun σ H Q => ta σ H fun _ H1 => Q (.ref C) none H1) := by
  intro pins s σ H Q I h
  refine wpAny_Call_Name_kw (ld_glob I hg gC ?_ hdb)
  refine PySem.W.callWith_K (h₀ := X.base) I.ok.mod.kin kC ?_ hs (by rfl)
  rw [hs]
  show wpAny _ _ (spliced ((false, eval e X.env) :: backTo pos (starEach [] X.env))) _ _ s
  refine Calls.spliced_cons (thn (he.run pins s σ H _ I h) fun u s1 ⟨v, H1, I1, r1, q1⟩ => ?_)
  refine Calls.spliced_nil ⟨I1.kIn, ?_⟩
  show wpAny _ _ (call (.ref C) [u]) _ _ _
  obtain ⟨bm, N, nm, qn, bs, hdct, sn, sub, ab, col, dd, k0, k1, k2, k3, k5, mN, hC, hN, hni, T⟩ := exc_obj I1.kIn q
  refine wpAny_call_exc_subT F T hC hN hni (fun h' e hm => ?_) (by show 1 ≤ sizeLine; rw [sizeLine_eq]; omega)
  exact L2N.mk_of I1 hm r q1 (I1.hok.gone hm.new)
/-- enumerate of a list or of a tuple -/
def iEnumE (K : PySem.W.Frag) (ta : TA) : TI := fun σ H R => ta σ H fun vs H1 => ∃ a xs, vs = [.ref a] ∧ ((SqT K H1 a xs ∧ R (Itet K a) H1) ∨ (SqL K H1 a xs ∧ R (Ite K a) H1))
theorem pi_enumE {X : Cx} {e : Expr} {ta : TA} {p pos tpos : Pos} {elts : List Expr} {kk : Nat} (hg : Gl X "enumerate") (hm : X.mg "enumerate" = none) (ha : PA X [e] ta) (hs : starEach [e] X.env = [(false, eval e X.env)] := by rfl) :
    PI X (.Tuple elts kk tpos) (.Call (.Name "enumerate" p) [e] [] pos) (iEnumE X.K ta) := by
  refine ⟨fun pins s σ H R I h => ?_⟩
  refine Call_ (ld_blt I hg hm boot_enumerate (PyProof.Rows.callWith_type1 (thn (ha.run pos pins s σ H _ I h) fun us s1 ⟨vs, H1, I1, r1, q1⟩ => ?_) hs rfl))
  obtain ⟨a, xs, ex, q1⟩ := q1
  subst ex
  cases r1 with
  | cons r rr =>
    cases rr
    cases r
    rcases q1 with ⟨hq, q⟩ | ⟨hq, q⟩
    · obtain ⟨its, rv, p', hz⟩ := I1.tuple hq
      refine call_enumerate_tuple p' fun h' he hit hsz hk => wpAny_pyIter_enum he ?_
      have I2 : L2.Inv X pins σ H1 { s1 with heap := h' } := I1.kept (t' := s1.toks) hk
      refine ⟨s1.heap.objs.size + 1, [s1.heap.objs.size + 1, s1.heap.objs.size], _, _, H1, rfl, I2, turn_enumT a (s1.heap.objs.size + 1) s1.heap.objs.size, ⟨⟨.none, he⟩, hit, Nat.succ_ne_self _⟩, fun b hb => ?_, q⟩
      have e' : b = s1.heap.objs.size + 1 ∨ b = s1.heap.objs.size := by simpa using hb
      have hle : s1.heap.objs.size ≤ b := by
        rcases e' with z | z
        · rw [z]; exact Nat.le_add_right _ _
        · rw [z]; exact Nat.le_refl _
      exact I1.fpOk hle (I1.hok.fresh hle)
    · obtain ⟨its, rv, p', hz⟩ := I1.list hq
      refine call_enumerate_list p'.isList fun h' he hit hsz hk => wpAny_pyIter_enum he ?_
      have I2 : L2.Inv X pins σ H1 { s1 with heap := h' } := I1.kept (t' := s1.toks) hk
      refine ⟨s1.heap.objs.size + 1, [s1.heap.objs.size + 1, s1.heap.objs.size], _, _, H1, rfl, I2, turn_enum a (s1.heap.objs.size + 1) s1.heap.objs.size, ⟨⟨.none, he⟩, hit, Nat.succ_ne_self _⟩, fun b hb => ?_, q⟩
      have e' : b = s1.heap.objs.size + 1 ∨ b = s1.heap.objs.size := by simpa using hb
      have hle : s1.heap.objs.size ≤ b := by
        rcases e' with z | z
        · rw [z]; exact Nat.le_add_right _ _
        · rw [z]; exact Nat.le_refl _
      exact I1.fpOk hle (I1.hok.fresh hle)
theorem for_enumL {K : PySem.W.Frag} {a : Addr} {xs : List V} {g : TG} {tb : TS} {D : Ends} {σ : L2.St} {H : Hp} (Pv : Nat → L2.St → Hp → Prop) (h0 : Pv 0 σ H) (hl : ∀ i σ H, i ≤ xs.length → Pv i σ H → SqL K H a xs)
    (hs : ∀ i x σ H T, xs[i]? = some x → Pv i σ H → H T = none → g (.ref T) σ (upd H T (.tup [.int (i : Nat), x])) fun σ2 H2 => tb { D with nx := Pv (i + 1), ct := Pv (i + 1), bk := D.nx } σ2 H2)
    (hd : ∀ σ H, Pv xs.length σ H → D.nx σ H) :
    ∃ W : Nat → Nat → L2.St → Hp → Prop, (∃ m, W 0 m σ H) ∧ ∀ i m σ H, W i m σ H →
      ((Ite K a).stop i H ∧ D.nx σ H) ∨ ((Ite K a).go i H ∧ ∃ N : L2.St → Hp → Prop, (∀ σ' H', N σ' H' → ∃ m', m' < m ∧ W (i + 1) m' σ' H') ∧ ∀ x H', (Ite K a).yld i H x H' → g x σ H' fun σ2 H2 => tb { D with nx := N, ct := N, bk := D.nx } σ2 H2) := by
  refine ⟨fun i m σ H => m = xs.length - i ∧ i ≤ xs.length ∧ Pv i σ H, ⟨xs.length, by simp, Nat.zero_le _, h0⟩, ?_⟩
  rintro i m σ H ⟨rfl, hi, p⟩
  have q := hl i σ H hi p
  by_cases hlt : i < xs.length
  · refine .inr ⟨⟨xs, xs[i], q, by simp [hlt]⟩, Pv (i + 1), fun σ' H' p' => ⟨xs.length - (i + 1), by omega, rfl, hlt, p'⟩, fun x H' y => ?_⟩
    obtain ⟨T, x', ev, hT, eH, hx⟩ := y
    subst ev eH
    exact hs i x' σ H T (hx xs q) p hT
  · have e : i = xs.length := by omega
    subst e
    exact .inl ⟨⟨xs, q, Nat.le_refl _⟩, hd σ H p⟩
end Kw


set_option Elab.async false
set_option linter.all false
set_option maxRecDepth 100000
set_option maxHeartbeats 4000000
namespace Kw
open PySem PySem.Spec PyProof.Rows L2
abbrev sWhere : Stmt := top 70
abbrev sSet : Stmt := top 71
abbrev sBar : Stmt := top 72
abbrev sNext : Stmt := top 73
abbrev sDeeds : Stmt := top 74
/-! ### states and items -/
inductive Kd where
  | box | thing | sl
  deriving DecidableEq
def Kd.str : Kd → Str
  | .box => "box"
  | .thing => "thing"
  | .sl => "seal"
def Kd.ix : Kd → Nat
  | .box => 0
  | .thing => 1
  | .sl => 2
def rowOf (d : Hs) : Kd → List Pl
  | .box => d.bs
  | .thing => d.ts
  | .sl => d.ss
def putRow (d : Hs) (k : Kd) (l : List Pl) : Hs := match k with
  | .box => { d with bs := l }
  | .thing => { d with ts := l }
  | .sl => { d with ss := l }
abbrev It := Kd × Nat
def itP (p : It) : PyData := .tuple [.str p.1.str, .int (p.2 : Nat)]
def whereD (d : Hs) (p : It) : Option Pl := (rowOf d p.1)[p.2]?
def setD (d : Hs) (p : It) (q : Pl) : Hs := putRow d p.1 ((rowOf d p.1).set p.2 q)
section
variable {P : Program} {w : World} {K : PySem.W.Frag} {mg : Str → Option Value} {base : Heap}
theorem st_at {H : Hp} {x : V} {d : Hs} (h : Dp K H x (stD d)) : ∃ a v1 v2 v3, x = .ref a ∧ SqT K H a [v1, v2, v3] ∧ Dp K H v1 (plsD d.bs) ∧ Dp K H v2 (plsD d.ts) ∧ Dp K H v3 (plsD d.ss) := by
  cases h with
  | tup hs ha =>
    cases ha with
    | cons d1 r =>
      cases r with
      | cons d2 r =>
        cases r with
        | cons d3 r =>
          cases r
          exact ⟨_, _, _, _, rfl, hs, d1, d2, d3⟩
theorem it_at {H : Hp} {x : V} {p : It} (h : Dp K H x (itP p)) : ∃ a, x = .ref a ∧ SqT K H a [.str p.1.str, .int (p.2 : Nat)] := by
  cases h with
  | tup hs ha =>
    cases ha with
    | cons d1 r =>
      cases r with
      | cons d2 r =>
        cases r
        cases d1
        cases d2
        exact ⟨_, rfl, hs⟩
theorem row_at {H : Hp} {v1 v2 v3 : V} {d : Hs} (h1 : Dp K H v1 (plsD d.bs)) (h2 : Dp K H v2 (plsD d.ts)) (h3 : Dp K H v3 (plsD d.ss)) (k : Kd) : ∃ v, atI [v1, v2, v3] (k.ix : Nat) = some v ∧ Dp K H v (plsD (rowOf d k)) := by
  cases k
  · exact ⟨v1, rfl, h1⟩
  · exact ⟨v2, rfl, h2⟩
  · exact ⟨v3, rfl, h3⟩
def kdL : List V := [.str ("box" : Str), .str ("thing" : Str), .str ("seal" : Str)]
theorem kd_find (k : Kd) : ∃ z, kdL[k.ix]? = some z ∧ eqV z (.str k.str) = true ∧ ∀ (m : Nat) (z' : V), m < k.ix → kdL[m]? = some z' → eqV z' (.str k.str) = false := by
  cases k
  · exact ⟨_, rfl, by decide +kernel, fun m z' h => absurd h (by simp [Kd.ix])⟩
  · refine ⟨_, rfl, by decide +kernel, fun m z' h e => ?_⟩
    have : m = 0 := by simp [Kd.ix] at h; exact h
    subst this
    cases e
    decide +kernel
  · refine ⟨_, rfl, by decide +kernel, fun m z' h e => ?_⟩
    have : m = 0 ∨ m = 1 := by simp [Kd.ix] at h; omega
    rcases this with rfl | rfl <;> (cases e; decide +kernel)
/-! ### _law_where -/
def spWhere (K : PySem.W.Frag) : Sp := fun vs H Q _ => ∃ (x y : V) (d : Hs) (p : It) (q : Pl), vs = [x, y] ∧ Dp K H x (stD d) ∧ Dp K H y (itP p) ∧ whereD d p = some q ∧ ∀ v H', Same H H' → Dp K H' v (plD q) → Q v H'
theorem scWhere : FnScope ["_law_state", "_law_item"] ["_law_state", "_law_item"] (defScope sWhere) := ⟨rfl, rfl, rfl, by decide +kernel, rfl, by decide +kernel, by decide +kernel⟩
theorem ok_where {f : Addr} {fd : FuncData} (F : Fun K "_law_where" "_law_where" sWhere f fd) (B : Bt mg) : FnOk P w K mg base CX0 1 f fd ["_law_state", "_law_item"] (spWhere K) := by
  refine F.ok scWhere (fun vs H Q E h => ?_) (fun cdv A outer s H vs Q E hr h => ?_)
  · obtain ⟨x, y, d, p, q, rfl, _⟩ := h
    rfl
  · obtain ⟨x, y, d, p, q, rfl, hx, hy, hw, k⟩ := h
    obtain ⟨a, v1, v2, v3, rfl, sa, d1, d2, d3⟩ := st_at hx
    obtain ⟨b, rfl, sb⟩ := it_at hy
    obtain ⟨vr, hr1, dr⟩ := row_at d1 d2 d3 p.1
    obtain ⟨ar, xr, rfl, sr, dlr, lr⟩ := pls_at dr
    obtain ⟨vq, hq1, hq2⟩ := DpAll.at2 dlr (i := p.2) (d := plD q) (by rw [List.getElem?_map]; unfold whereD at hw; rw [hw]; rfl)
    obtain ⟨z, z1, z2, z3⟩ := kd_find p.1
    refine ⟨_, pss_one (ps_ret (pe_ix ix_tup (pe_ix ix_tup (pv 0) (pe_bm PySem.F.plainAttrs_list PySem.F.slot_list_index PySem.F.type_list_index mt_index (pe_lst (pa_cons pe_str (pa_cons pe_str (pa_cons pe_str pa_nil)))) (pa_cons (pe_ix ix_tup (pv 1) pe_int (fun _ _ => rfl)) pa_nil)) (fun _ _ => rfl)) (pe_ix ix_tup (pv 1) pe_int (fun _ _ => rfl)) (fun _ _ => rfl))), ?_⟩
    refine ⟨_, rfl, (by show 3 ≤ sizeLine; decide), fun L hL => ?_⟩
    have e1 := same_upd (o := HO.lst [V.str ("box" : Str), .str ("thing" : Str), .str ("seal" : Str)]) hL
    refine ⟨.inl ⟨rfl, _, SqL.of upd_same⟩, _, rfl, b, _, 0, _, rfl, rfl, SqT.same e1 sb, rfl, L, kdL, _, p.1.ix, z, rfl, rfl, SqL.of upd_same, rfl, rfl, z1, z2, z3, a, _, _, _, rfl, rfl, SqT.same e1 sa, hr1, _, rfl, b, _, 1, _, rfl, rfl, SqT.same e1 sb, rfl, ar, xr, _, vq, rfl, rfl, SqT.same e1 sr, atI_nat hq1, ?_⟩
    exact k _ _ e1 (Dp.same e1 _ _ hq2)
theorem nl_updL {H : Hp} {D : Addr} {xs ys : List V} (hD : H D = some (.lst xs)) : Nl H (L2.upd H D (.lst ys)) := fun a o h n _ => by
  rw [upd_ne (ne_of h hD (n _))]
  exact h
theorem DpAll.set {H : Hp} : ∀ {vs : List V} {ds : List PyData} {i : Nat} {x : V} {e : PyData}, DpAll K H vs ds → Dp K H x e → DpAll K H (vs.set i x) (ds.set i e)
  | _, _, _, _, _, .nil, _ => .nil
  | _, _, 0, _, _, .cons _ t, h => .cons h t
  | _, _, i + 1, _, _, .cons h0 t, h => .cons h0 (DpAll.set (i := i) t h)
/-! ### _law_set -/
def rows3 (d : Hs) : List (List Pl) := [d.bs, d.ts, d.ss]
def spSet (K : PySem.W.Frag) : Sp := fun vs H Q _ => ∃ (x y z : V) (d : Hs) (p : It) (q : Pl), vs = [x, y, z] ∧ Dp K H x (stD d) ∧ Dp K H y (itP p) ∧ Dp K H z (plD q) ∧ p.2 < (rowOf d p.1).length ∧ ∀ v H', Same H H' → StF K H' v (setD d p q) → Q v H'
theorem scSet : FnScope ["_law_state", "_law_item", "_law_place", "_law_rows", "_law_row"] ["_law_state", "_law_item", "_law_place"] (defScope sSet) := ⟨rfl, rfl, rfl, by decide +kernel, rfl, by decide +kernel, by decide +kernel⟩
theorem rows_set (d : Hs) (p : It) (q : Pl) : rows3 (setD d p q) = (rows3 d).set p.1.ix ((rowOf d p.1).set p.2 q) := by
  obtain ⟨k, n⟩ := p
  cases k <;> rfl
theorem rows_get (d : Hs) (k : Kd) : (rows3 d)[k.ix]? = some (rowOf d k) := by cases k <;> rfl
theorem ok_set {f : Addr} {fd : FuncData} (F : Fun K "_law_set" "_law_set" sSet f fd) (B : Bt mg) : FnOk P w K mg base CX0 1 f fd ["_law_state", "_law_item", "_law_place"] (spSet K) := by
  refine F.ok scSet (fun vs H Q E h => ?_) (fun cdv A outer s H vs Q E hr h => ?_)
  · obtain ⟨x, y, z, d, p, q, rfl, _⟩ := h
    rfl
  · obtain ⟨x, y, z, d, p, q, rfl, hx, hy, hz, hw, k⟩ := h
    obtain ⟨a, v1, v2, v3, rfl, sa, d1, d2, d3⟩ := st_at hx
    obtain ⟨b, rfl, sb⟩ := it_at hy
    obtain ⟨zk, z1, z2, z3⟩ := kd_find p.1
    refine ⟨_, pss_cons (ps_setLc (i := 3) (own := [("_law_row", 4)]) (g := gName 4) (tt := tYes) (te := tCB (fun xs H Q => ∃ p ys, xs = [V.ref p] ∧ (SqL K H p ys ∨ SqT K H p ys) ∧ ∀ l, H l = none → Q (.ref l) (upd H l (.lst ys))) (tCons (tVar 4) tNil)) rfl scSet.nd rfl rfl (sw_true rfl rfl rfl (by decide +kernel)) (pi_tup (pv 0))
        (blkOk_by (own := [("_law_row", 4)]) (N := ["_law_state", "_law_item", "_law_place", "_law_rows", "_law_row"]) (sc := defScope sSet) (by decide +kernel)) (fun _ _ _ _ _ => pg_name (i := 4) scSet.nd rfl (.inl rfl)) (fun _ _ _ _ _ => pts_nil)
        (fun _ _ _ _ _ => pe_callTy call_list_of (by rfl) B.lst (by decide +kernel) (pa_cons (pv 4) pa_nil)))
      (pss_cons (ps_asg (pv 2) (pg_sub (pe_ix ix_list (pv 3) (pe_bm PySem.F.plainAttrs_list PySem.F.slot_list_index PySem.F.type_list_index mt_index (pe_lst (pa_cons pe_str (pa_cons pe_str (pa_cons pe_str pa_nil)))) (pa_cons (pe_ix ix_tup (pv 1) pe_int (fun _ _ => rfl)) pa_nil)) (fun _ _ => rfl)) (pe_ix ix_tup (pv 1) pe_int (fun _ _ => rfl)) set_list))
      (pss_one (ps_ret (pe_callTy call_tuple_of (by rfl) B.tup (by decide +kernel) (pa_cons (pe_lc (own := [("_law_row", 4)]) (g := gName 4) (tt := tYes) (te := tCB (fun xs H Q => ∃ p ys, xs = [V.ref p] ∧ SqL K H p ys ∧ ∀ (l : Addr) (o : Obj), H l = none → o.cls = .type "tuple" → o.dict = none → Q (V.ref l) (upd H l (.frz o (.tup ys)))) (tCons (tVar 4) tNil)) rfl scSet.nd (pi_list (pv 3))
        (blkOk_by (own := [("_law_row", 4)]) (N := ["_law_state", "_law_item", "_law_place", "_law_rows", "_law_row"]) (sc := defScope sSet) (by decide +kernel)) (fun _ _ _ _ _ => pg_name (i := 4) scSet.nd rfl (.inl rfl)) (fun _ _ _ _ _ => pts_nil)
        (fun _ _ _ _ _ => pe_callTy call_tupleF (by rfl) B.tup (by decide +kernel) (pa_cons (pv 4) pa_nil))) pa_nil))))), ?_⟩
    have ilen : ∀ (j : Nat) (v : V), [v1, v2, v3][j]? = some v → ∃ l, (rows3 d)[j]? = some l ∧ Dp K H v (plsD l) := fun j v e => by
      match j, e with
      | 0, e => cases e; exact ⟨_, rfl, d1⟩
      | 1, e => cases e; exact ⟨_, rfl, d2⟩
      | 2, e => cases e; exact ⟨_, rfl, d3⟩
      | j + 3, e => simp at e
    -- rows = [list(row) for row in state]
    refine ⟨_, rfl, a, rfl, ⟨_, sa⟩, fun Dl hD => ?_⟩
    have e0 : ∀ (H' : Hp) (o : HO), Same H H' → Same H (L2.upd H' Dl o) := fun H' o e c u h => by rw [upd_ne (ne_of_none h hD)]; exact e c u h
    refine lc_tup (K := K) (a := a) (xs := [v1, v2, v3]) (fun i H' => Same H H' ∧ ∃ ls : List (Addr × List V), H' Dl = some (.lst (ls.map fun x => V.ref x.1)) ∧ ls.length = i ∧
        (∀ (j : Nat) x, ls[j]? = some x → H' x.1 = some (.lst x.2) ∧ x.1 ≠ Dl ∧ H x.1 = none ∧ ∃ l, (rows3 d)[j]? = some l ∧ DpAll K H' x.2 (l.map plD)) ∧ (∀ (j k : Nat) x y, ls[j]? = some x → ls[k]? = some y → j ≠ k → x.1 ≠ y.1))
      ⟨same_upd hD, [], upd_same, rfl, fun j x e => by simp at e, fun j k x y e => by simp at e⟩ (fun i H' _ ⟨e, _⟩ => SqT.same e sa) ?_ ?_
    · rintro i y H' hi ⟨e, ls, hls, ll, hall, hdis⟩
      obtain ⟨l, hl1, hl2⟩ := ilen i y hi
      obtain ⟨ar, xr, rfl, sr, dr, lr⟩ := pls_at hl2
      refine ⟨wipe_one _ 4 _, yes_lc ?_⟩
      refine ⟨_, rfl, ar, xr, rfl, .inr (SqT.same e sr), fun pn hpn => ?_⟩
      have nDp : Dl ≠ pn := ne_of_none hls hpn
      have f1 := same_upd (o := HO.lst xr) hpn
      have hls1 := f1 _ _ hls
      have i3 : i < 3 := (List.getElem?_eq_some_iff.mp hi).1
      refine ⟨ls.map fun x => V.ref x.1, hls1, by rw [sizeLine_eq, List.length_map]; omega, e0 _ _ (e.trans f1), ls ++ [(pn, xr)], ?_, by rw [List.length_append, ll]; rfl, fun j x hx => ?_, fun j k x y hx hy hjk => ?_⟩
      · rw [List.map_append]
        exact upd_same
      · have tp := tp_lst (o := HO.lst ((ls.map fun x => V.ref x.1) ++ [V.ref pn])) hls1
        by_cases c : j < ls.length
        · rw [List.getElem?_append_left c] at hx
          obtain ⟨g1, g2, g3, l', g4, g5⟩ := hall j x hx
          exact ⟨by rw [upd_ne g2]; exact f1 _ _ g1, g2, g3, l', g4, Dp.tps tp _ _ (noLs_map _ noL_pl _) (Dp.sames f1 _ _ g5)⟩
        · have ej : j = ls.length := by
            have := (List.getElem?_eq_some_iff.mp hx).1
            simp at this
            omega
          subst ej
          rw [List.getElem?_append_right (Nat.le_refl _), Nat.sub_self] at hx
          have ex : (pn, xr) = x := by simpa using hx
          subst ex
          refine ⟨by rw [upd_ne nDp.symm]; exact upd_same, nDp.symm, ?_, l, by rw [ll]; exact hl1, Dp.tps tp _ _ (noLs_map _ noL_pl _) (Dp.sames (e.trans f1) _ _ dr)⟩
          cases hq : H pn with
          | none => rfl
          | some u =>
            have := e _ _ hq
            rw [hpn] at this
            cases this
      · have old : ∀ (j : Nat) x, ls[j]? = some x → x.1 ≠ pn := fun j x hx => ne_of_none (hall j x hx).1 hpn
        have last : ∀ (j : Nat) (x : Addr × List V), (ls ++ [(pn, xr)])[j]? = some x → (ls[j]? = some x) ∨ (j = ls.length ∧ x.1 = pn) := fun j x hx => by
          by_cases c : j < ls.length
          · rw [List.getElem?_append_left c] at hx
            exact .inl hx
          · have ej : j = ls.length := by
              have := (List.getElem?_eq_some_iff.mp hx).1
              simp at this
              omega
            subst ej
            rw [List.getElem?_append_right (Nat.le_refl _), Nat.sub_self] at hx
            have ex : (pn, xr) = x := by simpa using hx
            exact .inr ⟨rfl, by rw [← ex]⟩
        rcases last j x hx with h1 | ⟨h1, h1'⟩ <;> rcases last k y hy with h2 | ⟨h2, h2'⟩
        · exact hdis j k x y h1 h2 hjk
        · rw [h2']
          exact old j x h1
        · rw [h1']
          exact (old k y h2).symm
        · exact absurd (h1.trans h2.symm) hjk
    rintro H3 ⟨e3, ls, hls, ll, hall, hdis⟩
    have ll : ls.length = 3 := ll
    -- rows[..][..] = place
    obtain ⟨⟨pr, lr⟩, hpr⟩ : ∃ x, ls[p.1.ix]? = some x := ⟨_, List.getElem?_eq_getElem (by rw [ll]; cases p.1 <;> decide)⟩
    obtain ⟨g1, g2, g3, l, g4, g5⟩ := hall _ _ hpr
    rw [rows_get] at g4
    cases g4
    have lrl : lr.length = (rowOf d p.1).length := by rw [DpAll.len g5, List.length_map]
    refine ⟨_, rfl, _, rfl, (by show 3 ≤ sizeLine; decide), fun L hL => ?_⟩
    have e4 := same_upd (o := HO.lst [V.str ("box" : Str), .str ("thing" : Str), .str ("seal" : Str)]) hL
    have sb4 := SqT.same (e3.trans e4) sb
    have hls4 := e4 _ _ hls
    have g14 := e4 _ _ g1
    refine ⟨.inl ⟨rfl, _, SqL.of upd_same⟩, _, rfl, b, _, 0, _, rfl, rfl, sb4, rfl, L, kdL, _, p.1.ix, zk, rfl, rfl, SqL.of upd_same, rfl, rfl, z1, z2, z3, Dl, _, _, V.ref pr, rfl, rfl, SqL.of hls4, atI_nat (by rw [List.getElem?_map, hpr]; rfl), _, rfl, b, _, 1, _, rfl, rfl, sb4, rfl, pr, lr, _, p.2, rfl, rfl, g14, ?_, ?_⟩
    · unfold ixN
      rw [if_pos (by omega), if_pos (by omega)]
      rfl
    have nl5 := nl_updL (ys := lr.set p.2 z) g14
    have e5 : Same H (L2.upd (L2.upd H3 L (.lst [V.str ("box" : Str), .str ("thing" : Str), .str ("seal" : Str)])) pr (.lst (lr.set p.2 z))) := fun c u hc => by
      rw [upd_ne (ne_of_none hc g3)]
      exact e4 _ _ (e3 _ _ hc)
    have hls5 : (L2.upd (L2.upd H3 L (.lst [V.str ("box" : Str), .str ("thing" : Str), .str ("seal" : Str)])) pr (.lst (lr.set p.2 z))) Dl = some (.lst (ls.map fun x => V.ref x.1)) := by rw [upd_ne g2.symm]; exact hls4
    have h5 : ∀ (j : Nat) x, ls[j]? = some x → ∃ ys l, (L2.upd (L2.upd H3 L (.lst [V.str ("box" : Str), .str ("thing" : Str), .str ("seal" : Str)])) pr (.lst (lr.set p.2 z))) x.1 = some (.lst ys) ∧ (rows3 (setD d p q))[j]? = some l ∧ DpAll K (L2.upd (L2.upd H3 L (.lst [V.str ("box" : Str), .str ("thing" : Str), .str ("seal" : Str)])) pr (.lst (lr.set p.2 z))) ys (l.map plD) := fun j x hx => by
      have trans5 : ∀ (vs : List V) (m : List Pl), DpAll K H3 vs (m.map plD) → DpAll K (L2.upd (L2.upd H3 L (.lst [V.str ("box" : Str), .str ("thing" : Str), .str ("seal" : Str)])) pr (.lst (lr.set p.2 z))) vs (m.map plD) := fun vs m hm => Dp.nls nl5 _ _ (noLs_map _ noL_pl _) (Dp.sames e4 _ _ hm)
      by_cases c : j = p.1.ix
      · subst c
        rw [hpr] at hx
        cases hx
        refine ⟨_, (rowOf d p.1).set p.2 q, upd_same, ?_, ?_⟩
        · rw [rows_set, List.getElem?_set_self (List.getElem?_eq_some_iff.mp (rows_get d p.1)).1]
        · rw [List.map_set]
          exact DpAll.set (trans5 _ _ g5) (Dp.same e5 _ _ hz)
      · obtain ⟨k1, k2, k3, l', k4, k5⟩ := hall j x hx
        refine ⟨x.2, l', ?_, ?_, trans5 _ _ k5⟩
        · rw [upd_ne (hdis j p.1.ix x (pr, lr) hx hpr c)]
          exact e4 _ _ k1
        · rw [rows_set, List.getElem?_set_ne (fun z => c z.symm)]
          exact k4
    generalize L2.upd (L2.upd H3 L (.lst [V.str ("box" : Str), .str ("thing" : Str), .str ("seal" : Str)])) pr (.lst (lr.set p.2 z)) = H5 at *
    -- tuple([tuple(row) for row in rows])
    refine ⟨_, rfl, Dl, rfl, ⟨_, SqL.of hls5⟩, fun D2 hD2 => ?_⟩
    have e02 : ∀ (H' : Hp) (o : HO), Same H5 H' → Same H5 (L2.upd H' D2 o) := fun H' o e c u h => by rw [upd_ne (ne_of_none h hD2)]; exact e c u h
    refine lc_list (K := K) (a := Dl) (xs := ls.map fun x => V.ref x.1) (fun i H' => Same H5 H' ∧ ∃ ts : List V, H' D2 = some (.lst ts) ∧ DpAll K H' ts (((rows3 (setD d p q)).take i).map plsD) ∧ ts.length = i ∧ ∀ v ∈ ts, Fv H' v)
      ⟨same_upd hD2, [], upd_same, .nil, rfl, fun v z => nomatch z⟩ (fun i H' _ ⟨e, _⟩ => SqL.of (e _ _ hls5)) ?_ ?_
    · rintro i y H' hi ⟨e, ts, hts, dts, lts, fts⟩
      obtain ⟨x, hx⟩ : ∃ x, ls[i]? = some x := by
        rw [List.getElem?_map] at hi
        cases hq : ls[i]? with
        | none => rw [hq] at hi; cases hi
        | some x => exact ⟨x, rfl⟩
      have ey : V.ref x.1 = y := by
        rw [List.getElem?_map, hx] at hi
        exact Option.some.inj hi
      subst ey
      obtain ⟨ys, l, m1, m2, m3⟩ := h5 i x hx
      have i3 : i < 3 := by rw [← ll]; exact (List.getElem?_eq_some_iff.mp hx).1
      refine ⟨wipe_one _ 4 _, yes_lc ?_⟩
      refine ⟨_, rfl, x.1, ys, rfl, SqL.of (e _ _ m1), fun t o ht oc od => ?_⟩
      have f1 := same_upd (o := HO.frz o (.tup ys)) ht
      have hts1 := f1 _ _ hts
      have tp := tp_lst (o := HO.lst (ts ++ [V.ref t])) hts1
      refine ⟨ts, hts1, by rw [sizeLine_eq]; omega, e02 _ _ (e.trans f1), ts ++ [V.ref t], upd_same, ?_, by rw [List.length_append, lts]; rfl, ?_⟩
      rotate_left
      · intro v hv
        have nlx := nl_updL (ys := ts ++ [V.ref t]) hts1
        rcases List.mem_append.mp hv with hv | hv
        · exact ((fts v hv).nl fun a o h _ _ => f1 a o h).nl nlx
        · have ev : v = .ref t := by simpa using hv
          subst ev
          exact Fv.nl nlx ⟨t, ys, rfl, o, upd_same, oc, od⟩
      have et : ((rows3 (setD d p q)).take (i + 1)).map plsD = ((rows3 (setD d p q)).take i).map plsD ++ [plsD l] := by
        rw [List.take_add_one, m2]
        simp
      rw [et]
      refine DpAll.app (Dp.tps tp _ _ (noLs_map _ noL_pls _) (Dp.sames f1 _ _ dts)) (.cons (Dp.tp tp _ _ (noL_pls _) ?_) .nil)
      exact .tup (Fz.sq ⟨o, upd_same, oc, od⟩) (Dp.sames (e.trans f1) _ _ m3)
    · rintro H6 ⟨e6, ts, hts, dts, lts, fts⟩
      rw [List.length_map, ll] at dts
      refine ⟨D2, ts, rfl, .inl ⟨SqL.of hts, fun r hr => ?_⟩⟩
      have l3 : ts.length = 3 := by rw [lts, List.length_map, ll]
      obtain ⟨t1, t2, t3, et⟩ : ∃ t1 t2 t3, ts = [t1, t2, t3] := by
        match ts, l3 with
        | [t1, t2, t3], _ => exact ⟨t1, t2, t3, rfl⟩
      subst et
      have dd := Dp.sames (same_upd (o := HO.tup [t1, t2, t3]) hr) _ _ dts
      cases dd with
      | cons x1 dd =>
        cases dd with
        | cons x2 dd =>
          cases dd with
          | cons x3 dd =>
            exact k _ _ ((e5.trans e6).trans (same_upd hr)) ⟨_, t1, t2, t3, rfl, SqT.of upd_same, x1, x2, x3, (fts t3 (by simp)).nl fun a o h _ _ => same_upd hr a o h⟩
end
end Kw



set_option Elab.async false
set_option linter.all false
set_option maxRecDepth 100000
set_option maxHeartbeats 4000000
namespace Kw
open PySem PySem.Spec PyProof.Rows L2
/-! ### deeds -/
inductive Dd where
  | give (h : Nat) (p : It) (o : Nat)
  | put (h : Nat) (p : It) (b : Nat)
  | take (h : Nat) (p : It) (b : Nat)
  | lock (h b s : Nat)
  | brk (h b : Nat)
def Dd.word : Dd → Str
  | .give .. => "give"
  | .put .. => "put"
  | .take .. => "take"
  | .lock .. => "seal"
  | .brk .. => "break"
def Dd.hand : Dd → Nat
  | .give h _ _ => h
  | .put h _ _ => h
  | .take h _ _ => h
  | .lock h _ _ => h
  | .brk h _ => h
def Dd.tail : Dd → List PyData
  | .give _ p o => [itP p, .int (o : Nat)]
  | .put _ p b => [itP p, .int (b : Nat)]
  | .take _ p b => [itP p, .int (b : Nat)]
  | .lock _ b s => [.int (b : Nat), .int (s : Nat)]
  | .brk _ b => [.int (b : Nat)]
def ddD (e : Dd) : PyData := .tuple (.str e.word :: .int (e.hand : Nat) :: e.tail)
/-- what the deed names is there -/
def Kn (d : Hs) : Dd → Prop
  | .give _ p _ => (whereD d p).isSome
  | .put _ p b => (whereD d p).isSome ∧ b < d.bs.length
  | .take _ p b => (whereD d p).isSome ∧ b < d.bs.length
  | .lock _ b s => b < d.bs.length ∧ s < d.ss.length
  | .brk _ b => b < d.bs.length
def barOf (d : Hs) : Dd → Str
  | .give h p _ => if whereD d p = some (.hand, (h : Int)) then "" else "NotHeld"
  | .put h p b => if whereD d (.box, b) = some (.hand, (h : Int)) then (if whereD d p = some (.hand, (h : Int)) then (if (.box, (b : Int)) ∈ d.ss then "IsSealed" else "") else "NotHeld") else "NotHeld"
  | .take h p b => if whereD d (.box, b) = some (.hand, (h : Int)) then (if (.box, (b : Int)) ∈ d.ss then "IsSealed" else if whereD d p = some (.box, (b : Int)) then "" else "NotInside") else "NotHeld"
  | .lock h b s => if whereD d (.box, b) = some (.hand, (h : Int)) then (if d.ss[s]? = some (.hand, (h : Int)) then (if (.box, (b : Int)) ∈ d.ss then "IsSealed" else "") else "NotHeld") else "NotHeld"
  | .brk h b => if whereD d (.box, b) = some (.hand, (h : Int)) then (if (.box, (b : Int)) ∈ d.ss then "" else "NotSealed") else "NotHeld"
section
variable {P : Program} {w : World} {K : PySem.W.Frag} {mg : Str → Option Value} {base : Heap}
theorem wNe {σ : L2.St} {H : Hp} {Q : Bool → Hp → Prop} {A : TE} {x y z : V} {d : Hs} {p : It} {q q2 : Pl} {j : Nat} (h0 : σ[0]? = some (some x)) (hx : Dp K H x (stD d)) (hA : ∀ R : V → Hp → Prop, R y H → A σ H R) (hy : Dp K H y (itP p)) (hw : whereD d p = some q) (hj : σ[j]? = some (some z)) (hz : Dp K H z (plD q2))
    (k : ∀ H', Same H H' → Q (!decide (q = q2)) H') : tTest (tOp (rNeD K) (tCall (spWhere K) [] E0 (tCons (tVar 0) (tCons A tNil))) (tVar j)) σ H Q :=
  ⟨_, h0, hA _ ⟨x, y, d, p, q, rfl, hx, hy, hw, fun v H' e dv => ⟨_, hj, plD q, plD q2, dv, Dp.same e _ _ hz, shaped_pl _, shaped_pl _, _, rfl, by rw [eqv_pl]; exact k H' e⟩⟩⟩
theorem wEq {σ : L2.St} {H : Hp} {Q : Bool → Hp → Prop} {A : TE} {x y z : V} {d : Hs} {p : It} {q q2 : Pl} {j : Nat} (h0 : σ[0]? = some (some x)) (hx : Dp K H x (stD d)) (hA : ∀ R : V → Hp → Prop, R y H → A σ H R) (hy : Dp K H y (itP p)) (hw : whereD d p = some q) (hj : σ[j]? = some (some z)) (hz : Dp K H z (plD q2))
    (k : ∀ H', Same H H' → Q (decide (q = q2)) H') : tTest (tOp (rEqD K) (tCall (spWhere K) [] E0 (tCons (tVar 0) (tCons A tNil))) (tVar j)) σ H Q :=
  ⟨_, h0, hA _ ⟨x, y, d, p, q, rfl, hx, hy, hw, fun v H' e dv => ⟨_, hj, plD q, plD q2, dv, Dp.same e _ _ hz, shaped_pl _, shaped_pl _, _, rfl, by rw [eqv_pl]; exact k H' e⟩⟩⟩
theorem dd_at {H : Hp} {y : V} {e : Dd} (h : Dp K H y (ddD e)) : ∃ a vs, y = .ref a ∧ SqT K H a (.str e.word :: .int (e.hand : Nat) :: vs) ∧ DpAll K H vs e.tail := by
  cases h with
  | tup hs ha =>
    cases ha with
    | cons h1 r =>
      cases r with
      | cons h2 r =>
        cases h1
        cases h2
        exact ⟨_, _, rfl, hs, r⟩
theorem where_box {d : Hs} {b : Nat} (h : b < d.bs.length) : ∃ q, whereD d (.box, b) = some q := ⟨_, List.getElem?_eq_getElem h⟩
theorem anyIn (p : Pl) (l : List Pl) : (l.any fun q => decide (q = p)) = decide (p ∈ l) := by
  induction l with
  | nil => simp
  | cons a l ih =>
    rw [List.any_cons, ih]
    by_cases h1 : a = p <;> by_cases h2 : p ∈ l <;> simp [h1, h2, eq_comm]
    · intro h3; exact h1 h3.symm
def spBar (K : PySem.W.Frag) : Sp := fun vs H Q _ => ∃ (x y : V) (d : Hs) (e : Dd), vs = [x, y] ∧ Dp K H x (stD d) ∧ Dp K H y (ddD e) ∧ Kn d e ∧ ∀ H', Same H H' → Q (.str (barOf d e)) H'
theorem scBar : FnScope ["_law_state", "_law_deed", "_law_word", "_law_hand", "_law_mine", "_law_target"] ["_law_state", "_law_deed"] (defScope sBar) := ⟨rfl, rfl, rfl, by decide +kernel, rfl, by decide +kernel, by decide +kernel⟩
theorem ok_bar {f g : Addr} {fd fdg : FuncData} (F : Fun K "_law_bar" "_law_bar" sBar f fd) (B : Bt mg) (G : FnOk P w K mg base CX0 1 g fdg ["_law_state", "_law_item"] (spWhere K)) (mG : mg "_law_where" = some (.ref g)) (kG : PySem.W.keepIn K (.ref g) = true) (bG : Binds K fdg ["_law_state", "_law_item"] []) :
    FnOk P w K mg base CX0 2 f fd ["_law_state", "_law_deed"] (spBar K) := by
  refine F.ok scBar (fun vs H Q E h => ?_) (fun cdv A outer s H vs Q E hr h => ?_)
  · obtain ⟨x, y, d, e, rfl, _⟩ := h
    rfl
  · obtain ⟨x, y, d, e, rfl, hx, hy, hk, k⟩ := h
    have hu : (cxOf CX0 P w K mg base ["_law_state", "_law_deed", "_law_word", "_law_hand", "_law_mine", "_law_target"] "_law_bar" (defScope sBar) f cdv A outer s H E).nox.A.units + 64 < cLine := by have := hr.un; show (A.deeper _).units + 64 < cLine; omega
    have hu65 : (cxOf CX0 P w K mg base ["_law_state", "_law_deed", "_law_word", "_law_hand", "_law_mine", "_law_target"] "_law_bar" (defScope sBar) f cdv A outer s H E).nox.A.units + 65 < cLine := by have := hr.un; show (A.deeper _).units + 65 < cLine; omega
    refine ⟨_, pss_cons (ps_asg (pe_slice sl_tupA (pv 1) po_none (po_some pe_int)) (pg_tup (by rfl) (pgs_cons (pg_name (i := 2) scBar.nd rfl (.inl rfl)) (pgs_cons (pg_name (i := 3) scBar.nd rfl (.inl rfl)) pgs_nil))))
      (pss_cons (ps_par (i := 4) (j := 5) rfl scBar.nd rfl rfl (by decide) rfl rfl (pa_cons (pe_tup (pa_cons pe_str (pa_cons (pv 3) pa_nil))) (pa_cons (pe_tup (pa_cons pe_str (pa_cons (pe_ifExp (pt_cmpR op_in_seq (pv 2) (pe_tup (pa_cons pe_str (pa_cons pe_str pa_nil))) (by rfl)) (pe_ix ix_tup (pv 1) pe_int (fun _ _ => rfl)) (pe_ix ix_tup (pv 1) pe_int (fun _ _ => rfl))) pa_nil))) pa_nil)) (by rfl))
      (pss_cons (ps_if (pt_cmpR op_eq (pv 2) pe_str (nomark _)) (pss_one (ps_ret (pe_ifExp (pt_cmpR (op_eqD hu) (pe_call G hr rfl mG kG bG .nil pass0 (pa_cons (pv 0) (pa_cons (pe_ix ix_tup (pv 1) pe_int (fun _ _ => rfl)) pa_nil))) (pv 4) (nomark _)) pe_str pe_str))) pss_nil)
      (pss_cons (ps_if (PW.pt (pw_or (pt_cmpR (op_neD hu) (pe_call G hr rfl mG kG bG .nil pass0 (pa_cons (pv 0) (pa_cons (pv 5) pa_nil))) (pv 4) (nomark _)) (pw_or1 (PW.pt (pw_and (pt_cmpR op_eq (pv 2) pe_str (nomark _)) (pw_and1 (pt_cmpR (op_neD hu) (pe_call G hr rfl mG kG bG .nil pass0 (pa_cons (pv 0) (pa_cons (pe_ix ix_tup (pv 1) pe_int (fun _ _ => rfl)) pa_nil))) (pv 4) (nomark _))))))))
        (pss_one (ps_ret pe_str)) pss_nil)
      (pss_cons (ps_if (PW.pt (pw_and (pt_cmpR op_eq (pv 2) pe_str (nomark _)) (pw_and1 (pt_cmpR (op_neD hu) (pe_ix ix_tup (pe_ix ix_tup (pv 0) pe_int (fun _ _ => rfl)) (pe_ix ix_tup (pv 1) pe_int (fun _ _ => rfl)) (fun _ _ => rfl)) (pv 4) (nomark _))))) (pss_one (ps_ret pe_str)) pss_nil)
      (pss_cons (ps_if (pt_cmpR op_ne (pe_cmpR (op_inDT hu65) (pv 5) (pe_ix ix_tup (pv 0) pe_int (fun _ _ => rfl)) (by rfl)) (pe_cmpR op_eq (pv 2) pe_str (nomark _)) (nomark _)) (pss_one (ps_ret (pe_ifExp (pt_cmpR op_eq (pv 2) pe_str (nomark _)) pe_str pe_str))) pss_nil)
      (pss_one (ps_ret (pe_ifExp (PW.pt (pw_and (pt_cmpR op_eq (pv 2) pe_str (nomark _)) (pw_and1 (pt_cmpR (op_neD hu) (pe_call G hr rfl mG kG bG .nil pass0 (pa_cons (pv 0) (pa_cons (pe_ix ix_tup (pv 1) pe_int (fun _ _ => rfl)) pa_nil))) (pv 5) (nomark _))))) pe_str pe_str)))))))), ?_⟩
    obtain ⟨a, v1, v2, v3, rfl, sa, d1, d2, d3⟩ := st_at hx
    obtain ⟨yd, vs, rfl, sy, dvs⟩ := dd_at hy
    have lvs : 1 ≤ vs.length := by
      rw [DpAll.len dvs]
      cases e <;> exact Nat.succ_le_succ (Nat.zero_le _)
    refine ⟨_, rfl, _, rfl, yd, _, rfl, sy, fun hw => ?_, fun _ t0 ht0 => ?_⟩
    · exfalso
      have h1 := hw.2
      rw [show (some (2 : Int)) = some ((2 : Nat) : Int) from rfl, HT.sIx_nat] at h1
      simp only [List.length_cons] at h1
      omega
    have ecut : cutV (V.str e.word :: .int (e.hand : Nat) :: vs) none (some 2) = [V.str e.word, .int (e.hand : Nat)] := by
      unfold cutV
      rw [HT.sIx_none, show (some (2 : Int)) = some ((2 : Nat) : Int) from rfl, HT.sIx_nat, List.drop_zero, Nat.sub_zero]
      rw [Nat.min_eq_left (by simp only [List.length_cons]; omega)]
      rfl
    rw [ecut]
    have f1 := same_upd (o := HO.tup [V.str e.word, .int (e.hand : Nat)]) ht0
    refine ⟨t0, _, rfl, SqT.of upd_same, rfl, _, _, rfl, _, _, rfl, rfl, ?_⟩
    refine ⟨_, rfl, (by show 2 ≤ sizeLine; decide), fun m hm => ?_⟩
    have f2 := same_upd (o := HO.tup [V.str ("hand" : Str), .int (e.hand : Nat)]) hm
    refine ⟨_, rfl, (by show 2 ≤ sizeLine; decide), fun w2 hw2 => ?_⟩
    have f3 := same_upd (o := HO.tup [V.str ("seal" : Str), .str ("break" : Str)]) hw2
    have e3 := (f1.trans f2).trans f3
    have cm := f3 _ _ (upd_same (H := L2.upd H t0 (HO.tup [V.str e.word, .int (e.hand : Nat)])) (a := m) (o := HO.tup [V.str ("hand" : Str), .int (e.hand : Nat)]))
    refine ⟨w2, [.str ("seal" : Str), .str ("break" : Str)], rfl, .inr (SqT.of upd_same), rfl, rfl, _, rfl, ?_⟩
    generalize L2.upd (L2.upd (L2.upd H t0 (HO.tup [V.str e.word, .int (e.hand : Nat)])) m (HO.tup [V.str ("hand" : Str), .int (e.hand : Nat)])) w2 (HO.tup [V.str ("seal" : Str), .str ("break" : Str)]) = H3 at *
    have sy3 := SqT.same e3 sy
    cases e with
    | give h p o =>
      cases dvs with
      | cons dp r =>
      cases r with
      | cons do_ r =>
      cases r
      cases do_
      dsimp only [Dd.word, Dd.hand] at *
      refine iteFe (by decide +kernel) ⟨_, rfl, yd, _, 3, _, rfl, rfl, sy3, rfl, (by show 2 ≤ sizeLine; decide), fun t ht => ⟨_, _, rfl, ?_⟩⟩
      have f4 := same_upd (o := HO.tup [V.str ("box" : Str), .int (o : Nat)]) ht
      have ct := upd_same (H := H3) (a := t) (o := HO.tup [V.str ("box" : Str), .int (o : Nat)])
      generalize L2.upd H3 t (HO.tup [V.str ("box" : Str), .int (o : Nat)]) = H4 at *
      have e4 := e3.trans f4
      have dpm : ∀ H', Same H4 H' → Dp K H' (.ref m) (plD (.hand, (h : Int))) := fun H' e => .tup (SqT.of (e _ _ (f4 _ _ cm))) (.cons (.str _) (.cons (.int _) .nil))
      have dpt : ∀ H', Same H4 H' → Dp K H' (.ref t) (plD (.box, (o : Int))) := fun H' e => .tup (SqT.of (e _ _ ct)) (.cons (.str _) (.cons (.int _) .nil))
      have dpi : ∀ H', Same H4 H' → Dp K H' (.ref t) (itP (.box, o)) := fun H' e => .tup (SqT.of (e _ _ ct)) (.cons (.str _) (.cons (.int _) .nil))
      have z4 : Same H4 H4 := Same.refl _
      refine ⟨_, rfl, rfl, _, rfl, iteTe (by decide +kernel) ?_⟩
      obtain ⟨q, hq⟩ := Option.isSome_iff_exists.mp hk
      refine wEq rfl (Dp.same e4 _ _ hx) (fun R r => ⟨_, rfl, yd, _, 2, _, rfl, rfl, SqT.same f4 sy3, rfl, r⟩) (Dp.same e4 _ _ dp) hq rfl (dpm _ z4) fun H5 e5 => ?_
      have kk := k _ (e4.trans e5)
      simp only [barOf, hq] at kk
      by_cases c : q = (.hand, (h : Int))
      · rw [decide_eq_true c]
        rw [if_pos (congrArg some c)] at kk
        exact iteT kk
      · rw [decide_eq_false c]
        rw [if_neg (fun z => c (Option.some.inj z))] at kk
        exact iteF kk
    | put h p b =>
      obtain ⟨hk1, hb⟩ := hk
      cases dvs with
      | cons dp r =>
      cases r with
      | cons do_ r =>
      cases r
      cases do_
      dsimp only [Dd.word, Dd.hand] at *
      refine iteFe (by decide +kernel) ⟨_, rfl, yd, _, 3, _, rfl, rfl, sy3, rfl, (by show 2 ≤ sizeLine; decide), fun t ht => ⟨_, _, rfl, ?_⟩⟩
      have f4 := same_upd (o := HO.tup [V.str ("box" : Str), .int (b : Nat)]) ht
      have ct := upd_same (H := H3) (a := t) (o := HO.tup [V.str ("box" : Str), .int (b : Nat)])
      generalize L2.upd H3 t (HO.tup [V.str ("box" : Str), .int (b : Nat)]) = H4 at *
      have e4 := e3.trans f4
      have dpm : ∀ H', Same H4 H' → Dp K H' (.ref m) (plD (.hand, (h : Int))) := fun H' e => .tup (SqT.of (e _ _ (f4 _ _ cm))) (.cons (.str _) (.cons (.int _) .nil))
      have dpt : ∀ H', Same H4 H' → Dp K H' (.ref t) (plD (.box, (b : Int))) := fun H' e => .tup (SqT.of (e _ _ ct)) (.cons (.str _) (.cons (.int _) .nil))
      have dpi : ∀ H', Same H4 H' → Dp K H' (.ref t) (itP (.box, b)) := fun H' e => .tup (SqT.of (e _ _ ct)) (.cons (.str _) (.cons (.int _) .nil))
      have z4 : Same H4 H4 := Same.refl _
      refine ⟨_, rfl, rfl, _, rfl, iteFe (by decide +kernel) ?_⟩
      obtain ⟨q0, hq0⟩ := where_box hb
      refine wNe rfl (Dp.same e4 _ _ hx) (fun R r => ⟨_, rfl, r⟩) (dpi _ z4) hq0 rfl (dpm _ z4) fun H5 e5 => ?_
      have kk := fun H' (e' : Same H H') => k H' e'
      simp only [barOf, hq0] at kk
      by_cases c0 : ¬ (q0 = (.hand, (h : Int)))
      · rw [decide_eq_false c0]
        simp only [if_neg (fun z => c0 (Option.some.inj z))] at kk
        exact iteT (iteT (kk _ (e4.trans e5)))
      have c0 := Classical.not_not.mp c0
      rw [decide_eq_true c0]
      simp only [if_pos (congrArg some c0)] at kk
      refine iteF ?_
      obtain ⟨q, hq⟩ := Option.isSome_iff_exists.mp hk1
      refine ⟨_, rfl, rfl, _, rfl, iteTe (by decide +kernel) ?_⟩
      refine wNe rfl (Dp.same (e4.trans e5) _ _ hx) (fun R r => ⟨_, rfl, yd, _, 2, _, rfl, rfl, SqT.same (f4.trans e5) sy3, rfl, r⟩) (Dp.same (e4.trans e5) _ _ dp) hq rfl (dpm _ e5) fun H6 e6 => ?_
      simp only [hq] at kk
      have e56 := e5.trans e6
      by_cases c : ¬ (q = (.hand, (h : Int)))
      · rw [decide_eq_false c]
        simp only [if_neg (fun z => c (Option.some.inj z))] at kk
        exact iteT (kk _ (e4.trans e56))
      have c := Classical.not_not.mp c
      rw [decide_eq_true c]
      simp only [if_pos (congrArg some c)] at kk
      refine iteF ?_
      refine ⟨_, rfl, rfl, _, rfl, iteFe (by decide +kernel) (iteF ?_)⟩
      refine ⟨_, rfl, _, rfl, a, _, 2, _, rfl, rfl, SqT.same (e4.trans e56) sa, rfl, plD (.box, (b : Int)), d.ss.map plD, dpt _ e56, Dp.same (e4.trans e56) _ _ d3, shaped_pl _, shaped_pls _, _, rfl, rfl, rfl, _, rfl, ?_⟩
      rw [if_neg (show ¬ (false = true) by decide), any_pl, anyIn]
      by_cases cin : (Wd.box, (b : Int)) ∈ d.ss
      · rw [decide_eq_true cin]
        simp only [if_pos cin] at kk
        exact iteTe (by decide +kernel) ⟨_, rfl, rfl, _, rfl, iteFe (by decide +kernel) (kk _ (e4.trans e56))⟩
      rw [decide_eq_false cin]
      simp only [if_neg cin] at kk
      refine iteFe (by decide +kernel) ?_
      exact ⟨_, rfl, rfl, _, rfl, iteFe (by decide +kernel) (iteF (kk _ (e4.trans e56)))⟩
    | take h p b =>
      obtain ⟨hk1, hb⟩ := hk
      cases dvs with
      | cons dp r =>
      cases r with
      | cons do_ r =>
      cases r
      cases do_
      dsimp only [Dd.word, Dd.hand] at *
      refine iteFe (by decide +kernel) ⟨_, rfl, yd, _, 3, _, rfl, rfl, sy3, rfl, (by show 2 ≤ sizeLine; decide), fun t ht => ⟨_, _, rfl, ?_⟩⟩
      have f4 := same_upd (o := HO.tup [V.str ("box" : Str), .int (b : Nat)]) ht
      have ct := upd_same (H := H3) (a := t) (o := HO.tup [V.str ("box" : Str), .int (b : Nat)])
      generalize L2.upd H3 t (HO.tup [V.str ("box" : Str), .int (b : Nat)]) = H4 at *
      have e4 := e3.trans f4
      have dpm : ∀ H', Same H4 H' → Dp K H' (.ref m) (plD (.hand, (h : Int))) := fun H' e => .tup (SqT.of (e _ _ (f4 _ _ cm))) (.cons (.str _) (.cons (.int _) .nil))
      have dpt : ∀ H', Same H4 H' → Dp K H' (.ref t) (plD (.box, (b : Int))) := fun H' e => .tup (SqT.of (e _ _ ct)) (.cons (.str _) (.cons (.int _) .nil))
      have dpi : ∀ H', Same H4 H' → Dp K H' (.ref t) (itP (.box, b)) := fun H' e => .tup (SqT.of (e _ _ ct)) (.cons (.str _) (.cons (.int _) .nil))
      have z4 : Same H4 H4 := Same.refl _
      refine ⟨_, rfl, rfl, _, rfl, iteFe (by decide +kernel) ?_⟩
      obtain ⟨q0, hq0⟩ := where_box hb
      refine wNe rfl (Dp.same e4 _ _ hx) (fun R r => ⟨_, rfl, r⟩) (dpi _ z4) hq0 rfl (dpm _ z4) fun H5 e5 => ?_
      have kk := fun H' (e' : Same H H') => k H' e'
      simp only [barOf, hq0] at kk
      by_cases c0 : ¬ (q0 = (.hand, (h : Int)))
      · rw [decide_eq_false c0]
        simp only [if_neg (fun z => c0 (Option.some.inj z))] at kk
        exact iteT (iteT (kk _ (e4.trans e5)))
      have c0 := Classical.not_not.mp c0
      rw [decide_eq_true c0]
      simp only [if_pos (congrArg some c0)] at kk
      refine iteF ?_
      refine ⟨_, rfl, rfl, _, rfl, iteFe (by decide +kernel) (iteF ?_)⟩
      refine ⟨_, rfl, rfl, _, rfl, iteFe (by decide +kernel) (iteF ?_)⟩
      refine ⟨_, rfl, _, rfl, a, _, 2, _, rfl, rfl, SqT.same (e4.trans e5) sa, rfl, plD (.box, (b : Int)), d.ss.map plD, dpt _ e5, Dp.same (e4.trans e5) _ _ d3, shaped_pl _, shaped_pls _, _, rfl, rfl, rfl, _, rfl, ?_⟩
      rw [if_neg (show ¬ (false = true) by decide), any_pl, anyIn]
      by_cases cin : (Wd.box, (b : Int)) ∈ d.ss
      · rw [decide_eq_true cin]
        simp only [if_pos cin] at kk
        exact iteTe (by decide +kernel) ⟨_, rfl, rfl, _, rfl, iteFe (by decide +kernel) (kk _ (e4.trans e5))⟩
      rw [decide_eq_false cin]
      simp only [if_neg cin] at kk
      refine iteFe (by decide +kernel) ?_
      obtain ⟨q, hq⟩ := Option.isSome_iff_exists.mp hk1
      simp only [hq] at kk
      refine ⟨_, rfl, rfl, _, rfl, iteTe (by decide +kernel) ?_⟩
      refine wNe rfl (Dp.same (e4.trans e5) _ _ hx) (fun R r => ⟨_, rfl, yd, _, 2, _, rfl, rfl, SqT.same (f4.trans e5) sy3, rfl, r⟩) (Dp.same (e4.trans e5) _ _ dp) hq rfl (dpt _ e5) fun H6 e6 => ?_
      have kk := kk _ (e4.trans (e5.trans e6))
      by_cases c : q = (.box, (b : Int))
      · rw [decide_eq_true c]
        rw [if_pos (congrArg some c)] at kk
        exact iteF kk
      · rw [decide_eq_false c]
        rw [if_neg (fun z => c (Option.some.inj z))] at kk
        exact iteT kk
    | lock h b s =>
      obtain ⟨hb, hsl⟩ := hk
      cases dvs with
      | cons dp r =>
      cases r with
      | cons do_ r =>
      cases r
      cases do_
      cases dp
      dsimp only [Dd.word, Dd.hand] at *
      refine iteTe (by decide +kernel) ⟨_, rfl, yd, _, 2, _, rfl, rfl, sy3, rfl, (by show 2 ≤ sizeLine; decide), fun t ht => ⟨_, _, rfl, ?_⟩⟩
      have f4 := same_upd (o := HO.tup [V.str ("box" : Str), .int (b : Nat)]) ht
      have ct := upd_same (H := H3) (a := t) (o := HO.tup [V.str ("box" : Str), .int (b : Nat)])
      generalize L2.upd H3 t (HO.tup [V.str ("box" : Str), .int (b : Nat)]) = H4 at *
      have e4 := e3.trans f4
      have dpm : ∀ H', Same H4 H' → Dp K H' (.ref m) (plD (.hand, (h : Int))) := fun H' e => .tup (SqT.of (e _ _ (f4 _ _ cm))) (.cons (.str _) (.cons (.int _) .nil))
      have dpt : ∀ H', Same H4 H' → Dp K H' (.ref t) (plD (.box, (b : Int))) := fun H' e => .tup (SqT.of (e _ _ ct)) (.cons (.str _) (.cons (.int _) .nil))
      have dpi : ∀ H', Same H4 H' → Dp K H' (.ref t) (itP (.box, b)) := fun H' e => .tup (SqT.of (e _ _ ct)) (.cons (.str _) (.cons (.int _) .nil))
      have z4 : Same H4 H4 := Same.refl _
      refine ⟨_, rfl, rfl, _, rfl, iteFe (by decide +kernel) ?_⟩
      obtain ⟨q0, hq0⟩ := where_box hb
      refine wNe rfl (Dp.same e4 _ _ hx) (fun R r => ⟨_, rfl, r⟩) (dpi _ z4) hq0 rfl (dpm _ z4) fun H5 e5 => ?_
      have kk := fun H' (e' : Same H H') => k H' e'
      simp only [barOf, hq0] at kk
      by_cases c0 : ¬ (q0 = (.hand, (h : Int)))
      · rw [decide_eq_false c0]
        simp only [if_neg (fun z => c0 (Option.some.inj z))] at kk
        exact iteT (iteT (kk _ (e4.trans e5)))
      have c0 := Classical.not_not.mp c0
      rw [decide_eq_true c0]
      simp only [if_pos (congrArg some c0)] at kk
      refine iteF ?_
      refine ⟨_, rfl, rfl, _, rfl, iteFe (by decide +kernel) (iteF ?_)⟩
      obtain ⟨q, hq⟩ : ∃ q, d.ss[s]? = some q := ⟨_, List.getElem?_eq_getElem hsl⟩
      obtain ⟨ar, xr, rfl, sr, dr, lr⟩ := pls_at d3
      obtain ⟨vq, hv1, hv2⟩ := DpAll.at2 dr (i := s) (d := plD q) (by rw [List.getElem?_map, hq]; rfl)
      simp only [hq] at kk
      have e45 := e4.trans e5
      refine ⟨_, rfl, rfl, _, rfl, iteTe (by decide +kernel) ⟨_, rfl, a, _, 2, _, rfl, rfl, SqT.same e45 sa, rfl, _, rfl, yd, _, 3, _, rfl, rfl, SqT.same (f4.trans e5) sy3, rfl, ar, xr, _, vq, rfl, rfl, SqT.same e45 sr, atI_nat hv1, _, rfl, plD q, plD (.hand, (h : Int)), Dp.same e45 _ _ hv2, dpm _ e5, shaped_pl _, shaped_pl _, _, rfl, ?_⟩⟩
      rw [eqv_pl]
      by_cases c : ¬ (q = (.hand, (h : Int)))
      · rw [decide_eq_false c]
        simp only [if_neg (fun z => c (Option.some.inj z))] at kk
        exact iteT (kk _ e45)
      have c := Classical.not_not.mp c
      rw [decide_eq_true c]
      simp only [if_pos (congrArg some c)] at kk
      refine iteF ?_
      refine ⟨_, rfl, _, rfl, a, _, 2, _, rfl, rfl, SqT.same (e4.trans e5) sa, rfl, plD (.box, (b : Int)), d.ss.map plD, dpt _ e5, Dp.same (e4.trans e5) _ _ d3, shaped_pl _, shaped_pls _, _, rfl, rfl, rfl, _, rfl, ?_⟩
      rw [if_neg (show ¬ (false = true) by decide), any_pl, anyIn]
      by_cases cin : (Wd.box, (b : Int)) ∈ d.ss
      · rw [decide_eq_true cin]
        simp only [if_pos cin] at kk
        exact iteTe (by decide +kernel) ⟨_, rfl, rfl, _, rfl, iteFe (by decide +kernel) (kk _ (e4.trans e5))⟩
      rw [decide_eq_false cin]
      simp only [if_neg cin] at kk
      refine iteFe (by decide +kernel) ?_
      exact ⟨_, rfl, rfl, _, rfl, iteFe (by decide +kernel) (iteF (kk _ (e4.trans e5)))⟩
    | brk h b =>
      have hb : b < d.bs.length := hk
      cases dvs with
      | cons dp r =>
      cases r
      cases dp
      dsimp only [Dd.word, Dd.hand] at *
      refine iteTe (by decide +kernel) ⟨_, rfl, yd, _, 2, _, rfl, rfl, sy3, rfl, (by show 2 ≤ sizeLine; decide), fun t ht => ⟨_, _, rfl, ?_⟩⟩
      have f4 := same_upd (o := HO.tup [V.str ("box" : Str), .int (b : Nat)]) ht
      have ct := upd_same (H := H3) (a := t) (o := HO.tup [V.str ("box" : Str), .int (b : Nat)])
      generalize L2.upd H3 t (HO.tup [V.str ("box" : Str), .int (b : Nat)]) = H4 at *
      have e4 := e3.trans f4
      have dpm : ∀ H', Same H4 H' → Dp K H' (.ref m) (plD (.hand, (h : Int))) := fun H' e => .tup (SqT.of (e _ _ (f4 _ _ cm))) (.cons (.str _) (.cons (.int _) .nil))
      have dpt : ∀ H', Same H4 H' → Dp K H' (.ref t) (plD (.box, (b : Int))) := fun H' e => .tup (SqT.of (e _ _ ct)) (.cons (.str _) (.cons (.int _) .nil))
      have dpi : ∀ H', Same H4 H' → Dp K H' (.ref t) (itP (.box, b)) := fun H' e => .tup (SqT.of (e _ _ ct)) (.cons (.str _) (.cons (.int _) .nil))
      have z4 : Same H4 H4 := Same.refl _
      refine ⟨_, rfl, rfl, _, rfl, iteFe (by decide +kernel) ?_⟩
      obtain ⟨q0, hq0⟩ := where_box hb
      refine wNe rfl (Dp.same e4 _ _ hx) (fun R r => ⟨_, rfl, r⟩) (dpi _ z4) hq0 rfl (dpm _ z4) fun H5 e5 => ?_
      have kk := fun H' (e' : Same H H') => k H' e'
      simp only [barOf, hq0] at kk
      by_cases c0 : ¬ (q0 = (.hand, (h : Int)))
      · rw [decide_eq_false c0]
        simp only [if_neg (fun z => c0 (Option.some.inj z))] at kk
        exact iteT (iteT (kk _ (e4.trans e5)))
      have c0 := Classical.not_not.mp c0
      rw [decide_eq_true c0]
      simp only [if_pos (congrArg some c0)] at kk
      refine iteF ?_
      refine ⟨_, rfl, rfl, _, rfl, iteFe (by decide +kernel) (iteF ?_)⟩
      refine ⟨_, rfl, rfl, _, rfl, iteFe (by decide +kernel) (iteF ?_)⟩
      refine ⟨_, rfl, _, rfl, a, _, 2, _, rfl, rfl, SqT.same (e4.trans e5) sa, rfl, plD (.box, (b : Int)), d.ss.map plD, dpt _ e5, Dp.same (e4.trans e5) _ _ d3, shaped_pl _, shaped_pls _, _, rfl, rfl, rfl, _, rfl, ?_⟩
      rw [if_neg (show ¬ (false = true) by decide), any_pl, anyIn]
      by_cases cin : (Wd.box, (b : Int)) ∈ d.ss
      · rw [decide_eq_true cin]
        simp only [if_pos cin] at kk
        exact iteFe (by decide +kernel) ⟨_, rfl, rfl, _, rfl, iteFe (by decide +kernel) (iteF (kk _ (e4.trans e5)))⟩
      rw [decide_eq_false cin]
      simp only [if_neg cin] at kk
      exact iteTe (by decide +kernel) ⟨_, rfl, rfl, _, rfl, iteTe (by decide +kernel) (kk _ (e4.trans e5))⟩
end
end Kw



set_option Elab.async false
set_option linter.all false
set_option maxRecDepth 100000
set_option maxHeartbeats 4000000
namespace Kw
open PySem PySem.Spec PyProof.Rows L2
/-! ### the state behind a deed -/
def onIx (d : Hs) (b : Nat) : Nat := (d.ss.findIdx? fun q => decide (q = (Wd.box, (b : Int)))).getD 0
def nextOf (d : Hs) : Dd → Hs
  | .give _ p o => setD d p (.hand, (o : Int))
  | .put _ p b => setD d p (.box, (b : Int))
  | .take h p _ => setD d p (.hand, (h : Int))
  | .lock _ b s => setD d (.sl, s) (.box, (b : Int))
  | .brk _ b => setD d (.sl, onIx d b) (.gone, 0)
section
variable {P : Program} {w : World} {K : PySem.W.Frag} {mg : Str → Option Value} {base : Heap}
theorem where_lt {d : Hs} {p : It} {q : Pl} (h : whereD d p = some q) : p.2 < (rowOf d p.1).length := (List.getElem?_eq_some_iff.mp h).1
theorem on_some {d : Hs} {b : Nat} (h : (Wd.box, (b : Int)) ∈ d.ss) : (∃ z, d.ss[onIx d b]? = some z ∧ z = (Wd.box, (b : Int))) ∧ ∀ (m : Nat) z, m < onIx d b → d.ss[m]? = some z → z ≠ (Wd.box, (b : Int)) := by
  unfold onIx
  cases e : d.ss.findIdx? fun q => decide (q = (Wd.box, (b : Int))) with
  | none =>
    have := List.findIdx?_eq_none_iff.mp e _ h
    simp at this
  | some i =>
    obtain ⟨hi, h1, h2⟩ := List.findIdx?_eq_some_iff_getElem.mp e
    refine ⟨⟨d.ss[i], List.getElem?_eq_getElem hi, of_decide_eq_true h1⟩, fun m z hm hz => ?_⟩
    obtain ⟨hm1, hm2⟩ := List.getElem?_eq_some_iff.mp hz
    have := h2 m hm
    rw [← hm2]
    simpa using this
def spNext (K : PySem.W.Frag) : Sp := fun vs H Q _ => ∃ (x y : V) (d : Hs) (e : Dd), vs = [x, y] ∧ StF K H x d ∧ Dp K H y (ddD e) ∧ Kn d e ∧ barOf d e = "" ∧ ∀ v H', Same H H' → StF K H' v (nextOf d e) → Q v H'
theorem scNext : FnScope ["_law_state", "_law_deed", "_law_word"] ["_law_state", "_law_deed"] (defScope sNext) := ⟨rfl, rfl, rfl, by decide +kernel, rfl, by decide +kernel, by decide +kernel⟩
theorem ok_next {f g : Addr} {fd fdg : FuncData} (F : Fun K "_law_next" "_law_next" sNext f fd) (B : Bt mg) (G : FnOk P w K mg base CX0 1 g fdg ["_law_state", "_law_item", "_law_place"] (spSet K)) (mG : mg "_law_set" = some (.ref g)) (kG : PySem.W.keepIn K (.ref g) = true) (bG : Binds K fdg ["_law_state", "_law_item", "_law_place"] []) :
    FnOk P w K mg base CX0 2 f fd ["_law_state", "_law_deed"] (spNext K) := by
  refine F.ok scNext (fun vs H Q E h => ?_) (fun cdv A outer s H vs Q E hr h => ?_)
  · obtain ⟨x, y, d, e, rfl, _⟩ := h
    rfl
  · obtain ⟨x, y, d, e, rfl, hx, hy, hk, hb, k⟩ := h
    have hu65 : (cxOf CX0 P w K mg base ["_law_state", "_law_deed", "_law_word"] "_law_next" (defScope sNext) f cdv A outer s H E).nox.A.units + 65 < cLine := by have := hr.un; show (A.deeper _).units + 65 < cLine; omega
    refine ⟨_, pss_cons (ps_set (i := 2) scNext.nd rfl (.inl rfl) (pe_ix ix_tup (pv 1) pe_int (fun _ _ => rfl)))
      (pss_cons (ps_if (pt_cmpR op_eq (pv 2) pe_str (nomark _)) (pss_one (ps_ret (pe_call G hr rfl mG kG bG .nil pass0 (pa_cons (pv 0) (pa_cons (pe_ix ix_tup (pv 1) pe_int (fun _ _ => rfl)) (pa_cons (pe_tup (pa_cons pe_str (pa_cons (pe_ix ix_tup (pv 1) pe_int (fun _ _ => rfl)) pa_nil))) pa_nil)))))) pss_nil)
      (pss_cons (ps_if (pt_cmpR op_eq (pv 2) pe_str (nomark _)) (pss_one (ps_ret (pe_call G hr rfl mG kG bG .nil pass0 (pa_cons (pv 0) (pa_cons (pe_ix ix_tup (pv 1) pe_int (fun _ _ => rfl)) (pa_cons (pe_tup (pa_cons pe_str (pa_cons (pe_ix ix_tup (pv 1) pe_int (fun _ _ => rfl)) pa_nil))) pa_nil)))))) pss_nil)
      (pss_cons (ps_if (pt_cmpR op_eq (pv 2) pe_str (nomark _)) (pss_one (ps_ret (pe_call G hr rfl mG kG bG .nil pass0 (pa_cons (pv 0) (pa_cons (pe_ix ix_tup (pv 1) pe_int (fun _ _ => rfl)) (pa_cons (pe_tup (pa_cons pe_str (pa_cons (pe_ix ix_tup (pv 1) pe_int (fun _ _ => rfl)) pa_nil))) pa_nil)))))) pss_nil)
      (pss_cons (ps_if (pt_cmpR op_eq (pv 2) pe_str (nomark _)) (pss_one (ps_ret (pe_call G hr rfl mG kG bG .nil pass0 (pa_cons (pv 0) (pa_cons (pe_tup (pa_cons pe_str (pa_cons (pe_ix ix_tup (pv 1) pe_int (fun _ _ => rfl)) pa_nil))) (pa_cons (pe_tup (pa_cons pe_str (pa_cons (pe_ix ix_tup (pv 1) pe_int (fun _ _ => rfl)) pa_nil))) pa_nil)))))) pss_nil)
      (pss_one (ps_ret (pe_call G hr rfl mG kG bG .nil pass0 (pa_cons (pv 0) (pa_cons (pe_tup (pa_cons pe_str (pa_cons (pe_bmF PySem.F.slot_tuple_index PySem.F.type_tuple_index (mt_indexT hu65) (pe_ix ix_tup (pv 0) pe_int (fun _ _ => rfl)) (pa_cons (pe_tup (pa_cons pe_str (pa_cons (pe_ix ix_tup (pv 1) pe_int (fun _ _ => rfl)) pa_nil))) pa_nil)) pa_nil))) (pa_cons (pe_tup (pa_cons pe_str (pa_cons pe_int pa_nil))) pa_nil)))))))))), ?_⟩
    obtain ⟨a, v1, v2, v3, rfl, sa, d1, d2, d3, fz⟩ := hx.ex
    have hx := hx.dp
    obtain ⟨yd, vs, rfl, sy, dvs⟩ := dd_at hy
    refine ⟨_, rfl, yd, _, 0, _, rfl, rfl, sy, atI_nat (j := 0) rfl, ?_⟩
    have mk : ∀ (H1 : Hp) (t : Addr) (wd : Wd) (n : Nat), H1 t = some (.tup [.str wd.str, .int (n : Nat)]) → ∀ H', Same H1 H' → Dp K H' (.ref t) (plD (wd, (n : Int))) := fun H1 t wd n h H' e => .tup (SqT.of (e _ _ h)) (.cons (.str _) (.cons (.int _) .nil))
    cases e with
    | give h p o =>
      cases dvs with
      | cons dp r =>
      cases r with
      | cons do_ r =>
      cases r
      cases do_
      dsimp only [Dd.word, Dd.hand] at *
      refine ⟨_, rfl, rfl, _, rfl, iteTe (by decide +kernel) ?_⟩
      refine ⟨_, rfl, _, rfl, yd, _, 2, _, rfl, rfl, sy, rfl, _, rfl, yd, _, 3, _, rfl, rfl, sy, rfl, (by show 2 ≤ sizeLine; decide), fun t ht => ?_⟩
      have f1 := same_upd (o := HO.tup [V.str ("hand" : Str), .int (o : Nat)]) ht
      exact ⟨.ref a, _, .ref t, d, p, (.hand, (o : Int)), rfl, Dp.same f1 _ _ hx, Dp.same f1 _ _ dp, mk _ t _ _ upd_same _ (Same.refl _), (by obtain ⟨q, hq⟩ := Option.isSome_iff_exists.mp hk; exact where_lt hq), fun v H' e dv => k v H' (f1.trans e) dv⟩
    | put h p b =>
      cases dvs with
      | cons dp r =>
      cases r with
      | cons do_ r =>
      cases r
      cases do_
      dsimp only [Dd.word, Dd.hand] at *
      refine ⟨_, rfl, rfl, _, rfl, iteFe (by decide +kernel) ?_⟩
      refine ⟨_, rfl, rfl, _, rfl, iteTe (by decide +kernel) ?_⟩
      refine ⟨_, rfl, _, rfl, yd, _, 2, _, rfl, rfl, sy, rfl, _, rfl, yd, _, 3, _, rfl, rfl, sy, rfl, (by show 2 ≤ sizeLine; decide), fun t ht => ?_⟩
      have f1 := same_upd (o := HO.tup [V.str ("box" : Str), .int (b : Nat)]) ht
      exact ⟨.ref a, _, .ref t, d, p, (.box, (b : Int)), rfl, Dp.same f1 _ _ hx, Dp.same f1 _ _ dp, mk _ t _ _ upd_same _ (Same.refl _), (by obtain ⟨q, hq⟩ := Option.isSome_iff_exists.mp hk.1; exact where_lt hq), fun v H' e dv => k v H' (f1.trans e) dv⟩
    | take h p b =>
      cases dvs with
      | cons dp r =>
      cases r with
      | cons do_ r =>
      cases r
      cases do_
      dsimp only [Dd.word, Dd.hand] at *
      refine ⟨_, rfl, rfl, _, rfl, iteFe (by decide +kernel) ?_⟩
      refine ⟨_, rfl, rfl, _, rfl, iteFe (by decide +kernel) ?_⟩
      refine ⟨_, rfl, rfl, _, rfl, iteTe (by decide +kernel) ?_⟩
      refine ⟨_, rfl, _, rfl, yd, _, 2, _, rfl, rfl, sy, rfl, _, rfl, yd, _, 1, _, rfl, rfl, sy, rfl, (by show 2 ≤ sizeLine; decide), fun t ht => ?_⟩
      have f1 := same_upd (o := HO.tup [V.str ("hand" : Str), .int (h : Nat)]) ht
      exact ⟨.ref a, _, .ref t, d, p, (.hand, (h : Int)), rfl, Dp.same f1 _ _ hx, Dp.same f1 _ _ dp, mk _ t _ _ upd_same _ (Same.refl _), (by obtain ⟨q, hq⟩ := Option.isSome_iff_exists.mp hk.1; exact where_lt hq), fun v H' e dv => k v H' (f1.trans e) dv⟩
    | lock h b s =>
      cases dvs with
      | cons dp r =>
      cases r with
      | cons do_ r =>
      cases r
      cases do_
      cases dp
      dsimp only [Dd.word, Dd.hand] at *
      refine ⟨_, rfl, rfl, _, rfl, iteFe (by decide +kernel) ?_⟩
      refine ⟨_, rfl, rfl, _, rfl, iteFe (by decide +kernel) ?_⟩
      refine ⟨_, rfl, rfl, _, rfl, iteFe (by decide +kernel) ?_⟩
      refine ⟨_, rfl, rfl, _, rfl, iteTe (by decide +kernel) ?_⟩
      refine ⟨_, rfl, _, rfl, yd, _, 3, _, rfl, rfl, sy, rfl, (by show 2 ≤ sizeLine; decide), fun t1 ht1 => ?_⟩
      have f1 := same_upd (o := HO.tup [V.str ("seal" : Str), .int (s : Nat)]) ht1
      refine ⟨_, rfl, yd, _, 2, _, rfl, rfl, SqT.same f1 sy, rfl, (by show 2 ≤ sizeLine; decide), fun t ht => ?_⟩
      have f2 := same_upd (o := HO.tup [V.str ("box" : Str), .int (b : Nat)]) ht
      have e2 := f1.trans f2
      exact ⟨.ref a, .ref t1, .ref t, d, (.sl, s), (.box, (b : Int)), rfl, Dp.same e2 _ _ hx, .tup (SqT.of (f2 _ _ upd_same)) (.cons (.str _) (.cons (.int _) .nil)), mk _ t _ _ upd_same _ (Same.refl _), hk.2, fun v H' e dv => k v H' (e2.trans e) dv⟩
    | brk h b =>
      cases dvs with
      | cons dp r =>
      cases r
      cases dp
      dsimp only [Dd.word, Dd.hand] at *
      refine ⟨_, rfl, rfl, _, rfl, iteFe (by decide +kernel) ?_⟩
      refine ⟨_, rfl, rfl, _, rfl, iteFe (by decide +kernel) ?_⟩
      refine ⟨_, rfl, rfl, _, rfl, iteFe (by decide +kernel) ?_⟩
      refine ⟨_, rfl, rfl, _, rfl, iteFe (by decide +kernel) ?_⟩
      have hin : (Wd.box, (b : Int)) ∈ d.ss := by
        have q := hb
        simp only [barOf] at q
        by_cases c1 : whereD d (.box, b) = some (.hand, (h : Int))
        · rw [if_pos c1] at q
          by_cases c2 : (Wd.box, (b : Int)) ∈ d.ss
          · exact c2
          · rw [if_neg c2] at q
            exact absurd q (by decide +kernel)
        · rw [if_neg c1] at q
          exact absurd q (by decide +kernel)
      obtain ⟨⟨z, hz1, hz2⟩, hz3⟩ := on_some hin
      subst hz2
      obtain ⟨as, xs, e3, hf⟩ := fz
      subst e3
      refine ⟨_, rfl, _, rfl, a, _, 2, _, rfl, rfl, sa, rfl, ⟨as, xs, rfl, hf⟩, _, rfl, yd, _, 2, _, rfl, rfl, sy, rfl, (by show 2 ≤ sizeLine; decide), fun t1 ht1 => ?_⟩
      have f1 := same_upd (o := HO.tup [V.str ("box" : Str), .int (b : Nat)]) ht1
      refine ⟨as, _, plD (.box, (b : Int)), d.ss.map plD, onIx d b, plD (.box, (b : Int)), rfl, rfl, Dp.same f1 _ _ d3, mk _ t1 _ _ upd_same _ (Same.refl _), shaped_pls _, shaped_pl _, by rw [List.getElem?_map, hz1]; rfl, by rw [eqv_pl]; exact decide_eq_true rfl, fun m z' hm hz' => ?_, ?_⟩
      · rw [List.getElem?_map] at hz'
        cases hq : d.ss[m]? with
        | none => rw [hq] at hz'; cases hz'
        | some q =>
          rw [hq] at hz'
          have e' := Option.some.inj hz'
          subst e'
          rw [eqv_pl]
          exact decide_eq_false (hz3 m q hm hq)
      refine ⟨(by show 2 ≤ sizeLine; decide), fun t2 ht2 => ?_⟩
      have f2 := same_upd (o := HO.tup [V.str ("seal" : Str), .int (onIx d b : Nat)]) ht2
      refine ⟨(by show 2 ≤ sizeLine; decide), fun t ht => ?_⟩
      have f3 := same_upd (o := HO.tup [V.str ("gone" : Str), .int 0]) ht
      have e3 := (f1.trans f2).trans f3
      exact ⟨.ref a, .ref t2, .ref t, d, (.sl, onIx d b), (.gone, 0), rfl, Dp.same e3 _ _ hx, .tup (SqT.of (f3 _ _ upd_same)) (.cons (.str _) (.cons (.int _) .nil)), mk _ t .gone 0 upd_same _ (Same.refl _), where_lt (q := (Wd.box, (b : Int))) hz1, fun v H' e dv => k v H' (e3.trans e) dv⟩
end
end Kw



set_option Elab.async false
set_option linter.all false
set_option maxRecDepth 100000
set_option maxHeartbeats 4000000
namespace Kw
open PySem PySem.Spec PyProof.Rows L2
/-! ### deeds as data -/
theorem sqL_same {K : PySem.W.Frag} {H H' : Hp} {a : Addr} {xs : List V} (k : Same H H') (h : SqL K H a xs) : SqL K H' a xs := by
  rcases h with (h | ⟨o, h⟩) | h
  · exact .inl (.inl (k _ _ h))
  · exact .inl (.inr ⟨o, k _ _ h⟩)
  · exact .inr h
theorem noL_dd (e : Dd) : noL (ddD e) = true := by cases e <;> rfl
theorem lay_it (p : It) : PyData.canLay0 (itP p) = true := by
  obtain ⟨k, n⟩ := p
  have h1 : PyData.strOk ("box" : Str) = true := by decide +kernel
  have h2 : PyData.strOk ("thing" : Str) = true := by decide +kernel
  have h3 : PyData.strOk ("seal" : Str) = true := by decide +kernel
  cases k <;> simp [itP, Kd.str, PyData.canLay0, PyData.canLayAll0, h1, h2, h3]
theorem depth_it (p : It) : PyData.depth (itP p) = 1 := by simp [itP, PyData.depth, PyData.depthAll]
theorem shaped_it (p : It) : SeqAt.shaped (itP p) = true := by simp [SeqAt.shaped, lay_it, depth_it]
theorem kd_inj {k l : Kd} (h : k.str = l.str) : k = l := by
  cases k <;> cases l <;> first | rfl | exact absurd h (by decide +kernel)
theorem eqv_it (p q : It) : PyData.eqv (itP p) (itP q) = decide (p = q) := by
  obtain ⟨k, n⟩ := p
  obtain ⟨l, m⟩ := q
  by_cases h1 : k = l
  · subst h1
    by_cases h2 : n = m
    · subst h2
      simp [itP, PyData.eqv, PyData.eqvAll]
    · have h3 : ¬ ((n : Int) = (m : Int)) := fun z => h2 (by omega)
      simp [itP, PyData.eqv, PyData.eqvAll, h2, h3]
  · have h3 : ¬ (k.str = l.str) := fun z => h1 (kd_inj z)
    simp [itP, PyData.eqv, PyData.eqvAll, h1, h3]
theorem sd_dd (e : Dd) : Sd (ddD e) := by
  have a1 : PyData.strOk ("give" : Str) = true := by decide +kernel
  have a2 : PyData.strOk ("put" : Str) = true := by decide +kernel
  have a3 : PyData.strOk ("take" : Str) = true := by decide +kernel
  have a4 : PyData.strOk ("seal" : Str) = true := by decide +kernel
  have a5 : PyData.strOk ("break" : Str) = true := by decide +kernel
  refine ⟨⟨_, _, rfl⟩, ?_, ?_, noL_dd e⟩
  · cases e <;> simp [ddD, Dd.word, Dd.hand, Dd.tail, PyData.canLay0, PyData.canLayAll0, lay_it, a1, a2, a3, a4, a5]
  · cases e <;> simp [ddD, Dd.word, Dd.hand, Dd.tail, PyData.depth, PyData.depthAll, depth_it]
theorem cmpE_it (p q : It) : cmpE (itP p) (itP q) = true := rfl
theorem tc_two {x y : PyData} {i j : Int} (h : cmpE x y = true) : topCmp [x, .int i] [y, .int j] = true := by
  unfold topCmp
  split
  · unfold topCmp
    split
    · rfl
    · rfl
  · exact h
theorem tc_one {i j : Int} : topCmp [.int i] [.int j] = true := by
  unfold topCmp
  split
  · rfl
  · rfl
theorem tc_tail {e f : Dd} (h : e.word = f.word) : topCmp e.tail f.tail = true := by
  cases e <;> cases f <;> first | exact tc_two (cmpE_it _ _) | exact tc_two rfl | exact tc_one | (dsimp only [Dd.word] at h; exact absurd h (by decide +kernel))
theorem tc_dd (e f : Dd) : topCmp (itemsD' (ddD e)) (itemsD' (ddD f)) = true := by
  show topCmp (.str e.word :: .int (e.hand : Nat) :: e.tail) (.str f.word :: .int (f.hand : Nat) :: f.tail) = true
  unfold topCmp
  split
  · rename_i h
    have hw : e.word = f.word := by simpa [PyData.eqv] using h
    unfold topCmp
    split
    · exact tc_tail hw
    · rfl
  · rfl
/-! ### what the list of deeds has -/
theorem But.refl (L : Addr) (H : Hp) : But L H H := fun _ _ h _ => h
theorem But.trans {L : Addr} {H H1 H2 : Hp} (x : But L H H1) (y : But L H1 H2) : But L H H2 := fun a o h n => y a o (x a o h n) n
theorem But.same {L : Addr} {H H' : Hp} (e : Same H H') : But L H H' := fun a o h _ => e a o h
theorem But.nl {L : Addr} {H H' : Hp} {xs : List V} (hL : H L = some (.lst xs)) (x : But L H H') : Nl H H' := fun a o h n _ => x a o h (ne_of h hL (n _))
section
variable {P : Program} {w : World} {K : PySem.W.Frag} {mg : Str → Option Value} {base : Heap}
/-- small numbers -/
def Sm : Dd → Prop
  | .give h p o => h ≤ 1000 ∧ p.2 ≤ 1000 ∧ o ≤ 1000
  | .put h p b => h ≤ 1000 ∧ p.2 ≤ 1000 ∧ b ≤ 1000
  | .take h p b => h ≤ 1000 ∧ p.2 ≤ 1000 ∧ b ≤ 1000
  | .lock h b s => h ≤ 1000 ∧ b ≤ 1000 ∧ s ≤ 1000
  | .brk h b => h ≤ 1000 ∧ b ≤ 1000
/-- hands that there are -/
def Hb (d : Hs) : Dd → Prop
  | .give h _ o => (h : Int) < d.hands ∧ (o : Int) < d.hands ∧ o ≠ h
  | .put h p b => (h : Int) < d.hands ∧ p ≠ (.box, b) ∧ p.1 ≠ .sl
  | .take h p b => (h : Int) < d.hands ∧ p ≠ (.box, b) ∧ p.1 ≠ .sl
  | .lock h _ _ => (h : Int) < d.hands
  | .brk h _ => (h : Int) < d.hands
def DdV (K : PySem.W.Frag) (d : Hs) (v : V) (H : Hp) : Prop := ∃ e, Dp K H v (ddD e) ∧ (Kn d e ∧ Hb d e ∧ barOf d e = "") ∧ Sm e
theorem DdV.nl {d : Hs} {v : V} {H H' : Hp} (k : Nl H H') (h : DdV K d v H) : DdV K d v H' := by
  obtain ⟨e, h1, h2⟩ := h
  exact ⟨e, Dp.nl k _ _ (noL_dd e) h1, h2⟩
def ItV (K : PySem.W.Frag) (d : Hs) (v : V) (H : Hp) : Prop := ∃ p : It, Dp K H v (itP p) ∧ p.2 < (rowOf d p.1).length
def ItG (K : PySem.W.Frag) (d : Hs) (v : V) (H : Hp) : Prop := ∃ p : It, Dp K H v (itP p) ∧ p.2 < (rowOf d p.1).length ∧ p.1 ≠ .sl
theorem ItG.nl {d : Hs} {v : V} {H H' : Hp} (k : Nl H H') (h : ItG K d v H) : ItG K d v H' := by
  obtain ⟨e, h1, h2⟩ := h
  exact ⟨e, Dp.nl k _ _ rfl h1, h2⟩
theorem ItG.v {d : Hs} {v : V} {H : Hp} (h : ItG K d v H) : ItV K d v H := by
  obtain ⟨e, h1, h2, _⟩ := h
  exact ⟨e, h1, h2⟩
theorem ItV.nl {d : Hs} {v : V} {H H' : Hp} (k : Nl H H') (h : ItV K d v H) : ItV K d v H' := by
  obtain ⟨e, h1, h2⟩ := h
  exact ⟨e, Dp.nl k _ _ rfl h1, h2⟩
theorem nl_same {H H' : Hp} (e : Same H H') : Nl H H' := fun a o h _ _ => e a o h
def DdU (K : PySem.W.Frag) (d : Hs) (v : V) (H : Hp) : Prop := ∃ e, Dp K H v (ddD e) ∧ (Kn d e ∧ Hb d e) ∧ Sm e
theorem DdU.nl {d : Hs} {v : V} {H H' : Hp} (k : Nl H H') (h : DdU K d v H) : DdU K d v H' := by
  obtain ⟨e, h1, h2⟩ := h
  exact ⟨e, Dp.nl k _ _ (noL_dd e) h1, h2⟩
structure Fd (K : PySem.W.Frag) (d : Hs) (L : Addr) (H0 H : Hp) (m : Nat) : Prop where
  bt : But L H0 H
  ex : ∃ xs, H L = some (.lst xs) ∧ xs.length ≤ m ∧ ∀ v ∈ xs, DdU K d v H
theorem Fd.ext {d : Hs} {L : Addr} {H0 H H' : Hp} {m : Nat} (x : Fd K d L H0 H m) (e : Same H H') : ∃ xs, H' L = some (.lst xs) ∧ xs.length ≤ m ∧ ∀ (zs : List V) (n : Nat), zs.length ≤ n → (∀ v ∈ zs, DdU K d v H') → Fd K d L H0 (L2.upd H' L (.lst (xs ++ zs))) (m + n) := by
  obtain ⟨xs, h1, h2, h3⟩ := x.ex
  refine ⟨xs, e _ _ h1, h2, fun zs n hz hzs => ⟨fun a o h ne => ?_, xs ++ zs, upd_same, by rw [List.length_append]; omega, fun v hv => ?_⟩⟩
  · rw [upd_ne ne]
    exact e _ _ (x.bt a o h ne)
  · have k := nl_updL (ys := xs ++ zs) (e _ _ h1)
    rcases List.mem_append.mp hv with hv | hv
    · exact ((h3 v hv).nl (nl_same e)).nl k
    · exact (hzs v hv).nl k
theorem Fd.more {d : Hs} {L : Addr} {H0 H : Hp} {m n : Nat} (x : Fd K d L H0 H m) (h : m ≤ n) : Fd K d L H0 H n := by
  obtain ⟨xs, h1, h2, h3⟩ := x.ex
  exact ⟨x.bt, xs, h1, by omega, h3⟩
def nV (hs : List Nat) : List V := hs.map fun h => V.int (h : Nat)
theorem nv_len (hs : List Nat) : (nV hs).length = hs.length := List.length_map _
theorem rg_get {n : Nat} {i : Nat} {x : V} (h : (rgV 0 (n : Int))[i]? = some x) : i < n ∧ x = .int (i : Nat) := by
  have hl := (List.getElem?_eq_some_iff.mp h).1
  rw [rgV_length] at hl
  have hi : i < n := by omega
  refine ⟨hi, ?_⟩
  unfold rgV at h
  rw [List.getElem?_map, List.getElem?_range (by omega)] at h
  have := Option.some.inj h
  rw [← this]
  show V.int (0 + (i : Int)) = _
  rw [Int.zero_add]
theorem rg_len (n : Nat) : (rgV 0 (n : Int)).length = n := by rw [rgV_length]; omega
theorem ite_b {A B : Prop} (b : Bool) (h1 : b = true → A) (h2 : b = false → B) : if b = true then A else B := by
  cases b with
  | true => rw [if_pos rfl]; exact h1 rfl
  | false => rw [if_neg (by decide)]; exact h2 rfl
theorem scDeedsT : FnScope ["_law_state", "_law_hands_here", "_law_boxes", "_law_things", "_law_seals", "_law_goods", "_law_found", "_law_hand", "_law_box", "_law_item", "_law_row", "_law_number", "_law_seal", "_law_other", "_law_deed"] ["_law_state", "_law_hands_here"] (defScope sDeeds) := ⟨rfl, rfl, rfl, by decide +kernel, rfl, by decide +kernel, by decide +kernel⟩
end
end Kw



set_option Elab.async false
set_option linter.all false
set_option maxRecDepth 100000
set_option maxHeartbeats 4000000
/-! items in their order: p <= q, sorted over a list or a tuple of items -/
namespace Kw
open PySem PySem.Spec PyProof.Rows L2
def rkd : Kd → Int
  | .box => 0
  | .sl => 1
  | .thing => 2
def itKey (p : It) : Int × Int := (rkd p.1, (p.2 : Int))
def itLt (p q : It) : Bool := SrtO.lexB (itKey p) (itKey q)
theorem rkd_inj {k l : Kd} (h : rkd k = rkd l) : k = l := by
  cases k <;> cases l <;> first | rfl | exact absurd h (by decide)
theorem kd_lt (k l : Kd) : decide (k.str.cps.toList < l.str.cps.toList) = decide (rkd k < rkd l) := by
  cases k <;> cases l <;> decide +kernel
theorem itLt_iff {p q : It} : itLt p q = true ↔ rkd p.1 < rkd q.1 ∨ (p.1 = q.1 ∧ p.2 < q.2) := by
  unfold itLt
  rw [SrtO.lexB_iff]
  show rkd p.1 < rkd q.1 ∨ (rkd p.1 = rkd q.1 ∧ ((p.2 : Int) < q.2)) ↔ _
  constructor
  · rintro (h | ⟨h1, h2⟩)
    · exact .inl h
    · exact .inr ⟨rkd_inj h1, by omega⟩
  · rintro (h | ⟨h1, h2⟩)
    · exact .inl h
    · exact .inr ⟨by rw [h1], by omega⟩
/-! ### p <= q -/
def rLeI (K : PySem.W.Frag) : R2 := fun x y H Q => ∃ (a b : Addr) (p q : It), x = .ref a ∧ y = .ref b ∧ SqT K H a [.str p.1.str, .int (p.2 : Nat)] ∧ SqT K H b [.str q.1.str, .int (q.2 : Nat)] ∧ Q (.bl (!itLt q p)) H
theorem two_of {v : List Value} {x : Str} {i : Int} (r : Vals [V.str x, V.int i] v) : ∃ t u, v = [.str x t, .int i u] := by
  cases r with
  | cons r1 rr =>
    cases rr with
    | cons r2 rr =>
      cases rr
      obtain ⟨t, rfl⟩ := r1
      obtain ⟨u, rfl⟩ := r2
      exact ⟨t, u, rfl⟩
theorem op_leI {X : Cx} (hu : X.A.units < cLine) : OpR X (compareOp .LtE) (rLeI X.K) := by
  intro pins s σ H x y v u Q I rx ry h
  obtain ⟨a, b, p, q, rfl, rfl, ha, hb, hq⟩ := h
  cases rx
  cases ry
  obtain ⟨its, r1, p1, _⟩ := I.tuple ha
  obtain ⟨its2, r2, p2, _⟩ := I.tuple hb
  obtain ⟨t1, u1, rfl⟩ := two_of r1
  obtain ⟨t2, u2, rfl⟩ := two_of r2
  have R := Ob.RcOp.tuples_le (A := X.A) (s := s) (e := fun j => if j = 0 then p.1.str == q.1.str else ((p.2 : Int) == (q.2 : Int))) (r := fun j => if j = 0 then !decide (q.1.str.cps.toList < p.1.str.cps.toList) else decide ((p.2 : Int) ≤ q.2)) p1 p2 hu (fun j h1 h2 => by
      match j, h1, h2 with
      | 0, _, _ => exact SeqAt.EqAt.str_str _ _ _ _
      | 1, _, _ => exact SeqAt.EqAt.int_int _ _ _ _
      | j + 2, h1, _ => simp at h1; omega) (fun j h1 h2 _ => by
      match j, h1, h2 with
      | 0, _, _ => exact fun _ _ _ _ h => PySem.P.le_str h
      | 1, _, _ => exact Ob.RcOp.le_int _ _ _ _
      | j + 2, h1, _ => simp at h1; omega)
  refine R X.prog X.w X.xe (EP X pins σ Q) ⟨.bl (!itLt q p), H, I, ?_, hq⟩
  show Value.bool _ = Value.bool _
  congr 1
  show Ob.lexAt _ _ _ 0 2 = _
  rw [Ob.lexAt_succ, Ob.lexAt_succ, Ob.lexAt_zero]
  have ks := kd_lt q.1 p.1
  by_cases c : p.1 = q.1
  · have c' : (p.1.str == q.1.str) = true := by rw [c]; exact beq_self_eq_true _
    simp only [c', if_true]
    by_cases c2 : p.2 = q.2
    · have n1 : itLt q p = false := by
        cases e : itLt q p with
        | false => rfl
        | true =>
          rcases itLt_iff.mp e with z | ⟨_, z⟩
          · rw [c] at z; omega
          · omega
      rw [n1]
      simp [c2]
    · have c3 : (((p.2 : Nat) : Int) == ((q.2 : Nat) : Int)) = false := beq_eq_false_iff_ne.mpr (by omega)
      simp only [c3]
      by_cases c4 : q.2 < p.2
      · have n1 : itLt q p = true := itLt_iff.mpr (.inr ⟨c.symm, c4⟩)
        rw [n1]
        simp
        omega
      · have n1 : itLt q p = false := by
          cases e : itLt q p with
          | false => rfl
          | true =>
            rcases itLt_iff.mp e with z | ⟨_, z⟩
            · rw [c] at z; omega
            · exact absurd z c4
        rw [n1]
        simp
        omega
  · have c' : (p.1.str == q.1.str) = false := beq_eq_false_iff_ne.mpr fun z => c (kd_inj z)
    simp only [c']
    rw [ks]
    by_cases c4 : rkd q.1 < rkd p.1
    · have n1 : itLt q p = true := itLt_iff.mpr (.inl c4)
      rw [n1, decide_eq_true c4]
      rfl
    · have n1 : itLt q p = false := by
        cases e : itLt q p with
        | false => rfl
        | true =>
          rcases itLt_iff.mp e with z | ⟨z, _⟩
          · exact absurd z c4
          · exact absurd z.symm c
      rw [n1, decide_eq_false c4]
      rfl
end Kw



set_option Elab.async false
set_option linter.all false
set_option maxRecDepth 100000
set_option maxHeartbeats 4000000
namespace Kw
open PySem PySem.Spec PyProof.Rows L2
theorem nat_of {r : Int} (h : 0 ≤ r) : ∃ n : Nat, r = (n : Int) := ⟨r.toNat, by omega⟩
end Kw



set_option Elab.async false
set_option linter.all false
set_option maxRecDepth 100000
set_option maxHeartbeats 4000000
namespace Kw
open PySem PySem.Spec PyProof.Rows L2
/-! ### _law_unknown -/
def inH (d : Hs) (p : It) : Prop := p.2 < (rowOf d p.1).length
instance (d : Hs) (p : It) : Decidable (inH d p) := by unfold inH; infer_instance
def unkOf (d : Hs) (e : Dd) : Str :=
  if d.hands ≤ (e.hand : Nat) then "UnknownHand" else match e with
  | .give h p o => if ¬ inH d p then "UnknownItem" else if d.hands ≤ (o : Nat) ∨ o = h then "UnknownHand" else ""
  | .put _ p b => if ¬ inH d p ∨ p.1 = .sl then "UnknownItem" else if d.bs.length ≤ b then "UnknownBox" else if p = (.box, b) then "InsideItself" else ""
  | .take _ p b => if ¬ inH d p ∨ p.1 = .sl then "UnknownItem" else if d.bs.length ≤ b then "UnknownBox" else if p = (.box, b) then "InsideItself" else ""
  | .lock _ b s => if d.bs.length ≤ b then "UnknownBox" else if d.ss.length ≤ s then "UnknownSeal" else ""
  | .brk _ b => if d.bs.length ≤ b then "UnknownBox" else ""
theorem inH_where {d : Hs} {p : It} (h : inH d p) : (whereD d p).isSome := by
  unfold whereD
  rw [List.getElem?_eq_getElem h]
  rfl
theorem ne_e1 : ¬ (("UnknownHand" : Str) = "") := by decide +kernel
theorem ne_e2 : ¬ (("UnknownItem" : Str) = "") := by decide +kernel
theorem ne_e3 : ¬ (("UnknownBox" : Str) = "") := by decide +kernel
theorem ne_e4 : ¬ (("InsideItself" : Str) = "") := by decide +kernel
theorem ne_e5 : ¬ (("UnknownSeal" : Str) = "") := by decide +kernel
theorem unk_kn {d : Hs} {e : Dd} (h : unkOf d e = "") : Kn d e := by
  unfold unkOf at h
  by_cases c0 : d.hands ≤ (e.hand : Nat)
  · rw [if_pos c0] at h; exact absurd h ne_e1
  rw [if_neg c0] at h
  cases e with
  | give hd p o =>
    dsimp only at h
    by_cases c1 : ¬ inH d p
    · rw [if_pos c1] at h; exact absurd h ne_e2
    exact inH_where (Classical.not_not.mp c1)
  | put hd p b =>
    dsimp only at h
    by_cases c1 : ¬ inH d p ∨ p.1 = .sl
    · rw [if_pos c1] at h; exact absurd h ne_e2
    rw [if_neg c1] at h
    by_cases c2 : d.bs.length ≤ b
    · rw [if_pos c2] at h; exact absurd h ne_e3
    exact ⟨inH_where (Classical.byContradiction fun z => c1 (.inl z)), by omega⟩
  | take hd p b =>
    dsimp only at h
    by_cases c1 : ¬ inH d p ∨ p.1 = .sl
    · rw [if_pos c1] at h; exact absurd h ne_e2
    rw [if_neg c1] at h
    by_cases c2 : d.bs.length ≤ b
    · rw [if_pos c2] at h; exact absurd h ne_e3
    exact ⟨inH_where (Classical.byContradiction fun z => c1 (.inl z)), by omega⟩
  | lock hd b s =>
    dsimp only at h
    by_cases c2 : d.bs.length ≤ b
    · rw [if_pos c2] at h; exact absurd h ne_e3
    rw [if_neg c2] at h
    by_cases c3 : d.ss.length ≤ s
    · rw [if_pos c3] at h; exact absurd h ne_e5
    exact ⟨by omega, by omega⟩
  | brk hd b =>
    dsimp only at h
    by_cases c2 : d.bs.length ≤ b
    · rw [if_pos c2] at h; exact absurd h ne_e3
    show b < d.bs.length
    omega
theorem many_kd (d : Hs) (k : Kd) : manyOf d k.str = (rowOf d k).length := by
  have e1 : ¬ ("seal" : Str) = ("box" : Str) := by decide +kernel
  have e2 : ¬ ("thing" : Str) = ("box" : Str) := by decide +kernel
  have e3 : ¬ ("thing" : Str) = ("seal" : Str) := by decide +kernel
  cases k
  · exact if_pos rfl
  · show manyOf d "thing" = _
    unfold manyOf
    rw [if_neg e2, if_neg e3, if_pos rfl]
    rfl
  · show manyOf d "seal" = _
    unfold manyOf
    rw [if_neg e1, if_pos rfl]
    rfl
theorem has_it (d : Hs) (p : It) : numOk ((p.2 : Nat) : Int) ((manyOf d p.1.str : Nat) : Int) = decide (inH d p) := by
  rw [many_kd]
  unfold numOk inH
  by_cases c : p.2 < (rowOf d p.1).length
  · rw [decide_eq_true c, decide_eq_true (by omega), decide_eq_true (by omega)]
    rfl
  · rw [decide_eq_false c, decide_eq_false (show ¬ (((p.2 : Nat) : Int) < ((rowOf d p.1).length : Nat)) by omega), Bool.and_false]
end Kw



set_option Elab.async false
set_option linter.all false
set_option maxRecDepth 100000
set_option maxHeartbeats 4000000
namespace Kw
open PySem PySem.Spec PyProof.Rows L2
abbrev sNHand : Stmt := top 21
abbrev sNItem : Stmt := top 22
abbrev sNLoad : Stmt := top 23
abbrev sNBox : Stmt := top 24
abbrev sNSeal : Stmt := top 25
abbrev sPlace : Stmt := top 30
abbrev sWith : Stmt := top 31
abbrev sOn : Stmt := top 32
abbrev sNDeed : Stmt := top 36
abbrev sNMove : Stmt := top 37
abbrev sBehind : Stmt := top 38
abbrev sBreak : Stmt := top 39
abbrev sHeld : Stmt := top 40
abbrev sBare : Stmt := top 41
/-- a plain error of the program: the class's facts -/
structure PErr (K : PySem.W.Frag) (mg : Str → Option Value) (x : Str) (C : Addr) : Prop where
  ex : PySem.W.excIn K C [.type "ValueError", .type "Exception", .type "BaseException", .type "object"] "ValueError.__new__" = true
  mg : mg x = some (.ref C)
  kp : PySem.W.keepIn K (.ref C) = true
  sb : PySem.W.subIn K (.ref C) (.type "BaseException") = some true
  ty : PySem.W.typeIn K (.ref C) = some (.type "type")
def Rp (C : Addr) (H : Hp) (E : XK) : Prop := ∀ H', Same H H' → E (.ref C) none H'
theorem Rp.same {C : Addr} {H H' : Hp} {E : XK} (e : Same H H') (r : Rp C H E) : Rp C H' E := fun H2 e2 => r H2 (e.trans e2)
theorem str_app (a b : Str) : (a ++ b).length = a.length + b.length := Str.length_append a b
theorem kd_len (k : Kd) : k.str.length ≤ 20 ∧ ∀ c ∈ k.str.cps.toList, c < 16 ^ 8 := by
  cases k <;> exact ⟨by decide +kernel, by decide +kernel⟩
section
variable {P : Program} {w : World} {K : PySem.W.Frag} {mg : Str → Option Value} {base : Heap}
/-- is_number and the house's __contains__, as the needs use them -/
structure NumF (P : Program) (w : World) (K : PySem.W.Frag) (mg : Str → Option Value) (base : Heap) (g : Addr) (fd : FuncData) : Prop where
  G : FnOk P w K mg base CX0 1 g fd ["value", "limit"] spNum
  m : mg "is_number" = some (.ref g)
  k : PySem.W.keepIn K (.ref g) = true
  b : Binds K fd ["value", "limit"] []
structure HasF (P : Program) (w : World) (K : PySem.W.Frag) (mg : Str → Option Value) (base : Heap) (C g : Addr) (fd : FuncData) : Prop where
  G : FnOk P w K mg base CX0 2 g fd ["self", "item"] (spHas K C)
  f : PySem.W.findIn K (.ref C) "__contains__" = some (some (.ref g))
  i : PySem.W.isFn K (.ref g) = true
  b : Binds K fd ["self", "item"] []
theorem num_lt {n l : Int} (h0 : 0 ≤ n) : numOk n l = decide (n < l) := by
  unfold numOk
  rw [decide_eq_true h0, Bool.true_and]
/-! ### need_hand -/
def spNHand (K : PySem.W.Frag) (C X : Addr) : Sp := fun vs H Q E => ∃ (h : Addr) (n : Int) (d : Hs), vs = [.ref h, .int n] ∧ HouseAt K C H h d ∧ 0 ≤ n ∧ n ≤ 1000 ∧ (d.hands ≤ n → Rp X H E) ∧ (n < d.hands → Q .non H)
theorem scNHand : FnScope ["house", "hand"] ["house", "hand"] (defScope sNHand) := ⟨rfl, rfl, rfl, by decide +kernel, rfl, by decide +kernel, by decide +kernel⟩
theorem ok_nhand {f g C X : Addr} {fd fdg : FuncData} (F : Fun K "need_hand" "need_hand" sNHand f fd) (T : HouseC K C) (N : NumF P w K mg base g fdg) (X1 : PErr K mg "UnknownHand" X) :
    FnOk P w K mg base (L2N.CX P w) 2 f fd ["house", "hand"] (spNHand K C X) := by
  refine okN F scNHand (fun vs H Q E h => ?_) (fun cdv A outer s H vs Q E hr h => ?_)
  · obtain ⟨h, n, d, rfl, _⟩ := h
    rfl
  · obtain ⟨h, n, d, rfl, hh, h0, h1, kE, kQ⟩ := h
    have tk : L2N.Takes (cxOf (L2N.CX P w) P w K mg base ["house", "hand"] "need_hand" (defScope sNHand) f cdv A outer s H E) (fun cls d _ H => E cls d H) := L2N.takes_of rfl rfl rfl rfl
    refine ⟨_, pss_one (ps_if (pt_not (pt_val (pe_call N.G hr rfl N.m N.k N.b .nil pass0 (pa_cons (pv 1) (pa_cons (pe_fld (pv 0) rfl) pa_nil)))))
      (pss_one (L2N.ps_raise rfl tk (pmk_own1N PySem.F.excBase_ValueError X1.ex X1.mg X1.kp (raises_own X1.sb X1.ty) rfl (pe_joined (.cons pe_str (.cons (pe_fmt (pv 1)) .nil)))))) pss_nil), ?_⟩
    obtain ⟨dx, vb, vt, vs, vst, g0, _⟩ := hh.ex
    refine ⟨_, rfl, _, rfl, h, C, dx, _, _, rfl, g0, T.cl, T.nH, fs_hands _ _ _ _ _, n, d.hands, rfl, _, rfl, ?_⟩
    rw [num_lt h0]
    by_cases c : n < d.hands
    · rw [decide_eq_true c]
      exact iteF (kQ c)
    · rw [decide_eq_false c]
      have l5 := sizeLine_eq
      have l1 : (Str.empty : Str).length = 0 := rfl
      have l2 : ("there is no hand " : Str).length = 17 := by decide +kernel
      have l3 := digits_small h0 h1
      exact iteT ⟨_, rfl, by rw [str_app]; omega, _, rfl, .inr ⟨n, rfl, log2_small h0 h1, _, rfl, by rw [str_app, str_app]; omega, kE (by omega) _ (Same.refl _)⟩⟩
/-! ### need_item, need_load -/
def spNItem (K : PySem.W.Frag) (C X : Addr) : Sp := fun vs H Q E => ∃ (h : Addr) (y : V) (p : It) (d : Hs), vs = [.ref h, y] ∧ HouseAt K C H h d ∧ Dp K H y (itP p) ∧ p.2 ≤ 1000 ∧ (¬ inH d p → Rp X H E) ∧ (inH d p → Q .non H)
theorem scNItem : FnScope ["house", "item"] ["house", "item"] (defScope sNItem) := ⟨rfl, rfl, rfl, by decide +kernel, rfl, by decide +kernel, by decide +kernel⟩
theorem ok_nitem {f g C X : Addr} {fd fdg : FuncData} (F : Fun K "need_item" "need_item" sNItem f fd) (N : HasF P w K mg base C g fdg) (X1 : PErr K mg "UnknownItem" X) :
    FnOk P w K mg base (L2N.CX P w) 3 f fd ["house", "item"] (spNItem K C X) := by
  refine okN F scNItem (fun vs H Q E h => ?_) (fun cdv A outer s H vs Q E hr h => ?_)
  · obtain ⟨h, y, p, d, rfl, _⟩ := h
    rfl
  · obtain ⟨h, y, p, d, rfl, hh, hy, h1, kE, kQ⟩ := h
    have hr2 : Room 2 _ := hr
    have tk : L2N.Takes (cxOf (L2N.CX P w) P w K mg base ["house", "item"] "need_item" (defScope sNItem) f cdv A outer s H E) (fun cls d _ H => E cls d H) := L2N.takes_of rfl rfl rfl rfl
    refine ⟨_, pss_one (ps_if (pt_cmpR (op_notInOwn N.G N.f N.i hr2 N.b pass0) (pv 1) (pv 0) (by rfl))
      (pss_one (L2N.ps_raise rfl tk (pmk_own1N PySem.F.excBase_ValueError X1.ex X1.mg X1.kp (raises_own X1.sb X1.ty) rfl (pe_joined (.cons pe_str (.cons (pe_fmtI hr2 (pv 1)) .nil)))))) pss_nil), ?_⟩
    obtain ⟨dx, vb, vt, vs, vst, g0, _⟩ := hh.ex
    obtain ⟨ip, rfl, sp⟩ := it_at hy
    refine ⟨_, rfl, _, rfl, h, dx, _, rfl, g0, h, ip, d, p.1.str, (p.2 : Nat), rfl, hh, sp, _, rfl, _, rfl, ?_⟩
    rw [has_it]
    by_cases c : inH d p
    · rw [decide_eq_true c]
      exact iteF (kQ c)
    · rw [decide_eq_false c]
      have l5 := sizeLine_eq
      have l1 : (Str.empty : Str).length = 0 := rfl
      have l2 : ("there is no item " : Str).length = 17 := by decide +kernel
      exact iteT ⟨_, rfl, by rw [str_app]; omega, _, rfl, ip, _, _, rfl, sp, (kd_len _).1, (kd_len _).2, by omega, by omega, fun m hm => ⟨_, rfl, by rw [str_app, str_app]; omega, kE c _ (Same.refl _)⟩⟩
def spNLoad (K : PySem.W.Frag) (C X : Addr) : Sp := fun vs H Q E => ∃ (h : Addr) (y : V) (p : It) (d : Hs), vs = [.ref h, y] ∧ HouseAt K C H h d ∧ Dp K H y (itP p) ∧ p.2 ≤ 1000 ∧ (¬ inH d p ∨ p.1 = .sl → Rp X H E) ∧ (¬ (¬ inH d p ∨ p.1 = .sl) → Q .non H)
theorem scNLoad : FnScope ["house", "item"] ["house", "item"] (defScope sNLoad) := ⟨rfl, rfl, rfl, by decide +kernel, rfl, by decide +kernel, by decide +kernel⟩
theorem ok_nload {f g C X : Addr} {fd fdg : FuncData} (F : Fun K "need_load" "need_load" sNLoad f fd) (N : HasF P w K mg base C g fdg) (X1 : PErr K mg "UnknownItem" X) :
    FnOk P w K mg base (L2N.CX P w) 3 f fd ["house", "item"] (spNLoad K C X) := by
  refine okN F scNLoad (fun vs H Q E h => ?_) (fun cdv A outer s H vs Q E hr h => ?_)
  · obtain ⟨h, y, p, d, rfl, _⟩ := h
    rfl
  · obtain ⟨h, y, p, d, rfl, hh, hy, h1, kE, kQ⟩ := h
    have hr2 : Room 2 _ := hr
    have tk : L2N.Takes (cxOf (L2N.CX P w) P w K mg base ["house", "item"] "need_load" (defScope sNLoad) f cdv A outer s H E) (fun cls d _ H => E cls d H) := L2N.takes_of rfl rfl rfl rfl
    refine ⟨_, pss_one (ps_if (PW.pt (pw_or (pt_cmpR (op_notInOwn N.G N.f N.i hr2 N.b pass0) (pv 1) (pv 0) (by rfl)) (pw_or1 (pt_cmpR op_eq (pe_ix ix_tup (pv 1) pe_int (fun _ _ => rfl)) pe_str (nomark _)))))
      (pss_one (L2N.ps_raise rfl tk (pmk_own1N PySem.F.excBase_ValueError X1.ex X1.mg X1.kp (raises_own X1.sb X1.ty) rfl (pe_joined (.cons pe_str (.cons (pe_fmtI hr2 (pv 1)) .nil)))))) pss_nil), ?_⟩
    obtain ⟨dx, vb, vt, vs, vst, g0, _⟩ := hh.ex
    obtain ⟨ip, rfl, sp⟩ := it_at hy
    have l5 := sizeLine_eq
    have l1 : (Str.empty : Str).length = 0 := rfl
    have l2 : ("there is no box or thing " : Str).length = 25 := by decide +kernel
    refine ⟨_, rfl, _, rfl, h, dx, _, rfl, g0, h, ip, d, p.1.str, (p.2 : Nat), rfl, hh, sp, _, rfl, _, rfl, ?_⟩
    rw [has_it]
    by_cases c : inH d p
    · rw [decide_eq_true c]
      refine iteF ⟨_, rfl, ip, _, 0, _, rfl, rfl, sp, rfl, rfl, _, rfl, ?_⟩
      rw [decS]
      by_cases c2 : p.1 = .sl
      · rw [decide_eq_true (show p.1.str = ("seal" : Str) by rw [c2]; rfl)]
        exact iteT ⟨_, rfl, by rw [str_app]; omega, _, rfl, ip, _, _, rfl, sp, (kd_len _).1, (kd_len _).2, by omega, by omega, fun m hm => ⟨_, rfl, by rw [str_app, str_app]; omega, kE (.inr c2) _ (Same.refl _)⟩⟩
      · rw [decide_eq_false (show ¬ p.1.str = ("seal" : Str) from fun z => c2 (kd_inj (l := .sl) z))]
        exact iteF (kQ fun z => z.elim (fun q => q c) c2)
    · rw [decide_eq_false c]
      exact iteT (iteT ⟨_, rfl, by rw [str_app]; omega, _, rfl, ip, _, _, rfl, sp, (kd_len _).1, (kd_len _).2, by omega, by omega, fun m hm => ⟨_, rfl, by rw [str_app, str_app]; omega, kE (.inl c) _ (Same.refl _)⟩⟩)
/-! ### need_box, need_seal -/
def spNBox (K : PySem.W.Frag) (C X : Addr) : Sp := fun vs H Q E => ∃ (h : Addr) (n : Nat) (d : Hs), vs = [.ref h, .int (n : Nat)] ∧ HouseAt K C H h d ∧ n ≤ 1000 ∧ (d.bs.length ≤ n → Rp X H E) ∧ (n < d.bs.length → Q .non H)
def spNSeal (K : PySem.W.Frag) (C X : Addr) : Sp := fun vs H Q E => ∃ (h : Addr) (n : Nat) (d : Hs), vs = [.ref h, .int (n : Nat)] ∧ HouseAt K C H h d ∧ n ≤ 1000 ∧ (d.ss.length ≤ n → Rp X H E) ∧ (n < d.ss.length → Q .non H)
theorem scNBox : FnScope ["house", "box"] ["house", "box"] (defScope sNBox) := ⟨rfl, rfl, rfl, by decide +kernel, rfl, by decide +kernel, by decide +kernel⟩
theorem scNSeal : FnScope ["house", "seal"] ["house", "seal"] (defScope sNSeal) := ⟨rfl, rfl, rfl, by decide +kernel, rfl, by decide +kernel, by decide +kernel⟩
theorem ok_nbox {f g C X : Addr} {fd fdg : FuncData} (F : Fun K "need_box" "need_box" sNBox f fd) (B : Bt mg) (T : HouseC K C) (N : NumF P w K mg base g fdg) (X1 : PErr K mg "UnknownBox" X) :
    FnOk P w K mg base (L2N.CX P w) 2 f fd ["house", "box"] (spNBox K C X) := by
  refine okN F scNBox (fun vs H Q E h => ?_) (fun cdv A outer s H vs Q E hr h => ?_)
  · obtain ⟨h, n, d, rfl, _⟩ := h
    rfl
  · obtain ⟨h, n, d, rfl, hh, h1, kE, kQ⟩ := h
    have tk : L2N.Takes (cxOf (L2N.CX P w) P w K mg base ["house", "box"] "need_box" (defScope sNBox) f cdv A outer s H E) (fun cls d _ H => E cls d H) := L2N.takes_of rfl rfl rfl rfl
    refine ⟨_, pss_one (ps_if (pt_not (pt_val (pe_call N.G hr rfl N.m N.k N.b .nil pass0 (pa_cons (pv 1) (pa_cons (pe_callB call_len_seq (by rfl) B.len PySem.boot_len (pa_cons (pe_fld (pv 0) rfl) pa_nil)) pa_nil)))))
      (pss_one (L2N.ps_raise rfl tk (pmk_own1N PySem.F.excBase_ValueError X1.ex X1.mg X1.kp (raises_own X1.sb X1.ty) rfl (pe_joined (.cons pe_str (.cons (pe_fmt (pv 1)) .nil)))))) pss_nil), ?_⟩
    obtain ⟨dx, vb, vt, vs, vst, g0, g1, g2, g3, g4⟩ := hh.ex
    obtain ⟨ab, xb, rfl, qb, db, lb⟩ := pls_at g1
    refine ⟨_, rfl, _, rfl, h, C, dx, _, _, rfl, g0, T.cl, T.nB, fs_boxes _ _ _ _ _, ab, xb, rfl, .inr qb, (n : Nat), (xb.length : Nat), rfl, _, rfl, ?_⟩
    rw [num_lt (by omega)]
    by_cases c : n < d.bs.length
    · rw [decide_eq_true (show ((n : Nat) : Int) < (xb.length : Nat) by omega)]
      exact iteF (kQ c)
    · rw [decide_eq_false (show ¬ ((n : Nat) : Int) < (xb.length : Nat) by omega)]
      have l5 := sizeLine_eq
      have l1 : (Str.empty : Str).length = 0 := rfl
      have l2 : ("there is no box " : Str).length = 16 := by decide +kernel
      have l3 := digits_small (i := (n : Nat)) (by omega) (by omega)
      exact iteT ⟨_, rfl, by rw [str_app]; omega, _, rfl, .inr ⟨_, rfl, log2_small (by omega) (by omega), _, rfl, by rw [str_app, str_app]; omega, kE (by omega) _ (Same.refl _)⟩⟩
theorem ok_nseal {f g C X : Addr} {fd fdg : FuncData} (F : Fun K "need_seal" "need_seal" sNSeal f fd) (B : Bt mg) (T : HouseC K C) (N : NumF P w K mg base g fdg) (X1 : PErr K mg "UnknownSeal" X) :
    FnOk P w K mg base (L2N.CX P w) 2 f fd ["house", "seal"] (spNSeal K C X) := by
  refine okN F scNSeal (fun vs H Q E h => ?_) (fun cdv A outer s H vs Q E hr h => ?_)
  · obtain ⟨h, n, d, rfl, _⟩ := h
    rfl
  · obtain ⟨h, n, d, rfl, hh, h1, kE, kQ⟩ := h
    have tk : L2N.Takes (cxOf (L2N.CX P w) P w K mg base ["house", "seal"] "need_seal" (defScope sNSeal) f cdv A outer s H E) (fun cls d _ H => E cls d H) := L2N.takes_of rfl rfl rfl rfl
    refine ⟨_, pss_one (ps_if (pt_not (pt_val (pe_call N.G hr rfl N.m N.k N.b .nil pass0 (pa_cons (pv 1) (pa_cons (pe_callB call_len_seq (by rfl) B.len PySem.boot_len (pa_cons (pe_fld (pv 0) rfl) pa_nil)) pa_nil)))))
      (pss_one (L2N.ps_raise rfl tk (pmk_own1N PySem.F.excBase_ValueError X1.ex X1.mg X1.kp (raises_own X1.sb X1.ty) rfl (pe_joined (.cons pe_str (.cons (pe_fmt (pv 1)) .nil)))))) pss_nil), ?_⟩
    obtain ⟨dx, vb, vt, vs, vst, g0, g1, g2, g3, g4⟩ := hh.ex
    obtain ⟨as, xs, rfl, qs, ds, ls⟩ := pls_at g3
    refine ⟨_, rfl, _, rfl, h, C, dx, _, _, rfl, g0, T.cl, T.nS, fs_seals _ _ _ _ _, as, xs, rfl, .inr qs, (n : Nat), (xs.length : Nat), rfl, _, rfl, ?_⟩
    rw [num_lt (by omega)]
    by_cases c : n < d.ss.length
    · rw [decide_eq_true (show ((n : Nat) : Int) < (xs.length : Nat) by omega)]
      exact iteF (kQ c)
    · rw [decide_eq_false (show ¬ ((n : Nat) : Int) < (xs.length : Nat) by omega)]
      have l5 := sizeLine_eq
      have l1 : (Str.empty : Str).length = 0 := rfl
      have l2 : ("there is no seal " : Str).length = 17 := by decide +kernel
      have l3 := digits_small (i := (n : Nat)) (by omega) (by omega)
      exact iteT ⟨_, rfl, by rw [str_app]; omega, _, rfl, .inr ⟨_, rfl, log2_small (by omega) (by omega), _, rfl, by rw [str_app, str_app]; omega, kE (by omega) _ (Same.refl _)⟩⟩
end
end Kw



set_option Elab.async false
set_option linter.all false
set_option maxRecDepth 100000
set_option maxHeartbeats 4000000
namespace Kw
open PySem PySem.Spec PyProof.Rows L2
theorem slA_by {K : PySem.W.Frag} {H : Hp} {a : Addr} {xs : List V} {lo hi : Option Int} {Q : VK} (h : SqT K H a xs) (k : ∀ c H', Same H H' → SqT K H' c (cutV xs lo hi) → Q (.ref c) H') : rSlA K (.ref a) lo hi H Q := by
  refine ⟨a, xs, rfl, h, fun hw => ?_, fun _ p hp => k p _ (same_upd hp) (SqT.of upd_same)⟩
  have e : cutV xs lo hi = xs := by
    unfold cutV
    rw [hw.1, hw.2]
    simp
  exact k a H (Same.refl _) (by rw [e]; exact h)
theorem catA_by {K : PySem.W.Frag} {H : Hp} {a b : Addr} {xs ys : List V} {Q : VK} (ha : SqT K H a xs) (hb : SqT K H b ys) (hz : xs.length + ys.length ≤ sizeLine) (k : ∀ c H', Same H H' → SqT K H' c (xs ++ ys) → Q (.ref c) H') : rCatA K (.ref a) (.ref b) H Q := by
  refine ⟨a, b, xs, ys, rfl, rfl, ha, hb, hz, fun e => ?_, fun _ e => ?_, fun _ _ p hp => k p _ (same_upd hp) (SqT.of upd_same)⟩
  · subst e
    exact k b H (Same.refl _) hb
  · subst e
    exact k a H (Same.refl _) (by rw [List.append_nil]; exact ha)
theorem cut_to {xs : List V} {n : Nat} (h : n ≤ xs.length) : cutV xs none (some (n : Int)) = xs.take n := by
  unfold cutV
  rw [HT.sIx_none, HT.sIx_nat, Nat.min_eq_left h]
  simp
theorem cut_from {xs : List V} {n : Nat} (h : n < xs.length) : cutV xs (some ((n : Int) + 1)) none = xs.drop (n + 1) := by
  unfold cutV
  rw [HT.sIx_none, show ((n : Int) + 1) = ((n + 1 : Nat) : Int) by omega, HT.sIx_nat, Nat.min_eq_left (by omega)]
  rw [List.take_of_length_le]
  rw [List.length_drop]
  exact Nat.le_refl _
theorem set_cut {α : Type} (l : List α) (n : Nat) (a : α) (h : n < l.length) : l.take n ++ [a] ++ l.drop (n + 1) = l.set n a := by
  rw [List.set_eq_take_append_cons_drop, if_pos h]
  simp
/-- the table of the words of items -/
structure PartsF (K : PySem.W.Frag) (w : World) (mg : Str → Option Value) (aP : Addr) : Prop where
  d : ∀ k : Kd, KDct K w aP k.str (.int (k.ix : Nat))
  m : mg "PARTS" = some (.ref aP)
structure Ls (d : Hs) : Prop where
  b : d.bs.length ≤ 100
  t : d.ts.length ≤ 100
  s : d.ss.length ≤ 100
theorem Ls.row {d : Hs} (h : Ls d) (k : Kd) : (rowOf d k).length ≤ 100 := by
  cases k
  · exact h.b
  · exact h.t
  · exact h.s
section
variable {P : Program} {w : World} {K : PySem.W.Frag} {mg : Str → Option Value} {base : Heap}
theorem scPlace : FnScope ["state", "item", "word", "number"] ["state", "item"] (defScope sPlace) := ⟨rfl, rfl, rfl, by decide +kernel, rfl, by decide +kernel, by decide +kernel⟩
theorem ok_place {f aP : Addr} {fd : FuncData} (F : Fun K "place_in" "place_in" sPlace f fd) (T : PartsF K w mg aP) : FnOk P w K mg base CX0 1 f fd ["state", "item"] (spWhere K) := by
  refine F.ok scPlace (fun vs H Q E h => ?_) (fun cdv A outer s H vs Q E hr h => ?_)
  · obtain ⟨x, y, d, p, q, rfl, _⟩ := h
    rfl
  · obtain ⟨x, y, d, p, q, rfl, hx, hy, hw, k⟩ := h
    obtain ⟨a, v1, v2, v3, rfl, sa, d1, d2, d3⟩ := st_at hx
    obtain ⟨b, rfl, sb⟩ := it_at hy
    obtain ⟨vr, hr1, dr⟩ := row_at d1 d2 d3 p.1
    obtain ⟨ar, xr, rfl, sr, dlr, lr⟩ := pls_at dr
    obtain ⟨vq, hq1, hq2⟩ := DpAll.at2 dlr (i := p.2) (d := plD q) (by rw [List.getElem?_map]; unfold whereD at hw; rw [hw]; rfl)
    refine ⟨_, pss_cons (ps_asg (pv 1) (pg_tup (by rfl) (pgs_cons (pg_name (i := 2) scPlace.nd rfl (.inl rfl)) (pgs_cons (pg_name (i := 3) scPlace.nd rfl (.inl rfl)) pgs_nil))))
      (pss_one (ps_ret (pe_ix ix_tup (pe_ix ix_tup (pv 0) (pe_ix ix_kdict (pe_glob (v := .ref aP) rfl T.m rfl) (pv 2) (fun _ _ => rfl)) (fun _ _ => rfl)) (pv 3) (fun _ _ => rfl)))), ?_⟩
    refine ⟨_, rfl, b, _, rfl, sb, rfl, _, _, rfl, _, _, rfl, rfl, ?_⟩
    refine ⟨_, rfl, _, rfl, aP, p.1.str, .int (p.1.ix : Nat), rfl, rfl, T.d p.1, a, _, _, _, rfl, rfl, sa, hr1, _, rfl, ar, xr, _, vq, rfl, rfl, sr, atI_nat hq1, ?_⟩
    exact k _ _ (Same.refl _) hq2
/-! ### place_in -/
/-! ### with_place -/
def spWith (K : PySem.W.Frag) : Sp := fun vs H Q _ => ∃ (x y z : V) (d : Hs) (p : It) (q : Pl), vs = [x, y, z] ∧ Dp K H x (stD d) ∧ Dp K H y (itP p) ∧ Dp K H z (plD q) ∧ p.2 < (rowOf d p.1).length ∧ Ls d ∧ ∀ v H', Same H H' → Dp K H' v (stD (setD d p q)) → Q v H'
theorem scWith : FnScope ["state", "item", "place", "word", "number", "part", "places"] ["state", "item", "place"] (defScope sWith) := ⟨rfl, rfl, rfl, by decide +kernel, rfl, by decide +kernel, by decide +kernel⟩
theorem ok_with {f aP : Addr} {fd : FuncData} (F : Fun K "with_place" "with_place" sWith f fd) (T : PartsF K w mg aP) : FnOk P w K mg base CX0 1 f fd ["state", "item", "place"] (spWith K) := by
  refine F.ok scWith (fun vs H Q E h => ?_) (fun cdv A outer s H vs Q E hr h => ?_)
  · obtain ⟨x, y, z, d, p, q, rfl, _⟩ := h
    rfl
  · obtain ⟨x, y, z, d, p, q, rfl, hx, hy, hz, hp, hL, k⟩ := h
    obtain ⟨a, v1, v2, v3, rfl, sa, d1, d2, d3⟩ := st_at hx
    obtain ⟨b, rfl, sb⟩ := it_at hy
    obtain ⟨vr, hr1, dr⟩ := row_at d1 d2 d3 p.1
    obtain ⟨ar, xr, rfl, sr, dlr, lr⟩ := pls_at dr
    have hL1 := hL.row p.1
    have l5 := sizeLine_eq
    have ix3 : p.1.ix < 3 := by cases p.1 <;> decide
    refine ⟨_, pss_cons (ps_asg (pv 1) (pg_tup (by rfl) (pgs_cons (pg_name (i := 3) scWith.nd rfl (.inl rfl)) (pgs_cons (pg_name (i := 4) scWith.nd rfl (.inl rfl)) pgs_nil))))
      (pss_cons (ps_set (i := 5) scWith.nd rfl (.inl rfl) (pe_ix ix_kdict (pe_glob (v := .ref aP) rfl T.m rfl) (pv 3) (fun _ _ => rfl)))
      (pss_cons (ps_set (i := 6) scWith.nd rfl (.inl rfl) (pe_ix ix_tup (pv 0) (pv 5) (fun _ _ => rfl)))
      (pss_cons (ps_set (i := 6) scWith.nd rfl (.inl rfl) (pe_op op_catA (pe_op op_catA (pe_slice sl_tupA (pv 6) po_none (po_some (pv 4))) (pe_tup (pa_cons (pv 2) pa_nil))) (pe_slice sl_tupA (pv 6) (po_some (pe_op op_add (pv 4) pe_int)) po_none)))
      (pss_one (ps_ret (pe_op op_catA (pe_op op_catA (pe_slice sl_tupA (pv 0) po_none (po_some (pv 5))) (pe_tup (pa_cons (pv 6) pa_nil))) (pe_slice sl_tupA (pv 0) (po_some (pe_op op_add (pv 5) pe_int)) po_none))))))), ?_⟩
    refine ⟨_, rfl, b, _, rfl, sb, rfl, _, _, rfl, _, _, rfl, rfl, ?_⟩
    refine ⟨_, rfl, aP, p.1.str, .int (p.1.ix : Nat), rfl, rfl, T.d p.1, ?_⟩
    refine ⟨_, rfl, _, rfl, a, _, _, _, rfl, rfl, sa, hr1, ?_⟩
    -- the row
    refine ⟨_, rfl, _, rfl, _, rfl, slA_by sr fun c1 H1 e1 s1 => ?_⟩
    rw [cut_to (by omega)] at s1
    refine ⟨_, rfl, (by show 1 ≤ sizeLine; decide), fun t1 ht1 => ?_⟩
    have f1 := same_upd (o := HO.tup [z]) ht1
    refine catA_by (SqT.same f1 s1) (SqT.of upd_same) (by rw [List.length_take]; simp; omega) fun c2 H2 e2 s2 => ?_
    have e12 := (e1.trans f1).trans e2
    refine ⟨_, rfl, _, rfl, _, _, rfl, rfl, _, rfl, ?_⟩
    dsimp only [tNoPart]
    refine slA_by (SqT.same e12 sr) fun c3 H3 e3 s3 => ?_
    rw [cut_from (by omega)] at s3
    refine catA_by (SqT.same e3 s2) s3 (by rw [List.length_append, List.length_take, List.length_drop]; simp; omega) fun c4 H4 e4 s4 => ?_
    rw [set_cut _ _ _ (by omega)] at s4
    have e14 := (e12.trans e3).trans e4
    have dn : Dp K H4 (.ref c4) (plsD ((rowOf d p.1).set p.2 q)) := .tup s4 (by rw [List.map_set]; exact DpAll.set (Dp.sames e14 _ _ dlr) (Dp.same e14 _ _ hz))
    -- the state
    refine ⟨_, rfl, _, rfl, _, rfl, slA_by (SqT.same e14 sa) fun c5 H5 e5 s5 => ?_⟩
    rw [cut_to (by show p.1.ix ≤ 3; omega)] at s5
    refine ⟨_, rfl, (by show 1 ≤ sizeLine; decide), fun t2 ht2 => ?_⟩
    have f2 := same_upd (o := HO.tup [V.ref c4]) ht2
    refine catA_by (SqT.same f2 s5) (SqT.of upd_same) (by rw [List.length_take]; simp; omega) fun c6 H6 e6 s6 => ?_
    have e56 := (e5.trans f2).trans e6
    refine ⟨_, rfl, _, rfl, _, _, rfl, rfl, _, rfl, ?_⟩
    dsimp only [tNoPart]
    refine slA_by (SqT.same (e14.trans e56) sa) fun c7 H7 e7 s7 => ?_
    rw [cut_from (by show p.1.ix < 3; exact ix3)] at s7
    refine catA_by (SqT.same e7 s6) s7 (by rw [List.length_append, List.length_take, List.length_drop]; simp; omega) fun c8 H8 e8 s8 => ?_
    rw [set_cut _ _ _ (by show p.1.ix < 3; exact ix3)] at s8
    have e58 := (e56.trans e7).trans e8
    have e18 := e14.trans e58
    refine k _ _ e18 ?_
    have dn' := Dp.same e58 _ _ dn
    have x1 := Dp.same e18 _ _ d1
    have x2 := Dp.same e18 _ _ d2
    have x3 := Dp.same e18 _ _ d3
    obtain ⟨kd, n⟩ := p
    cases kd
    · exact .tup s8 (.cons dn' (.cons x2 (.cons x3 .nil)))
    · exact .tup s8 (.cons x1 (.cons dn' (.cons x3 .nil)))
    · exact .tup s8 (.cons x1 (.cons x2 (.cons dn' .nil)))
/-! ### seal_on -/
def spOn (K : PySem.W.Frag) : Sp := fun vs H Q _ => ∃ (x : V) (b : Nat) (d : Hs), vs = [x, .int (b : Nat)] ∧ Dp K H x (stD d) ∧ ((Wd.box, (b : Int)) ∈ d.ss → ∀ H', Same H H' → Q (.int (onIx d b : Nat)) H') ∧ ((Wd.box, (b : Int)) ∉ d.ss → ∀ H', Same H H' → Q .non H')
theorem scOn : FnScope ["state", "box", "number", "place"] ["state", "box"] (defScope sOn) := ⟨rfl, rfl, rfl, by decide +kernel, rfl, by decide +kernel, by decide +kernel⟩
theorem on_eq {d : Hs} {b i : Nat} (h : d.ss[i]? = some (Wd.box, (b : Int))) (hn : ∀ (m : Nat) z, m < i → d.ss[m]? = some z → z ≠ (Wd.box, (b : Int))) : onIx d b = i := by
  unfold onIx
  obtain ⟨hi, he⟩ := List.getElem?_eq_some_iff.mp h
  have : d.ss.findIdx? (fun q => decide (q = (Wd.box, (b : Int)))) = some i := by
    rw [List.findIdx?_eq_some_iff_getElem]
    refine ⟨hi, by rw [he]; exact decide_eq_true rfl, fun j hj => ?_⟩
    have := hn j (d.ss[j]) hj (List.getElem?_eq_getElem (by omega))
    simpa using this
  rw [this]
  rfl
theorem ok_on {f : Addr} {fd : FuncData} (F : Fun K "seal_on" "seal_on" sOn f fd) (B : Bt mg) : FnOk P w K mg base CX0 1 f fd ["state", "box"] (spOn K) := by
  refine F.ok scOn (fun vs H Q E h => ?_) (fun cdv A outer s H vs Q E hr h => ?_)
  · obtain ⟨x, b, d, rfl, _⟩ := h
    rfl
  · obtain ⟨x, b, d, rfl, hx, k1, k2⟩ := h
    have hu : (cxOf CX0 P w K mg base ["state", "box", "number", "place"] "seal_on" (defScope sOn) f cdv A outer s H E).nox.A.units + 64 < cLine := by have := hr.un; show (A.deeper _).units + 64 < cLine; omega
    obtain ⟨a, v1, v2, v3, rfl, sa, d1, d2, d3⟩ := st_at hx
    obtain ⟨as, xs, rfl, ss, ds, ls⟩ := pls_at d3
    refine ⟨_, pss_cons (ps_for PassesOwn.never rfl (pi_enumT (by rfl) B.enu (pa_cons (pe_ix ix_tup (pv 0) pe_int (fun _ _ => rfl)) pa_nil)) (pg_tup (by rfl) (pgs_cons (pg_name (i := 2) scOn.nd rfl (.inl rfl)) (pgs_cons (pg_name (i := 3) scOn.nd rfl (.inl rfl)) pgs_nil)))
        (pss_one (ps_if (pt_cmpR (op_eqD hu) (pv 3) (pe_tup (pa_cons pe_str (pa_cons (pv 1) pa_nil))) (nomark _)) (pss_one (ps_ret (pv 2))) pss_nil)))
      (pss_one (ps_ret pe_non)), ?_⟩
    refine ⟨_, rfl, a, _, 2, _, rfl, rfl, sa, rfl, as, xs, rfl, ss, for_enumT (K := K) (a := as) (xs := xs) (fun i σ H2 => ∃ u1 u2 : Option V, σ = [some (.ref a), some (.int (b : Nat)), u1, u2] ∧ Same H H2 ∧ ∀ (m : Nat) z, m < i → d.ss[m]? = some z → z ≠ (Wd.box, (b : Int)))
      ⟨none, none, rfl, Same.refl H, fun m z h _ => absurd h (by omega)⟩ (fun i σ H2 _ ⟨_, _, _, e, _⟩ => SqT.same e ss) ?_ ?_⟩
    · rintro i y σ H2 T' hi ⟨u1, u2, rfl, e, hb⟩ hT
      obtain ⟨q, hq, hy⟩ := pls_get ds hi
      have f1 := same_upd (o := HO.tup [.int (i : Nat), y]) hT
      refine ⟨T', _, rfl, SqT.of upd_same, rfl, _, _, rfl, _, _, rfl, rfl, ?_⟩
      refine ⟨_, rfl, _, rfl, (by show 2 ≤ sizeLine; decide), fun t ht => ?_⟩
      have f2 := f1.trans (same_upd (o := HO.tup [.str ("box" : Str), .int (b : Nat)]) ht)
      refine ⟨plD q, plD (.box, (b : Int)), Dp.same (e.trans f2) _ _ hy, .tup (SqT.of upd_same) (.cons (.str _) (.cons (.int _) .nil)), shaped_pl _, shaped_pl _, _, rfl, ?_⟩
      rw [eqv_pl]
      by_cases c : q = (.box, (b : Int))
      · subst c
        rw [decide_eq_true rfl]
        refine iteT ⟨_, rfl, ?_⟩
        have := k1 (List.mem_of_getElem? hq) _ (e.trans f2)
        rw [on_eq hq hb] at this
        exact this
      · rw [decide_eq_false c]
        refine iteF ⟨_, _, rfl, e.trans f2, fun m z hm hz => ?_⟩
        by_cases cm : m = i
        · subst cm
          rw [hq] at hz
          cases hz
          exact c
        · exact hb m z (by omega) hz
    · rintro σ H2 ⟨u1, u2, rfl, e, hb⟩
      refine k2 (fun z => ?_) _ e
      obtain ⟨i, hi⟩ := mem_get z
      exact hb i _ (by have := (List.getElem?_eq_some_iff.mp hi).1; omega) hi rfl
end
end Kw



set_option Elab.async false
set_option linter.all false
set_option maxRecDepth 100000
set_option maxHeartbeats 4000000
namespace Kw
open PySem PySem.Spec PyProof.Rows L2
section
variable {P : Program} {w : World} {K : PySem.W.Frag} {mg : Str → Option Value} {base : Heap}
/-! ### need_held -/
def spHeld (K : PySem.W.Frag) (X : Addr) : Sp := fun vs H Q E => ∃ (x y : V) (h : Nat) (d : Hs) (p : It) (q : Pl), vs = [x, .int (h : Nat), y] ∧ Dp K H x (stD d) ∧ Dp K H y (itP p) ∧ whereD d p = some q ∧ h ≤ 1000 ∧ p.2 ≤ 1000 ∧
  (q ≠ (.hand, (h : Int)) → Rp X H E) ∧ (q = (.hand, (h : Int)) → ∀ H', Same H H' → Q .non H')
theorem scHeld : FnScope ["state", "hand", "item"] ["state", "hand", "item"] (defScope sHeld) := ⟨rfl, rfl, rfl, by decide +kernel, rfl, by decide +kernel, by decide +kernel⟩
structure PlF (P : Program) (w : World) (K : PySem.W.Frag) (mg : Str → Option Value) (base : Heap) (g : Addr) (fd : FuncData) : Prop where
  G : FnOk P w K mg base CX0 1 g fd ["state", "item"] (spWhere K)
  m : mg "place_in" = some (.ref g)
  k : PySem.W.keepIn K (.ref g) = true
  b : Binds K fd ["state", "item"] []
theorem ok_held {f g X : Addr} {fd fdg : FuncData} (F : Fun K "need_held" "need_held" sHeld f fd) (N : PlF P w K mg base g fdg) (X1 : PErr K mg "NotHeld" X) :
    FnOk P w K mg base (L2.CX P w) 2 f fd ["state", "hand", "item"] (spHeld K X) := by
  refine F.okX scHeld (fun vs H Q E h => ?_) (fun cdv A outer s H vs Q E hr h => ?_)
  · obtain ⟨x, y, h, d, p, q, rfl, _⟩ := h
    rfl
  · obtain ⟨x, y, h, d, p, q, rfl, hx, hy, hw, h1, h2, kE, kQ⟩ := h
    have hr1 : Room 1 _ := hr
    have tk : Takes (cxOf (L2.CX P w) P w K mg base ["state", "hand", "item"] "need_held" (defScope sHeld) f cdv A outer s H E) (fun cls d _ H => E cls d H) := takes_of rfl rfl rfl rfl
    have hu : (cxOf (L2.CX P w) P w K mg base ["state", "hand", "item"] "need_held" (defScope sHeld) f cdv A outer s H E).A.units + 64 < cLine := by have := hr.un; show (A.deeper _).units + 64 < cLine; omega
    refine ⟨_, pss_one (ps_if (pt_cmpR (op_neD hu) (pe_call N.G hr rfl N.m N.k N.b .nil pass0 (pa_cons (pv 0) (pa_cons (pv 2) pa_nil))) (pe_tup (pa_cons pe_str (pa_cons (pv 1) pa_nil))) (nomark _))
      (pss_one (ps_raise rfl tk (SkE.pmk_own1 PySem.F.excBase_ValueError X1.ex X1.mg X1.kp (raises_own X1.sb X1.ty) rfl (pe_joined (.cons pe_str (.cons (pe_fmt (pv 1)) (.cons pe_str (.cons (pe_fmtI hr1 (pv 2)) .nil)))))))) pss_nil), ?_⟩
    obtain ⟨ip, rfl, sp⟩ := it_at hy
    refine ⟨_, rfl, _, rfl, x, _, d, p, q, rfl, hx, hy, hw, fun v H1 e1 dv => ?_⟩
    refine ⟨_, rfl, (by show 2 ≤ sizeLine; decide), fun t ht => ?_⟩
    have f1 := same_upd (o := HO.tup [.str ("hand" : Str), .int (h : Nat)]) ht
    refine ⟨plD q, plD (.hand, (h : Int)), Dp.same f1 _ _ dv, .tup (SqT.of upd_same) (.cons (.str _) (.cons (.int _) .nil)), shaped_pl _, shaped_pl _, _, rfl, ?_⟩
    rw [eqv_pl]
    have e2 := e1.trans f1
    by_cases c : q = (.hand, (h : Int))
    · rw [decide_eq_true c]
      exact iteF (kQ c _ e2)
    · rw [decide_eq_false c]
      have l5 := sizeLine_eq
      have l1 : (Str.empty : Str).length = 0 := rfl
      have l2 : ("hand " : Str).length = 5 := by decide +kernel
      have l4 : (" does not hold " : Str).length = 15 := by decide +kernel
      have l3 := digits_small (i := (h : Nat)) (by omega) (by omega)
      exact iteT ⟨_, rfl, by rw [str_app]; omega, _, rfl, .inr ⟨_, rfl, log2_small (by omega) (by omega), _, rfl, by rw [str_app, str_app]; omega, _, rfl, by rw [str_app, str_app, str_app]; omega, _, rfl, ip, _, _, rfl, SqT.same e2 sp, (kd_len _).1, (kd_len _).2, by omega, by omega, fun m hm => ⟨_, rfl, by rw [str_app, str_app, str_app, str_app]; omega, kE c _ e2⟩⟩⟩
structure HeldF (P : Program) (w : World) (K : PySem.W.Frag) (mg : Str → Option Value) (base : Heap) (X g : Addr) (fd : FuncData) : Prop where
  G : FnOk P w K mg base (L2.CX P w) 2 g fd ["state", "hand", "item"] (spHeld K X)
  m : mg "need_held" = some (.ref g)
  k : PySem.W.keepIn K (.ref g) = true
  b : Binds K fd ["state", "hand", "item"] []
structure OnF (P : Program) (w : World) (K : PySem.W.Frag) (mg : Str → Option Value) (base : Heap) (g : Addr) (fd : FuncData) : Prop where
  G : FnOk P w K mg base CX0 1 g fd ["state", "box"] (spOn K)
  m : mg "seal_on" = some (.ref g)
  k : PySem.W.keepIn K (.ref g) = true
  b : Binds K fd ["state", "box"] []
structure WithF (P : Program) (w : World) (K : PySem.W.Frag) (mg : Str → Option Value) (base : Heap) (g : Addr) (fd : FuncData) : Prop where
  G : FnOk P w K mg base CX0 1 g fd ["state", "item", "place"] (spWith K)
  m : mg "with_place" = some (.ref g)
  k : PySem.W.keepIn K (.ref g) = true
  b : Binds K fd ["state", "item", "place"] []
/-! ### need_bare -/
def spBare (K : PySem.W.Frag) (XH XS : Addr) : Sp := fun vs H Q E => ∃ (x : V) (h b : Nat) (d : Hs), vs = [x, .int (h : Nat), .int (b : Nat)] ∧ Dp K H x (stD d) ∧ b < d.bs.length ∧ h ≤ 1000 ∧ b ≤ 1000 ∧
  (whereD d (.box, b) ≠ some (.hand, (h : Int)) → Rp XH H E) ∧ (whereD d (.box, b) = some (.hand, (h : Int)) → (Wd.box, (b : Int)) ∈ d.ss → Rp XS H E) ∧ (whereD d (.box, b) = some (.hand, (h : Int)) → (Wd.box, (b : Int)) ∉ d.ss → ∀ H', Same H H' → Q .non H')
theorem scBare : FnScope ["state", "hand", "box"] ["state", "hand", "box"] (defScope sBare) := ⟨rfl, rfl, rfl, by decide +kernel, rfl, by decide +kernel, by decide +kernel⟩
theorem ok_bare {f g g2 XH XS : Addr} {fd fdg fdg2 : FuncData} (F : Fun K "need_bare" "need_bare" sBare f fd) (N : HeldF P w K mg base XH g fdg) (O : OnF P w K mg base g2 fdg2) (X1 : PErr K mg "IsSealed" XS) :
    FnOk P w K mg base (L2.CX P w) 3 f fd ["state", "hand", "box"] (spBare K XH XS) := by
  refine F.okX scBare (fun vs H Q E h => ?_) (fun cdv A outer s H vs Q E hr h => ?_)
  · obtain ⟨x, h, b, d, rfl, _⟩ := h
    rfl
  · obtain ⟨x, h, b, d, rfl, hx, hb, h1, h2, kH, kS, kQ⟩ := h
    have hr1 : Room 1 _ := hr.mono (by decide)
    have tk : Takes (cxOf (L2.CX P w) P w K mg base ["state", "hand", "box"] "need_bare" (defScope sBare) f cdv A outer s H E) (fun cls d _ H => E cls d H) := takes_of rfl rfl rfl rfl
    refine ⟨_, pss_cons (ps_expr (pe_call N.G hr rfl N.m N.k N.b .nil (passes_call tk (fun _ _ _ _ h => h)) (pa_cons (pv 0) (pa_cons (pv 1) (pa_cons (pe_tup (pa_cons pe_str (pa_cons (pv 2) pa_nil))) pa_nil)))))
      (pss_one (ps_if (pt_cmp (pc_notN (pe_call O.G hr1 rfl O.m O.k O.b .nil pass0 (pa_cons (pv 0) (pa_cons (pv 2) pa_nil)))))
      (pss_one (ps_raise rfl tk (SkE.pmk_own1 PySem.F.excBase_ValueError X1.ex X1.mg X1.kp (raises_own X1.sb X1.ty) rfl (pe_joined (.cons pe_str (.cons (pe_fmt (pv 2)) (.cons pe_str .nil))))))) pss_nil)), ?_⟩
    obtain ⟨q, hq⟩ := where_box hb
    refine ⟨_, rfl, _, rfl, _, rfl, (by show 2 ≤ sizeLine; decide), fun t ht => ?_⟩
    have f1 := same_upd (o := HO.tup [.str ("box" : Str), .int (b : Nat)]) ht
    have dt : Dp K (L2.upd H t (.tup [.str ("box" : Str), .int (b : Nat)])) (.ref t) (itP (.box, b)) := .tup (SqT.of upd_same) (.cons (.str _) (.cons (.int _) .nil))
    generalize L2.upd H t (.tup [.str ("box" : Str), .int (b : Nat)]) = H1 at *
    refine ⟨x, .ref t, h, d, (.box, b), q, rfl, Dp.same f1 _ _ hx, dt, hq, h1, h2, fun c => (kH (by rw [hq]; exact fun z => c (Option.some.inj z))).same f1, fun c H2 e2 => ?_⟩
    have hq' : whereD d (.box, b) = some (.hand, (h : Int)) := by rw [hq, c]
    have e12 := f1.trans e2
    have l5 := sizeLine_eq
    have l1 : (Str.empty : Str).length = 0 := rfl
    have l2 : ("box " : Str).length = 4 := by decide +kernel
    have l4 : (" has a seal" : Str).length = 11 := by decide +kernel
    have l3 := digits_small (i := (b : Nat)) (by omega) (by omega)
    refine ⟨_, rfl, _, rfl, x, b, d, rfl, Dp.same e12 _ _ hx, fun hin H3 e3 => ?_, fun hno H3 e3 => ?_⟩
    · exact ⟨_, rfl, iteT ⟨_, rfl, by rw [str_app]; omega, _, rfl, .inr ⟨_, rfl, log2_small (by omega) (by omega), _, rfl, by rw [str_app, str_app]; omega, _, rfl, by rw [str_app, str_app, str_app]; omega, kS hq' hin _ (e12.trans e3)⟩⟩⟩
    · exact ⟨_, rfl, iteF (kQ hq' hno _ (e12.trans e3))⟩
structure BareF (P : Program) (w : World) (K : PySem.W.Frag) (mg : Str → Option Value) (base : Heap) (XH XS g : Addr) (fd : FuncData) : Prop where
  G : FnOk P w K mg base (L2.CX P w) 3 g fd ["state", "hand", "box"] (spBare K XH XS)
  m : mg "need_bare" = some (.ref g)
  k : PySem.W.keepIn K (.ref g) = true
  b : Binds K fd ["state", "hand", "box"] []
/-! ### state_behind_break -/
def spBreak (K : PySem.W.Frag) (XH XN : Addr) : Sp := fun vs H Q E => ∃ (x : V) (h b : Nat) (d : Hs), vs = [x, .int (h : Nat), .int (b : Nat)] ∧ Dp K H x (stD d) ∧ b < d.bs.length ∧ Ls d ∧ h ≤ 1000 ∧ b ≤ 1000 ∧
  (whereD d (.box, b) ≠ some (.hand, (h : Int)) → Rp XH H E) ∧ (whereD d (.box, b) = some (.hand, (h : Int)) → (Wd.box, (b : Int)) ∉ d.ss → Rp XN H E) ∧ (whereD d (.box, b) = some (.hand, (h : Int)) → (Wd.box, (b : Int)) ∈ d.ss → ∀ v H', Same H H' → Dp K H' v (stD (setD d (.sl, onIx d b) (.gone, 0))) → Q v H')
theorem scBreak : FnScope ["state", "hand", "box", "seal"] ["state", "hand", "box"] (defScope sBreak) := ⟨rfl, rfl, rfl, by decide +kernel, rfl, by decide +kernel, by decide +kernel⟩
theorem ok_break {f g g2 g3 XH XN : Addr} {fd fdg fdg2 fdg3 : FuncData} (F : Fun K "state_behind_break" "state_behind_break" sBreak f fd) (N : HeldF P w K mg base XH g fdg) (O : OnF P w K mg base g2 fdg2) (W : WithF P w K mg base g3 fdg3) (X1 : PErr K mg "NotSealed" XN) :
    FnOk P w K mg base (L2.CX P w) 3 f fd ["state", "hand", "box"] (spBreak K XH XN) := by
  refine F.okX scBreak (fun vs H Q E h => ?_) (fun cdv A outer s H vs Q E hr h => ?_)
  · obtain ⟨x, h, b, d, rfl, _⟩ := h
    rfl
  · obtain ⟨x, h, b, d, rfl, hx, hb, hL, h1, h2, kH, kS, kQ⟩ := h
    have hr1 : Room 1 _ := hr.mono (by decide)
    have tk : Takes (cxOf (L2.CX P w) P w K mg base ["state", "hand", "box", "seal"] "state_behind_break" (defScope sBreak) f cdv A outer s H E) (fun cls d _ H => E cls d H) := takes_of rfl rfl rfl rfl
    refine ⟨_, pss_cons (ps_expr (pe_call N.G hr rfl N.m N.k N.b .nil (passes_call tk (fun _ _ _ _ h => h)) (pa_cons (pv 0) (pa_cons (pv 1) (pa_cons (pe_tup (pa_cons pe_str (pa_cons (pv 2) pa_nil))) pa_nil)))))
      (pss_cons (ps_set (i := 3) scBreak.nd rfl (.inl rfl) (pe_call O.G hr1 rfl O.m O.k O.b .nil pass0 (pa_cons (pv 0) (pa_cons (pv 2) pa_nil))))
      (pss_cons (ps_if (pt_cmp (pc_isN (pv 3)))
      (pss_one (ps_raise rfl tk (SkE.pmk_own1 PySem.F.excBase_ValueError X1.ex X1.mg X1.kp (raises_own X1.sb X1.ty) rfl (pe_joined (.cons pe_str (.cons (pe_fmt (pv 2)) (.cons pe_str .nil))))))) pss_nil)
      (pss_one (ps_ret (pe_call W.G hr1 rfl W.m W.k W.b .nil pass0 (pa_cons (pv 0) (pa_cons (pe_tup (pa_cons pe_str (pa_cons (pv 3) pa_nil))) (pa_cons (pe_tup (pa_cons pe_str (pa_cons pe_int pa_nil))) pa_nil)))))))), ?_⟩
    obtain ⟨q, hq⟩ := where_box hb
    refine ⟨_, rfl, _, rfl, _, rfl, (by show 2 ≤ sizeLine; decide), fun t ht => ?_⟩
    have f1 := same_upd (o := HO.tup [.str ("box" : Str), .int (b : Nat)]) ht
    have dt : Dp K (L2.upd H t (.tup [.str ("box" : Str), .int (b : Nat)])) (.ref t) (itP (.box, b)) := .tup (SqT.of upd_same) (.cons (.str _) (.cons (.int _) .nil))
    generalize L2.upd H t (.tup [.str ("box" : Str), .int (b : Nat)]) = H1 at *
    refine ⟨x, .ref t, h, d, (.box, b), q, rfl, Dp.same f1 _ _ hx, dt, hq, h1, h2, fun c => (kH (by rw [hq]; exact fun z => c (Option.some.inj z))).same f1, fun c H2 e2 => ?_⟩
    have hq' : whereD d (.box, b) = some (.hand, (h : Int)) := by rw [hq, c]
    have e12 := f1.trans e2
    have l5 := sizeLine_eq
    have l1 : (Str.empty : Str).length = 0 := rfl
    have l2 : ("box " : Str).length = 4 := by decide +kernel
    have l4 : (" has no seal" : Str).length = 12 := by decide +kernel
    have l3 := digits_small (i := (b : Nat)) (by omega) (by omega)
    refine ⟨_, rfl, _, rfl, x, b, d, rfl, Dp.same e12 _ _ hx, fun hin H3 e3 => ?_, fun hno H3 e3 => ?_⟩
    · obtain ⟨⟨z, hz1, hz2⟩, _⟩ := on_some hin
      have e13 := e12.trans e3
      refine ⟨_, rfl, _, rfl, iteF ⟨_, rfl, _, rfl, (by show 2 ≤ sizeLine; decide), fun t1 ht1 => ⟨(by show 2 ≤ sizeLine; decide), fun t2 ht2 => ?_⟩⟩⟩
      have f2 := same_upd (o := HO.tup [.str ("seal" : Str), .int (onIx d b : Nat)]) ht1
      have f3 := same_upd (o := HO.tup [.str ("gone" : Str), .int 0]) ht2
      have e15 := (e13.trans f2).trans f3
      exact ⟨x, .ref t1, .ref t2, d, (.sl, onIx d b), (.gone, 0), rfl, Dp.same e15 _ _ hx, .tup (SqT.of (f3 _ _ upd_same)) (.cons (.str _) (.cons (.int _) .nil)), .tup (SqT.of upd_same) (.cons (.str _) (.cons (.int _) .nil)), where_lt (q := z) hz1, hL, fun v H' e dv => kQ hq' hin v H' (e15.trans e) dv⟩
    · exact ⟨_, rfl, _, rfl, iteT ⟨_, rfl, by rw [str_app]; omega, _, rfl, .inr ⟨_, rfl, log2_small (by omega) (by omega), _, rfl, by rw [str_app, str_app]; omega, _, rfl, by rw [str_app, str_app, str_app]; omega, kS hq' hno _ (e12.trans e3)⟩⟩⟩
structure BreakF (P : Program) (w : World) (K : PySem.W.Frag) (mg : Str → Option Value) (base : Heap) (XH XN g : Addr) (fd : FuncData) : Prop where
  G : FnOk P w K mg base (L2.CX P w) 3 g fd ["state", "hand", "box"] (spBreak K XH XN)
  m : mg "state_behind_break" = some (.ref g)
  k : PySem.W.keepIn K (.ref g) = true
  b : Binds K fd ["state", "hand", "box"] []
end
end Kw


set_option Elab.async false
set_option linter.all false
set_option maxRecDepth 100000
set_option maxHeartbeats 4000000
namespace Kw
open PySem PySem.Spec PyProof.Rows L2
theorem mGo_hit {w0 : Str} {rest : List V} {D : Ends} {σ : L2.St} {H : Hp} {c : MCase} {cs : List MCase} (h1 : c.slots.length = rest.length) (h2 : c.word = w0) (h : c.body D (setAll c.slots rest σ) H) : mGo w0 rest D σ H (c :: cs) := by
  show (if c.slots.length = rest.length ∧ c.word = w0 then _ else _)
  rw [if_pos ⟨h1, h2⟩]
  exact h
theorem mGo_miss {w0 : Str} {rest : List V} {D : Ends} {σ : L2.St} {H : Hp} {c : MCase} {cs : List MCase} (h2 : ¬ c.word = w0) (h : mGo w0 rest D σ H cs) : mGo w0 rest D σ H (c :: cs) := by
  show (if c.slots.length = rest.length ∧ c.word = w0 then _ else _)
  rw [if_neg (fun z => h2 z.2)]
  exact h
section
variable {P : Program} {w : World} {K : PySem.W.Frag} {mg : Str → Option Value} {base : Heap}
/-! ### state_behind -/
/-- the errors by their names -/
def spBehind (K : PySem.W.Frag) (ce : Str → Addr) : Sp := fun vs H Q E => ∃ (x y : V) (d : Hs) (e : Dd), vs = [x, y] ∧ Dp K H x (stD d) ∧ Dp K H y (ddD e) ∧ Kn d e ∧ Sm e ∧ Ls d ∧
  (∀ z, barOf d e = z → z ≠ "" → Rp (ce z) H E) ∧ (barOf d e = "" → ∀ v H', Same H H' → Dp K H' v (stD (nextOf d e)) → Q v H')
theorem scBehind : FnScope ["state", "deed", "hand", "item", "other", "box", "seal"] ["state", "deed"] (defScope sBehind) := ⟨rfl, rfl, rfl, by decide +kernel, rfl, by decide +kernel, by decide +kernel⟩
theorem nb1 : ("NotHeld" : Str) ≠ "" := by decide +kernel
theorem nb2 : ("IsSealed" : Str) ≠ "" := by decide +kernel
theorem nb3 : ("NotInside" : Str) ≠ "" := by decide +kernel
theorem nb4 : ("NotSealed" : Str) ≠ "" := by decide +kernel
theorem ok_behind {f gH gR gW gL gZ : Addr} {fd fdH fdR fdW fdL fdZ : FuncData} {ce : Str → Addr} (F : Fun K "state_behind" "state_behind" sBehind f fd) (N : HeldF P w K mg base (ce "NotHeld") gH fdH) (R : BareF P w K mg base (ce "NotHeld") (ce "IsSealed") gR fdR) (W : WithF P w K mg base gW fdW) (L : PlF P w K mg base gL fdL)
    (Z : BreakF P w K mg base (ce "NotHeld") (ce "NotSealed") gZ fdZ) (X1 : PErr K mg "NotInside" (ce "NotInside")) :
    FnOk P w K mg base (L2.CX P w) 4 f fd ["state", "deed"] (spBehind K ce) := by
  refine F.okX scBehind (fun vs H Q E h => ?_) (fun cdv A outer s H vs Q E hr h => ?_)
  · obtain ⟨x, y, d, e, rfl, _⟩ := h
    rfl
  · obtain ⟨x, y, d, e, rfl, hx, hy, hk, hm, hL, kE, kQ⟩ := h
    have hr1 : Room 1 _ := hr.mono (by decide)
    have hr2 : Room 2 _ := hr.mono (by decide)
    have hr3 : Room 3 _ := hr
    have tk : Takes (cxOf (L2.CX P w) P w K mg base ["state", "deed", "hand", "item", "other", "box", "seal"] "state_behind" (defScope sBehind) f cdv A outer s H E) (fun cls d _ H => E cls d H) := takes_of rfl rfl rfl rfl
    have hu : (cxOf (L2.CX P w) P w K mg base ["state", "deed", "hand", "item", "other", "box", "seal"] "state_behind" (defScope sBehind) f cdv A outer s H E).A.units + 64 < cLine := by have := hr.un; show (A.deeper _).units + 64 < cLine; omega
    refine ⟨_, (pss_cons (ps_match rfl scBehind.nd (pv 1) (.cons (.name (i := 2) rfl rfl (.name (i := 3) rfl rfl (.name (i := 4) rfl rfl .nil))) (pss_cons (ps_expr (pe_call N.G hr2 rfl N.m N.k N.b .nil (passes_call tk (fun _ _ _ _ h => h)) (pa_cons (pv 0) (pa_cons (pv 2) (pa_cons (pv 3) pa_nil)))))
        (pss_one (ps_ret (pe_call W.G hr1 rfl W.m W.k W.b .nil pass0 (pa_cons (pv 0) (pa_cons (pv 3) (pa_cons (pe_tup (pa_cons pe_str (pa_cons (pv 4) pa_nil))) pa_nil)))))))
      (.cons (.name (i := 2) rfl rfl (.name (i := 3) rfl rfl (.name (i := 5) rfl rfl .nil))) (pss_cons (ps_expr (pe_call N.G hr2 rfl N.m N.k N.b .nil (passes_call tk (fun _ _ _ _ h => h)) (pa_cons (pv 0) (pa_cons (pv 2) (pa_cons (pv 3) pa_nil)))))
        (pss_cons (ps_expr (pe_call R.G hr3 rfl R.m R.k R.b .nil (passes_call tk (fun _ _ _ _ h => h)) (pa_cons (pv 0) (pa_cons (pv 2) (pa_cons (pv 5) pa_nil)))))
        (pss_one (ps_ret (pe_call W.G hr1 rfl W.m W.k W.b .nil pass0 (pa_cons (pv 0) (pa_cons (pv 3) (pa_cons (pe_tup (pa_cons pe_str (pa_cons (pv 5) pa_nil))) pa_nil))))))))
      (.cons (.name (i := 2) rfl rfl (.name (i := 3) rfl rfl (.name (i := 5) rfl rfl .nil))) (pss_cons (ps_expr (pe_call R.G hr3 rfl R.m R.k R.b .nil (passes_call tk (fun _ _ _ _ h => h)) (pa_cons (pv 0) (pa_cons (pv 2) (pa_cons (pv 5) pa_nil)))))
        (pss_cons (ps_if (pt_cmpR (op_neD hu) (pe_call L.G hr1 rfl L.m L.k L.b .nil pass0 (pa_cons (pv 0) (pa_cons (pv 3) pa_nil))) (pe_tup (pa_cons pe_str (pa_cons (pv 5) pa_nil))) (nomark _)) (pss_one (ps_raise rfl tk (SkE.pmk_own1 PySem.F.excBase_ValueError X1.ex X1.mg X1.kp (raises_own X1.sb X1.ty) rfl (pe_joined (.cons (pe_fmtI hr1 (pv 3)) (.cons pe_str (.cons (pe_fmt (pv 5)) .nil))))))) pss_nil)
        (pss_one (ps_ret (pe_call W.G hr1 rfl W.m W.k W.b .nil pass0 (pa_cons (pv 0) (pa_cons (pv 3) (pa_cons (pe_tup (pa_cons pe_str (pa_cons (pv 2) pa_nil))) pa_nil))))))))
      (.cons (.name (i := 2) rfl rfl (.name (i := 5) rfl rfl (.name (i := 6) rfl rfl .nil))) (pss_cons (ps_expr (pe_call N.G hr2 rfl N.m N.k N.b .nil (passes_call tk (fun _ _ _ _ h => h)) (pa_cons (pv 0) (pa_cons (pv 2) (pa_cons (pe_tup (pa_cons pe_str (pa_cons (pv 6) pa_nil))) pa_nil)))))
        (pss_cons (ps_expr (pe_call R.G hr3 rfl R.m R.k R.b .nil (passes_call tk (fun _ _ _ _ h => h)) (pa_cons (pv 0) (pa_cons (pv 2) (pa_cons (pv 5) pa_nil)))))
        (pss_one (ps_ret (pe_call W.G hr1 rfl W.m W.k W.b .nil pass0 (pa_cons (pv 0) (pa_cons (pe_tup (pa_cons pe_str (pa_cons (pv 6) pa_nil))) (pa_cons (pe_tup (pa_cons pe_str (pa_cons (pv 5) pa_nil))) pa_nil))))))))
      .nil)))))
      (pss_one (ps_ret (pe_call Z.G hr3 rfl Z.m Z.k Z.b .nil (passes_call tk (fun _ _ _ _ h => h)) (pa_cons (pv 0) (pa_cons (pe_ix ix_tup (pv 1) pe_int (fun _ _ => rfl)) (pa_cons (pe_ix ix_tup (pv 1) pe_int (fun _ _ => rfl)) pa_nil))))))), ?_⟩
    obtain ⟨yd, vs, rfl, sy, dvs⟩ := dd_at hy
    have kH : ∀ z, barOf d e = z → z ≠ "" → Rp (ce z) H E := kE
    have tl : ∀ (H1 : Hp) (t : Addr) (wd : Wd) (n : Nat), H1 t = none → Dp K (L2.upd H1 t (.tup [.str wd.str, .int (n : Nat)])) (.ref t) (plD (wd, (n : Int))) := fun H1 t wd n h => .tup (SqT.of upd_same) (.cons (.str _) (.cons (.int _) .nil))
    refine ⟨_, rfl, yd, e.word, _, rfl, sy, ?_⟩
    cases e with
    | give h p o =>
      obtain ⟨m1, m2, m3⟩ := hm
      cases dvs with
      | cons dp r =>
      cases r with
      | cons do_ r =>
      cases r
      cases do_
      obtain ⟨q, hq⟩ := Option.isSome_iff_exists.mp (show (whereD d p).isSome from hk)
      have eb : barOf d (.give h p o) = if q = (.hand, (h : Int)) then ("" : Str) else ("NotHeld" : Str) := by
        simp only [barOf, hq, Option.some.injEq]
      dsimp only [Dd.word, Dd.hand] at *
      refine mGo_hit rfl rfl ?_
      refine ⟨_, rfl, _, rfl, _, rfl, x, _, h, d, p, q, rfl, hx, dp, hq, m1, m2, fun c => kE _ (by rw [eb, if_neg c]) nb1, fun c H1 e1 => ?_⟩
      refine ⟨_, rfl, _, rfl, _, rfl, (by show 2 ≤ sizeLine; decide), fun t ht => ?_⟩
      have f1 := same_upd (o := HO.tup [.str ("hand" : Str), .int (o : Nat)]) ht
      have e2 := e1.trans f1
      exact ⟨x, _, .ref t, d, p, (.hand, (o : Int)), rfl, Dp.same e2 _ _ hx, Dp.same e2 _ _ dp, tl _ t .hand o ht, where_lt hq, hL, fun v H' e dv => kQ (by rw [eb, if_pos c]) v H' (e2.trans e) dv⟩
    | put h p b =>
      obtain ⟨m1, m2, m3⟩ := hm
      obtain ⟨hk1, hb⟩ := hk
      cases dvs with
      | cons dp r =>
      cases r with
      | cons do_ r =>
      cases r
      cases do_
      obtain ⟨q, hq⟩ := Option.isSome_iff_exists.mp hk1
      dsimp only [Dd.word, Dd.hand] at *
      refine mGo_miss (by dsimp only; decide +kernel) (mGo_hit rfl rfl ?_)
      by_cases c0 : ¬ q = (.hand, (h : Int))
      · -- the item is not held: what comes first does not matter
        refine ⟨_, rfl, _, rfl, _, rfl, x, _, h, d, p, q, rfl, hx, dp, hq, m1, m2, fun c => kE _ ?_ nb1, fun c => absurd c c0⟩
        simp only [barOf, hq, Option.some.injEq, if_neg c0]
        split <;> rfl
      have c0 := Classical.not_not.mp c0
      refine ⟨_, rfl, _, rfl, _, rfl, x, _, h, d, p, q, rfl, hx, dp, hq, m1, m2, fun c => absurd c0 c, fun c H1 e1 => ?_⟩
      refine ⟨_, rfl, _, rfl, _, rfl, x, h, b, d, rfl, Dp.same e1 _ _ hx, hb, m1, m3, fun z => (kE _ ?_ nb1).same e1, fun z1 z2 => (kE _ ?_ nb2).same e1, fun z1 z2 H2 e2 => ?_⟩
      · simp only [barOf, if_neg z]
      · simp only [barOf, if_pos z1, hq, Option.some.injEq, if_pos c0, if_pos z2]
      have e12 := e1.trans e2
      refine ⟨_, rfl, _, rfl, _, rfl, (by show 2 ≤ sizeLine; decide), fun t ht => ?_⟩
      have f1 := same_upd (o := HO.tup [.str ("box" : Str), .int (b : Nat)]) ht
      have e3 := e12.trans f1
      refine ⟨x, _, .ref t, d, p, (.box, (b : Int)), rfl, Dp.same e3 _ _ hx, Dp.same e3 _ _ dp, tl _ t .box b ht, where_lt hq, hL, fun v H' e dv => kQ ?_ v H' (e3.trans e) dv⟩
      simp only [barOf, if_pos z1, hq, Option.some.injEq, if_pos c0, if_neg z2]
    | take h p b =>
      obtain ⟨m1, m2, m3⟩ := hm
      obtain ⟨hk1, hb⟩ := hk
      cases dvs with
      | cons dp r =>
      cases r with
      | cons do_ r =>
      cases r
      cases do_
      obtain ⟨q, hq⟩ := Option.isSome_iff_exists.mp hk1
      obtain ⟨ip, rfl, sp⟩ := it_at dp
      dsimp only [Dd.word, Dd.hand] at *
      refine mGo_miss (by dsimp only; decide +kernel) (mGo_miss (by dsimp only; decide +kernel) (mGo_hit rfl rfl ?_))
      refine ⟨_, rfl, _, rfl, _, rfl, x, h, b, d, rfl, hx, hb, m1, m3, fun z => kE _ ?_ nb1, fun z1 z2 => kE _ ?_ nb2, fun z1 z2 H2 e2 => ?_⟩
      · simp only [barOf, if_neg z]
      · simp only [barOf, if_pos z1, if_pos z2]
      refine ⟨_, rfl, _, rfl, x, _, d, p, q, rfl, Dp.same e2 _ _ hx, Dp.same e2 _ _ dp, hq, fun v H3 e3 dv => ?_⟩
      refine ⟨_, rfl, (by show 2 ≤ sizeLine; decide), fun t ht => ?_⟩
      have f1 := same_upd (o := HO.tup [.str ("box" : Str), .int (b : Nat)]) ht
      refine ⟨plD q, plD (.box, (b : Int)), Dp.same f1 _ _ dv, tl _ t .box b ht, shaped_pl _, shaped_pl _, _, rfl, ?_⟩
      rw [eqv_pl]
      have e4 := (e2.trans e3).trans f1
      by_cases c : q = (.box, (b : Int))
      · rw [decide_eq_true c]
        refine iteF ⟨_, rfl, _, rfl, _, rfl, (by show 2 ≤ sizeLine; decide), fun t2 ht2 => ?_⟩
        have f2 := same_upd (o := HO.tup [.str ("hand" : Str), .int (h : Nat)]) ht2
        have e5 := e4.trans f2
        refine ⟨x, _, .ref t2, d, p, (.hand, (h : Int)), rfl, Dp.same e5 _ _ hx, Dp.same e5 _ _ dp, tl _ t2 .hand h ht2, where_lt hq, hL, fun v H' e dv => kQ ?_ v H' (e5.trans e) dv⟩
        simp only [barOf, if_pos z1, if_neg z2, hq, Option.some.injEq, if_pos c]
      · rw [decide_eq_false c]
        have l5 := sizeLine_eq
        have l1 : (Str.empty : Str).length = 0 := rfl
        have l2 : (" is not straight in box " : Str).length = 24 := by decide +kernel
        have l3 := digits_small (i := (b : Nat)) (by omega) (by omega)
        refine iteT ⟨_, rfl, ip, _, _, rfl, SqT.same e4 sp, (kd_len _).1, (kd_len _).2, by omega, by omega, fun m hm => ⟨_, rfl, by rw [str_app]; omega, _, rfl, by rw [str_app, str_app]; omega, _, rfl, .inr ⟨_, rfl, log2_small (by omega) (by omega), _, rfl, by rw [str_app, str_app, str_app]; omega, kE _ ?_ nb3 _ e4⟩⟩⟩
        simp only [barOf, if_pos z1, if_neg z2, hq, Option.some.injEq, if_neg c]
    | lock h b s =>
      obtain ⟨m1, m2, m3⟩ := hm
      obtain ⟨hb, hsl⟩ := hk
      cases dvs with
      | cons dp r =>
      cases r with
      | cons do_ r =>
      cases r
      cases do_
      cases dp
      obtain ⟨q, hq⟩ : ∃ q, d.ss[s]? = some q := ⟨_, List.getElem?_eq_getElem hsl⟩
      have hq' : whereD d (.sl, s) = some q := hq
      dsimp only [Dd.word, Dd.hand] at *
      refine mGo_miss (by dsimp only; decide +kernel) (mGo_miss (by dsimp only; decide +kernel) (mGo_miss (by dsimp only; decide +kernel) (mGo_hit rfl rfl ?_)))
      refine ⟨_, rfl, _, rfl, _, rfl, (by show 2 ≤ sizeLine; decide), fun t1 ht1 => ?_⟩
      have f1 := same_upd (o := HO.tup [.str ("seal" : Str), .int (s : Nat)]) ht1
      have ds : Dp K (L2.upd H t1 (.tup [.str ("seal" : Str), .int (s : Nat)])) (.ref t1) (itP (.sl, s)) := .tup (SqT.of upd_same) (.cons (.str _) (.cons (.int _) .nil))
      by_cases c0 : ¬ q = (.hand, (h : Int))
      · refine ⟨x, .ref t1, h, d, (.sl, s), q, rfl, Dp.same f1 _ _ hx, ds, hq', m1, m3, fun c => (kE _ ?_ nb1).same f1, fun c => absurd c c0⟩
        simp only [barOf, hq, Option.some.injEq, if_neg c0]
        split <;> rfl
      have c0 := Classical.not_not.mp c0
      refine ⟨x, .ref t1, h, d, (.sl, s), q, rfl, Dp.same f1 _ _ hx, ds, hq', m1, m3, fun c => absurd c0 c, fun c H1 e1 => ?_⟩
      have e1 := f1.trans e1
      refine ⟨_, rfl, _, rfl, _, rfl, x, h, b, d, rfl, Dp.same e1 _ _ hx, hb, m1, m2, fun z => (kE _ ?_ nb1).same e1, fun z1 z2 => (kE _ ?_ nb2).same e1, fun z1 z2 H2 e2 => ?_⟩
      · simp only [barOf, if_neg z]
      · simp only [barOf, if_pos z1, hq, Option.some.injEq, if_pos c0, if_pos z2]
      have e12 := e1.trans e2
      refine ⟨_, rfl, _, rfl, (by show 2 ≤ sizeLine; decide), fun t2 ht2 => ?_⟩
      have f2 := same_upd (o := HO.tup [.str ("seal" : Str), .int (s : Nat)]) ht2
      have ds2 : Dp K (L2.upd H2 t2 (.tup [.str ("seal" : Str), .int (s : Nat)])) (.ref t2) (itP (.sl, s)) := .tup (SqT.of upd_same) (.cons (.str _) (.cons (.int _) .nil))
      refine ⟨_, rfl, (by show 2 ≤ sizeLine; decide), fun t ht => ?_⟩
      have f3 := same_upd (o := HO.tup [.str ("box" : Str), .int (b : Nat)]) ht
      have e3 := (e12.trans f2).trans f3
      refine ⟨x, .ref t2, .ref t, d, (.sl, s), (.box, (b : Int)), rfl, Dp.same e3 _ _ hx, Dp.same f3 _ _ ds2, tl _ t .box b ht, hsl, hL, fun v H' e dv => kQ ?_ v H' (e3.trans e) dv⟩
      simp only [barOf, if_pos z1, hq, Option.some.injEq, if_pos c0, if_neg z2]
    | brk h b =>
      obtain ⟨m1, m2⟩ := hm
      have hb : b < d.bs.length := hk
      cases dvs with
      | cons dp r =>
      cases r
      cases dp
      dsimp only [Dd.word, Dd.hand] at *
      refine mGo_miss (by dsimp only; decide +kernel) (mGo_miss (by dsimp only; decide +kernel) (mGo_miss (by dsimp only; decide +kernel) (mGo_miss (by dsimp only; decide +kernel) ?_)))
      refine ⟨_, rfl, _, rfl, yd, _, 1, _, rfl, rfl, sy, rfl, _, rfl, yd, _, 2, _, rfl, rfl, sy, rfl, x, h, b, d, rfl, hx, hb, hL, m1, m2, fun z => kE _ ?_ nb1, fun z1 z2 => kE _ ?_ nb4, fun z1 z2 v H' e dv => kQ ?_ v H' e dv⟩
      · simp only [barOf, if_neg z]
      · simp only [barOf, if_pos z1, if_neg z2]
      · simp only [barOf, if_pos z1, if_pos z2]
/-! ### need_move, need_deed -/
structure NLoadF (P : Program) (w : World) (K : PySem.W.Frag) (mg : Str → Option Value) (base : Heap) (C X g : Addr) (fd : FuncData) : Prop where
  G : FnOk P w K mg base (L2N.CX P w) 3 g fd ["house", "item"] (spNLoad K C X)
  m : mg "need_load" = some (.ref g)
  k : PySem.W.keepIn K (.ref g) = true
  b : Binds K fd ["house", "item"] []
structure NItemF (P : Program) (w : World) (K : PySem.W.Frag) (mg : Str → Option Value) (base : Heap) (C X g : Addr) (fd : FuncData) : Prop where
  G : FnOk P w K mg base (L2N.CX P w) 3 g fd ["house", "item"] (spNItem K C X)
  m : mg "need_item" = some (.ref g)
  k : PySem.W.keepIn K (.ref g) = true
  b : Binds K fd ["house", "item"] []
structure NHandF (P : Program) (w : World) (K : PySem.W.Frag) (mg : Str → Option Value) (base : Heap) (C X g : Addr) (fd : FuncData) : Prop where
  G : FnOk P w K mg base (L2N.CX P w) 2 g fd ["house", "hand"] (spNHand K C X)
  m : mg "need_hand" = some (.ref g)
  k : PySem.W.keepIn K (.ref g) = true
  b : Binds K fd ["house", "hand"] []
structure NBoxF (P : Program) (w : World) (K : PySem.W.Frag) (mg : Str → Option Value) (base : Heap) (C X g : Addr) (fd : FuncData) : Prop where
  G : FnOk P w K mg base (L2N.CX P w) 2 g fd ["house", "box"] (spNBox K C X)
  m : mg "need_box" = some (.ref g)
  k : PySem.W.keepIn K (.ref g) = true
  b : Binds K fd ["house", "box"] []
structure NSealF (P : Program) (w : World) (K : PySem.W.Frag) (mg : Str → Option Value) (base : Heap) (C X g : Addr) (fd : FuncData) : Prop where
  G : FnOk P w K mg base (L2N.CX P w) 2 g fd ["house", "seal"] (spNSeal K C X)
  m : mg "need_seal" = some (.ref g)
  k : PySem.W.keepIn K (.ref g) = true
  b : Binds K fd ["house", "seal"] []
def mvOf (d : Hs) (p : It) (b : Nat) : Str := if ¬ inH d p ∨ p.1 = .sl then "UnknownItem" else if d.bs.length ≤ b then "UnknownBox" else if p = (.box, b) then "InsideItself" else ""
def spNMove (K : PySem.W.Frag) (C : Addr) (ce : Str → Addr) : Sp := fun vs H Q E => ∃ (h : Addr) (y : V) (p : It) (b : Nat) (d : Hs), vs = [.ref h, y, .int (b : Nat)] ∧ HouseAt K C H h d ∧ Dp K H y (itP p) ∧ p.2 ≤ 1000 ∧ b ≤ 1000 ∧
  (∀ z, mvOf d p b = z → z ≠ "" → Rp (ce z) H E) ∧ (mvOf d p b = "" → ∀ H', Same H H' → Q .non H')
theorem scNMove : FnScope ["house", "item", "box"] ["house", "item", "box"] (defScope sNMove) := ⟨rfl, rfl, rfl, by decide +kernel, rfl, by decide +kernel, by decide +kernel⟩
theorem ok_nmove {f g1 g2 C : Addr} {fd fd1 fd2 : FuncData} {ce : Str → Addr} (F : Fun K "need_move" "need_move" sNMove f fd) (NL : NLoadF P w K mg base C (ce "UnknownItem") g1 fd1) (NB : NBoxF P w K mg base C (ce "UnknownBox") g2 fd2) (X1 : PErr K mg "InsideItself" (ce "InsideItself")) :
    FnOk P w K mg base (L2N.CX P w) 4 f fd ["house", "item", "box"] (spNMove K C ce) := by
  refine okN F scNMove (fun vs H Q E h => ?_) (fun cdv A outer s H vs Q E hr h => ?_)
  · obtain ⟨h, y, p, b, d, rfl, _⟩ := h
    rfl
  · obtain ⟨h, y, p, b, d, rfl, hh, hy, m1, m2, kE, kQ⟩ := h
    have hr2 : Room 2 _ := hr.mono (by decide)
    have hr3 : Room 3 _ := hr
    have tk : L2N.Takes (cxOf (L2N.CX P w) P w K mg base ["house", "item", "box"] "need_move" (defScope sNMove) f cdv A outer s H E) (fun cls d _ H => E cls d H) := L2N.takes_of rfl rfl rfl rfl
    have hu : (cxOf (L2N.CX P w) P w K mg base ["house", "item", "box"] "need_move" (defScope sNMove) f cdv A outer s H E).A.units + 64 < cLine := by have := hr.un; show (A.deeper _).units + 64 < cLine; omega
    refine ⟨_, (pss_cons (ps_expr (pe_call NL.G hr3 rfl NL.m NL.k NL.b .nil (L2N.passes_call tk (fun _ _ _ _ h => h)) (pa_cons (pv 0) (pa_cons (pv 1) pa_nil))))
        (pss_cons (ps_expr (pe_call NB.G hr2 rfl NB.m NB.k NB.b .nil (L2N.passes_call tk (fun _ _ _ _ h => h)) (pa_cons (pv 0) (pa_cons (pv 2) pa_nil))))
        (pss_one (ps_if (pt_cmpR (op_eqD hu) (pv 1) (pe_tup (pa_cons pe_str (pa_cons (pv 2) pa_nil))) (nomark _)) (pss_one (L2N.ps_raise rfl tk (pmk_own1N PySem.F.excBase_ValueError X1.ex X1.mg X1.kp (raises_own X1.sb X1.ty) rfl (pe_joined (.cons pe_str (.cons (pe_fmt (pv 2)) (.cons pe_str .nil))))))) pss_nil)))), ?_⟩
    refine ⟨_, rfl, _, rfl, h, y, p, d, rfl, hh, hy, m1, fun z => kE _ (by unfold mvOf; rw [if_pos z]) ne_e2, fun z => ?_⟩
    refine ⟨_, rfl, _, rfl, h, b, d, rfl, hh, m2, fun z2 => kE _ (by unfold mvOf; rw [if_neg z, if_pos z2]) ne_e3, fun z2 => ?_⟩
    refine ⟨_, rfl, _, rfl, (by show 2 ≤ sizeLine; decide), fun t ht => ?_⟩
    have f1 := same_upd (o := HO.tup [.str ("box" : Str), .int (b : Nat)]) ht
    refine ⟨itP p, itP (.box, b), Dp.same f1 _ _ hy, .tup (SqT.of upd_same) (.cons (.str _) (.cons (.int _) .nil)), shaped_it _, shaped_it _, _, rfl, ?_⟩
    rw [eqv_it]
    have z3 : ¬ d.bs.length ≤ b := by omega
    by_cases c : p = (.box, b)
    · rw [decide_eq_true c]
      have l5 := sizeLine_eq
      have l1 : (Str.empty : Str).length = 0 := rfl
      have l2 : ("box " : Str).length = 4 := by decide +kernel
      have l4 : (" cannot be inside itself" : Str).length = 24 := by decide +kernel
      have l3 := digits_small (i := (b : Nat)) (by omega) (by omega)
      exact iteT ⟨_, rfl, by rw [str_app]; omega, _, rfl, .inr ⟨_, rfl, log2_small (by omega) (by omega), _, rfl, by rw [str_app, str_app]; omega, _, rfl, by rw [str_app, str_app, str_app]; omega, kE _ (by unfold mvOf; rw [if_neg z, if_neg z3, if_pos c]) ne_e4 _ f1⟩⟩
    · rw [decide_eq_false c]
      exact iteF (kQ (by unfold mvOf; rw [if_neg z, if_neg z3, if_neg c]) _ f1)
structure NMoveF (P : Program) (w : World) (K : PySem.W.Frag) (mg : Str → Option Value) (base : Heap) (C : Addr) (ce : Str → Addr) (g : Addr) (fd : FuncData) : Prop where
  G : FnOk P w K mg base (L2N.CX P w) 4 g fd ["house", "item", "box"] (spNMove K C ce)
  m : mg "need_move" = some (.ref g)
  k : PySem.W.keepIn K (.ref g) = true
  b : Binds K fd ["house", "item", "box"] []
def spNDeed (K : PySem.W.Frag) (C : Addr) (ce : Str → Addr) : Sp := fun vs H Q E => ∃ (h : Addr) (y : V) (e : Dd) (d : Hs), vs = [.ref h, y] ∧ HouseAt K C H h d ∧ Dp K H y (ddD e) ∧ Sm e ∧
  (∀ z, unkOf d e = z → z ≠ "" → Rp (ce z) H E) ∧ (unkOf d e = "" → ∀ H', Same H H' → Q .non H')
theorem scNDeed : FnScope ["house", "deed", "hand", "item", "other", "box", "seal"] ["house", "deed"] (defScope sNDeed) := ⟨rfl, rfl, rfl, by decide +kernel, rfl, by decide +kernel, by decide +kernel⟩
theorem sm_hand {e : Dd} (h : Sm e) : e.hand ≤ 1000 := by cases e <;> exact h.1
theorem ok_ndeed {f gI gH gM gB gS C : Addr} {fd fdI fdH fdM fdB fdS : FuncData} {ce : Str → Addr} (F : Fun K "need_deed" "need_deed" sNDeed f fd) (NI : NItemF P w K mg base C (ce "UnknownItem") gI fdI) (NH : NHandF P w K mg base C (ce "UnknownHand") gH fdH) (NM : NMoveF P w K mg base C ce gM fdM)
    (NB : NBoxF P w K mg base C (ce "UnknownBox") gB fdB) (NS : NSealF P w K mg base C (ce "UnknownSeal") gS fdS) (X1 : PErr K mg "UnknownHand" (ce "UnknownHand")) :
    FnOk P w K mg base (L2N.CX P w) 5 f fd ["house", "deed"] (spNDeed K C ce) := by
  refine okN F scNDeed (fun vs H Q E h => ?_) (fun cdv A outer s H vs Q E hr h => ?_)
  · obtain ⟨h, y, e, d, rfl, _⟩ := h
    rfl
  · obtain ⟨h, y, e, d, rfl, hh, hy, hm, kE, kQ⟩ := h
    have hr2 : Room 2 _ := hr.mono (by decide)
    have hr3 : Room 3 _ := hr.mono (by decide)
    have hr4 : Room 4 _ := hr
    have tk : L2N.Takes (cxOf (L2N.CX P w) P w K mg base ["house", "deed", "hand", "item", "other", "box", "seal"] "need_deed" (defScope sNDeed) f cdv A outer s H E) (fun cls d _ H => E cls d H) := L2N.takes_of rfl rfl rfl rfl
    refine ⟨_, (pss_cons (ps_expr (pe_call NH.G hr2 rfl NH.m NH.k NH.b .nil (L2N.passes_call tk (fun _ _ _ _ h => h)) (pa_cons (pv 0) (pa_cons (pe_ix ix_tup (pv 1) pe_int (fun _ _ => rfl)) pa_nil))))
      (pss_one (ps_match rfl scNDeed.nd (pv 1) (.cons (.name (i := 2) rfl rfl (.name (i := 3) rfl rfl (.name (i := 4) rfl rfl .nil))) (pss_cons (ps_expr (pe_call NI.G hr3 rfl NI.m NI.k NI.b .nil (L2N.passes_call tk (fun _ _ _ _ h => h)) (pa_cons (pv 0) (pa_cons (pv 3) pa_nil))))
        (pss_cons (ps_expr (pe_call NH.G hr2 rfl NH.m NH.k NH.b .nil (L2N.passes_call tk (fun _ _ _ _ h => h)) (pa_cons (pv 0) (pa_cons (pv 4) pa_nil))))
        (pss_one (ps_if (pt_cmpR op_eq (pv 2) (pv 4) (nomark _)) (pss_one (L2N.ps_raise rfl tk (pmk_own1N PySem.F.excBase_ValueError X1.ex X1.mg X1.kp (raises_own X1.sb X1.ty) rfl (pe_joined (.cons pe_str (.cons (pe_fmt (pv 2)) (.cons pe_str .nil))))))) pss_nil))))
      (.cons (.wild (.name (i := 3) rfl rfl (.name (i := 5) rfl rfl .nil))) (pss_one (ps_expr (pe_call NM.G hr4 rfl NM.m NM.k NM.b .nil (L2N.passes_call tk (fun _ _ _ _ h => h)) (pa_cons (pv 0) (pa_cons (pv 3) (pa_cons (pv 5) pa_nil))))))
      (.cons (.wild (.name (i := 3) rfl rfl (.name (i := 5) rfl rfl .nil))) (pss_one (ps_expr (pe_call NM.G hr4 rfl NM.m NM.k NM.b .nil (L2N.passes_call tk (fun _ _ _ _ h => h)) (pa_cons (pv 0) (pa_cons (pv 3) (pa_cons (pv 5) pa_nil))))))
      (.cons (.wild (.name (i := 5) rfl rfl (.name (i := 6) rfl rfl .nil))) (pss_cons (ps_expr (pe_call NB.G hr2 rfl NB.m NB.k NB.b .nil (L2N.passes_call tk (fun _ _ _ _ h => h)) (pa_cons (pv 0) (pa_cons (pv 5) pa_nil))))
        (pss_one (ps_expr (pe_call NS.G hr2 rfl NS.m NS.k NS.b .nil (L2N.passes_call tk (fun _ _ _ _ h => h)) (pa_cons (pv 0) (pa_cons (pv 6) pa_nil))))))
      (.cons (.wild (.name (i := 5) rfl rfl .nil)) (pss_one (ps_expr (pe_call NB.G hr2 rfl NB.m NB.k NB.b .nil (L2N.passes_call tk (fun _ _ _ _ h => h)) (pa_cons (pv 0) (pa_cons (pv 5) pa_nil)))))
      .nil)))))))), ?_⟩
    obtain ⟨yd, vs, rfl, sy, dvs⟩ := dd_at hy
    have sh := sm_hand hm
    have z1 := Same.refl H
    unfold unkOf at kE kQ
    refine ⟨_, rfl, _, rfl, yd, _, 1, _, rfl, rfl, sy, atI_nat (j := 1) rfl, h, (e.hand : Nat), d, rfl, hh, by omega, by omega, fun z => kE _ (if_pos z) ne_e1, fun z => ?_⟩
    have z' : ¬ d.hands ≤ ((e.hand : Nat) : Int) := by omega
    simp only [if_neg z'] at kE kQ
    refine ⟨_, rfl, yd, e.word, _, rfl, sy, ?_⟩
    cases e with
    | give hd p o =>
      obtain ⟨m1, m2, m3⟩ := hm
      cases dvs with
      | cons dp r =>
      cases r with
      | cons do_ r =>
      cases r
      cases do_
      dsimp only [Dd.word, Dd.hand] at *
      refine mGo_hit rfl rfl ?_
      refine ⟨_, rfl, _, rfl, h, _, p, d, rfl, hh, dp, m2, fun c => kE _ (if_pos c) ne_e2, fun c => ?_⟩
      have c' : ¬ ¬ inH d p := fun q => q c
      simp only [if_neg c'] at kE kQ
      refine ⟨_, rfl, _, rfl, h, (o : Nat), d, rfl, hh, by omega, by omega, fun c2 => kE _ (if_pos (.inl c2)) ne_e1, fun c2 => ?_⟩
      refine ⟨_, rfl, _, rfl, rfl, _, rfl, ?_⟩
      rw [decZ]
      by_cases c3 : ((hd : Nat) : Int) = ((o : Nat) : Int)
      · rw [decide_eq_true c3]
        have l5 := sizeLine_eq
        have l1 : (Str.empty : Str).length = 0 := rfl
        have l2 : ("hand " : Str).length = 5 := by decide +kernel
        have l4 : (" gives to itself" : Str).length = 16 := by decide +kernel
        have l3 := digits_small (i := (hd : Nat)) (by omega) (by omega)
        exact iteT ⟨_, rfl, by rw [str_app]; omega, _, rfl, .inr ⟨_, rfl, log2_small (by omega) (by omega), _, rfl, by rw [str_app, str_app]; omega, _, rfl, by rw [str_app, str_app, str_app]; omega, kE _ (if_pos (.inr (by omega))) ne_e1 _ z1⟩⟩
      · rw [decide_eq_false c3]
        exact iteF (kQ (if_neg fun q => q.elim (fun a => by omega) (fun a => c3 (by omega))) _ z1)
    | put hd p b =>
      obtain ⟨m1, m2, m3⟩ := hm
      cases dvs with
      | cons dp r =>
      cases r with
      | cons do_ r =>
      cases r
      cases do_
      dsimp only [Dd.word, Dd.hand] at *
      refine mGo_miss (by dsimp only; decide +kernel) (mGo_hit rfl rfl ?_)
      exact ⟨_, rfl, _, rfl, _, rfl, h, _, p, b, d, rfl, hh, dp, m2, m3, kE, kQ⟩
    | take hd p b =>
      obtain ⟨m1, m2, m3⟩ := hm
      cases dvs with
      | cons dp r =>
      cases r with
      | cons do_ r =>
      cases r
      cases do_
      dsimp only [Dd.word, Dd.hand] at *
      refine mGo_miss (by dsimp only; decide +kernel) (mGo_miss (by dsimp only; decide +kernel) (mGo_hit rfl rfl ?_))
      exact ⟨_, rfl, _, rfl, _, rfl, h, _, p, b, d, rfl, hh, dp, m2, m3, kE, kQ⟩
    | lock hd b s =>
      obtain ⟨m1, m2, m3⟩ := hm
      cases dvs with
      | cons dp r =>
      cases r with
      | cons do_ r =>
      cases r
      cases do_
      cases dp
      dsimp only [Dd.word, Dd.hand] at *
      refine mGo_miss (by dsimp only; decide +kernel) (mGo_miss (by dsimp only; decide +kernel) (mGo_miss (by dsimp only; decide +kernel) (mGo_hit rfl rfl ?_)))
      refine ⟨_, rfl, _, rfl, h, b, d, rfl, hh, m2, fun c => kE _ (if_pos c) ne_e3, fun c => ?_⟩
      have c' : ¬ d.bs.length ≤ b := by omega
      simp only [if_neg c'] at kE kQ
      exact ⟨_, rfl, _, rfl, h, s, d, rfl, hh, m3, fun c2 => kE _ (if_pos c2) ne_e5, fun c2 => kQ (if_neg (by omega)) _ z1⟩
    | brk hd b =>
      obtain ⟨m1, m2⟩ := hm
      cases dvs with
      | cons dp r =>
      cases r
      cases dp
      dsimp only [Dd.word, Dd.hand] at *
      refine mGo_miss (by dsimp only; decide +kernel) (mGo_miss (by dsimp only; decide +kernel) (mGo_miss (by dsimp only; decide +kernel) (mGo_miss (by dsimp only; decide +kernel) (mGo_hit rfl rfl ?_))))
      exact ⟨_, rfl, _, rfl, h, b, d, rfl, hh, m2, fun c => kE _ (if_pos c) ne_e3, fun c => kQ (if_neg (by omega)) _ z1⟩
end
end Kw



set_option Elab.async false
set_option linter.all false
set_option maxRecDepth 100000
set_option maxHeartbeats 4000000
namespace Kw
open PySem PySem.Spec PyProof.Rows L2
/-! ### _law_error, of any of the plain errors -/
def Known (K : PySem.W.Frag) (mg : Str → Option Value) (ce : Str → Addr) (CW : Addr) (z : Str) : Prop := ∃ j, ErrJ K mg (ce z) CW j ∧ j < 15 ∧ (j ≠ 2 ∧ j ≠ 3 ∧ j ≠ 4) ∧ nameJ j = z
def errOutG (K : PySem.W.Frag) (mg : Str → Option Value) (ce : Str → Addr) (CW : Addr) (Q : VK) : XK := fun cls d H' => ∃ z, cls = .ref (ce z) ∧ Known K mg ce CW z ∧ d = none ∧ ∀ H2, Same H' H2 → Q (.str z) H2
def TErrG (K : PySem.W.Frag) (mg : Str → Option Value) (ce : Str → Addr) (CW : Addr) : (XK → Hp → VK → Prop) → Hp → VK → Prop := fun tl H Q => tl (errOutG K mg ce CW Q) H (fun _ H' => Q (.str "") H')
theorem errG_gives {X : Cx} {g CW : Addr} {cdg : Value} {q : Str} {ce : Str → Addr} (hw : X.mg "WatchError" = some (.ref CW)) (B : Bt X.mg) : LamX.GivesTo X ["_law_work", "error", "_law_kinds", "_law_names", "_law_name"] "_law_error" (defScope sErr) g cdg (defBody sErr) "_law_work" q (TErrG X.K X.mg ce CW) := by
  intro f c' s H Q tl act hc h
  have hgl : Gl (cxOf C8.CX0 X.prog X.w X.K X.mg X.base ["_law_work", "error", "_law_kinds", "_law_names", "_law_name"] "_law_error" (defScope sErr) g cdg X.A X.stack s H C8.E0).nox "WatchError" := rfl
  refine ⟨_, pss_cons (ps_try_as (X := (cxOf C8.CX0 X.prog X.w X.K X.mg X.base ["_law_work", "error", "_law_kinds", "_law_names", "_law_name"] "_law_error" (defScope sErr) g cdg X.A X.stack s H C8.E0).nox) (c := .ref CW) (i := 1)
      (tb := fun W D σ H => ∃ Ech : XK, (∀ cls d σ' H', Ech cls d H' → W cls d σ' H') ∧ σ[0]? = some (some (.ref f)) ∧ H c' = some (LamX.CodeO c' q) ∧ tl Ech H (fun _ H' => D.nx σ H'))
      (ts := fun a cls d D σ H => ∃ z, cls = .ref (ce z) ∧ Known X.K X.mg ce CW z ∧ d = none ∧ ∃ (σ0 : L2.St), σ = σ0.set 1 (some (.ref a)) ∧ ∀ H2, Same H H2 → D.rt (.str z) H2)
      rfl rfl scErr.nd rfl rfl ⟨hgl, by decide, .inl hw⟩ LamX.takes0 (fun W pn xe tk _ => ?_) (fun a oe cls d pn hz hf => ?_)) (pss_one (ps_ret pe_str)), ?_⟩
  · refine ⟨fun pins s' σ H' D I h' => ?_⟩
    obtain ⟨Ech, hW, h1, h2, h3⟩ := h'
    exact (pss_one (ps_expr (act W pn xe Ech _ _ tk hW))).run pins s' σ H' D I ⟨h1, h2, h3⟩
  · refine ⟨fun pins s' σ H' D I h' => ?_⟩
    obtain ⟨z, rfl, ⟨j, T, hj, hn, ez⟩, rfl, σ0, hσ, k⟩ := h'
    have hl : σ0.length = 5 := by
      have q := I.len
      rw [hσ, List.length_set] at q
      exact q
    obtain ⟨v0, v1, v2, v3, v4, e5⟩ : ∃ v0 v1 v2 v3 v4, σ0 = [v0, v1, v2, v3, v4] := by
      match σ0, hl with
      | [v0, v1, v2, v3, v4], _ => exact ⟨v0, v1, v2, v3, v4, rfl⟩
    rw [e5] at hσ
    subst ez
    obtain ⟨t, ht, hq⟩ := err_suiteG (P := X.prog) (w := X.w) (K := X.K) (mg := X.mg) (base := X.base) (g := g) (cdg := cdg) (A := X.A) (outer := X.stack) (s0 := s) (H0 := H) T hj hn B hz hf D σ H' v0 v2 v3 v4 hσ (fun d e => by cases e) k
    exact ht.run pins s' σ H' D I hq
  · refine ⟨errOutG X.K X.mg ce CW Q, fun cls d σ' H' ⟨z, e1, kn, e2, k⟩ => ?_, rfl, hc, h⟩
    obtain ⟨j, T, hj, hn, ez⟩ := id kn
    exact ⟨true, by rw [e1]; exact T.exm, fun _ a ha => ⟨z, e1, kn, e2, σ', rfl, k⟩, fun z => by cases z⟩
/-! ### worlds -/
structure WorldAt (K : PySem.W.Frag) (CW : Addr) (H : Hp) (a h : Addr) (d : Hs) : Prop where
  ex : ∃ dx fs vst, H a = some (.ins CW dx fs) ∧ fs.lookup ("house" : Str) = some (.ref h) ∧ fs.lookup ("state" : Str) = some vst ∧ (∀ x : Str, ¬ x = "house" → ¬ x = "state" → fs.lookup x = none) ∧ fs.length ≤ 100 ∧ Dp K H vst (stD d)
theorem WorldAt.nl {K : PySem.W.Frag} {CW : Addr} {H H' : Hp} {a h : Addr} {d : Hs} (k : Nl H H') (x : WorldAt K CW H a h d) : WorldAt K CW H' a h d := by
  obtain ⟨dx, fs, vst, h0, h1, h2, h3, h4, h5⟩ := x.ex
  exact ⟨dx, fs, vst, k _ _ h0 (fun _ z => nomatch z) (fun _ z => nomatch z), h1, h2, h3, h4, Dp.nl k _ _ (noL_st _) h5⟩
theorem WorldAt.same {K : PySem.W.Frag} {CW : Addr} {H H' : Hp} {a h : Addr} {d : Hs} (k : Same H H') (x : WorldAt K CW H a h d) : WorldAt K CW H' a h d := x.nl (nl_same k)
section
variable {P : Program} {w : World} {K : PySem.W.Frag} {mg : Str → Option Value} {base : Heap}
/-! ### world.changed(state) -/
end
end Kw



set_option Elab.async false
set_option linter.all false
set_option maxRecDepth 100000
set_option maxHeartbeats 4000000
namespace Kw
open PySem PySem.Spec PyProof.Rows L2
/-! ### houses and states of one shape -/
structure Shp (d0 d : Hs) : Prop where
  h : d0.hands = d.hands
  r : ∀ k, (rowOf d0 k).length = (rowOf d k).length
theorem Shp.refl (d : Hs) : Shp d d := ⟨rfl, fun _ => rfl⟩
theorem Shp.trans {a b c : Hs} (x : Shp a b) (y : Shp b c) : Shp a c := ⟨x.h.trans y.h, fun k => (x.r k).trans (y.r k)⟩
theorem Shp.set (d : Hs) (p : It) (q : Pl) : Shp d (setD d p q) := by
  obtain ⟨k, n⟩ := p
  refine ⟨?_, fun j => ?_⟩
  · cases k <;> rfl
  · cases k <;> cases j <;> first | rfl | (show List.length _ = (List.set _ _ _).length; rw [List.length_set])
theorem Shp.next (d : Hs) (e : Dd) : Shp d (nextOf d e) := by cases e <;> exact Shp.set _ _ _
theorem Shp.inH {d0 d : Hs} (s : Shp d0 d) (p : It) : Kw.inH d0 p ↔ Kw.inH d p := by
  unfold Kw.inH
  rw [s.r]
theorem unk_shp {d0 d : Hs} (s : Shp d0 d) (e : Dd) : unkOf d0 e = unkOf d e := by
  have hb : d0.bs.length = d.bs.length := s.r .box
  have hs : d0.ss.length = d.ss.length := s.r .sl
  unfold unkOf
  simp only [s.h, s.inH, hb, hs]
theorem Shp.ls {d0 d : Hs} (s : Shp d0 d) (l : Ls d0) : Ls d := by
  have hb : d0.bs.length = d.bs.length := s.r .box
  have ht : d0.ts.length = d.ts.length := s.r .thing
  have hs : d0.ss.length = d.ss.length := s.r .sl
  exact ⟨by rw [← hb]; exact l.b, by rw [← ht]; exact l.t, by rw [← hs]; exact l.s⟩
section
variable {P : Program} {w : World} {K : PySem.W.Frag} {mg : Str → Option Value} {base : Heap}
/-! ### world == other -/
theorem eqv_pls (l : List Pl) : ∀ m : List Pl, PyData.eqv (plsD l) (plsD m) = decide (l = m) := by
  have go : ∀ l m : List Pl, PyData.eqvAll (l.map plD) (m.map plD) = decide (l = m) := by
    intro l
    induction l with
    | nil => intro m; cases m with
      | nil => rfl
      | cons a r => simp [PyData.eqvAll]
    | cons a r ih => intro m; cases m with
      | nil => simp [PyData.eqvAll]
      | cons c s =>
        show (PyData.eqv (plD a) (plD c) && PyData.eqvAll (r.map plD) (s.map plD)) = _
        rw [eqv_pl, ih]
        by_cases h1 : a = c <;> by_cases h2 : r = s <;> simp [h1, h2]
  intro m
  exact go l m
end
end Kw



set_option Elab.async false
set_option linter.all false
set_option maxRecDepth 100000
set_option maxHeartbeats 4000000
namespace Kw
open PySem PySem.Spec PyProof.Rows L2 SrtO
section
variable {prog : Program} {w : World} {A : Around} {E : Value → Shared → Prop} {s : Shared}
end
/-! ### items -/
def IsIt (h : Heap) (v : Value) (p : It) : Prop := ∃ a o t u n, v = .ref a ∧ h.get? a = some o ∧ o.cls = .type "tuple" ∧ o.data = .seq #[.str p.1.str t, .int (p.2 : Nat) u] n
theorem IsIt.keeps {h h' : Heap} {v : Value} {p : It} (x : IsIt h v p) (k : ∀ b o, h.get? b = some o → h'.get? b = some o) : IsIt h' v p := by
  obtain ⟨a, o, t, u, n, e, ho, hc, hd⟩ := x
  exact ⟨a, o, t, u, n, e, k _ _ ho, hc, hd⟩
section
variable {prog : Program} {w : World} {A : Around} {s : Shared}
end
section
variable {X : Cx}
end
end Kw



set_option Elab.async false
set_option linter.all false
set_option maxRecDepth 100000
set_option maxHeartbeats 4000000
namespace Kw
open PySem PySem.Spec PyProof.Rows L2
abbrev sInside : Stmt := top 75
abbrev sIs : Stmt := top 76
abbrev sSight : Stmt := top 77
abbrev sHands : Stmt := top 78
abbrev sStory : Stmt := top 79
/-! ### places that there are, boxes not around one another -/
def PlOk (d : Hs) (k : Kd) (q : Pl) : Prop := (q.1 = .hand → 0 ≤ q.2 ∧ q.2 < d.hands) ∧ (q.1 = .box → ∃ j : Nat, q.2 = (j : Int) ∧ j < d.bs.length) ∧ (q.1 = .gone → k = .sl ∧ q.2 = 0)
structure Wf (d : Hs) : Prop where
  pl : ∀ k (i : Nat) q, (rowOf d k)[i]? = some q → PlOk d k q
  ac : ∃ ρ : Nat → Nat, ∀ (i j : Nat), d.bs[i]? = some (.box, (j : Int)) → ρ j < ρ i
theorem set_get {l : List Pl} {i j : Nat} {q z : Pl} (h : (l.set i q)[j]? = some z) : (j = i ∧ z = q) ∨ (j ≠ i ∧ l[j]? = some z) := by
  by_cases c : j = i
  · subst c
    rw [List.getElem?_set_self (by have := (List.getElem?_eq_some_iff.mp h).1; rwa [List.length_set] at this)] at h
    exact .inl ⟨rfl, (Option.some.inj h).symm⟩
  · rw [List.getElem?_set_ne (Ne.symm c)] at h
    exact .inr ⟨c, h⟩
theorem row_set (d : Hs) (p : It) (q : Pl) (k : Kd) : rowOf (setD d p q) k = if k = p.1 then (rowOf d k).set p.2 q else rowOf d k := by
  obtain ⟨k', n⟩ := p
  cases k' <;> cases k <;> rfl
theorem PlOk.shp {d d' : Hs} (s : Shp d d') {k : Kd} {q : Pl} (h : PlOk d k q) : PlOk d' k q := by
  have hb : d.bs.length = d'.bs.length := s.r .box
  unfold PlOk at *
  rw [← s.h, ← hb]
  exact h
/-- all but a box put into another -/
theorem Wf.set {d : Hs} (w : Wf d) {p : It} {q : Pl} (hq : PlOk d p.1 q) (hb : p.1 = .box → q.1 ≠ .box) : Wf (setD d p q) := by
  have sh := Shp.set d p q
  refine ⟨fun k i z hz => ?_, ?_⟩
  · rw [row_set] at hz
    by_cases c : k = p.1
    · rw [if_pos c] at hz
      rcases set_get hz with ⟨_, e⟩ | ⟨_, e⟩
      · rw [e, c]
        exact hq.shp sh
      · exact (w.pl k i z e).shp sh
    · rw [if_neg c] at hz
      exact (w.pl k i z hz).shp sh
  · obtain ⟨ρ, hρ⟩ := w.ac
    refine ⟨ρ, fun i j h => ?_⟩
    have h : (rowOf (setD d p q) .box)[i]? = some (.box, (j : Int)) := h
    rw [row_set] at h
    by_cases c : Kd.box = p.1
    · rw [if_pos c] at h
      rcases set_get h with ⟨_, e⟩ | ⟨_, e⟩
      · exact absurd (by rw [← e]) (hb c.symm)
      · exact hρ i j e
    · rw [if_neg c] at h
      exact hρ i j h
/-- a box that is held straight put into another that is held straight -/
theorem Wf.put {d : Hs} (w : Wf d) {n b : Nat} {h h' : Int} (hn : d.bs[n]? = some (.hand, h)) (hb : d.bs[b]? = some (.hand, h')) (ne : n ≠ b) : Wf (setD d (.box, n) (.box, (b : Int))) := by
  have sh := Shp.set d (.box, n) (.box, (b : Int))
  have lb := (List.getElem?_eq_some_iff.mp hb).1
  have hq : PlOk d .box (.box, (b : Int)) := ⟨fun z => (nomatch z), fun _ => ⟨b, rfl, lb⟩, fun z => (nomatch z)⟩
  refine ⟨fun k i z hz => ?_, ?_⟩
  · rw [row_set] at hz
    by_cases c : k = Kd.box
    · rw [if_pos c] at hz
      rcases set_get hz with ⟨_, e⟩ | ⟨_, e⟩
      · rw [e, c]
        exact hq.shp sh
      · exact (w.pl k i z e).shp sh
    · rw [if_neg c] at hz
      exact (w.pl k i z hz).shp sh
  · obtain ⟨ρ, hρ⟩ := w.ac
    refine ⟨fun x => if x = b then 0 else ρ x + 1, fun i j hij => ?_⟩
    have hij : (rowOf (setD d (.box, n) (.box, (b : Int))) .box)[i]? = some (.box, (j : Int)) := hij
    rw [row_set, if_pos rfl] at hij
    have nb : i ≠ b := fun z => by
      subst z
      rcases set_get hij with ⟨e1, _⟩ | ⟨_, e2⟩
      · exact ne e1.symm
      · have e3 : d.bs[i]? = some (.box, (j : Int)) := e2
        rw [hb] at e3
        cases e3
    dsimp only
    rw [if_neg nb]
    by_cases cj : j = b
    · rw [if_pos cj]
      omega
    · rw [if_neg cj]
      rcases set_get hij with ⟨_, e⟩ | ⟨_, e⟩
      · have := congrArg Prod.snd e
        have e2 : ((j : Nat) : Int) = (b : Nat) := this
        exact absurd (by omega) cj
      · have := hρ i j e
        omega
theorem Wf.next {d : Hs} (w : Wf d) {e : Dd} (kn : Kn d e) (hb : Hb d e) (bar : barOf d e = "") : Wf (nextOf d e) := by
  cases e with
  | give h p o => exact w.set ⟨fun _ => ⟨by show (0 : Int) ≤ (o : Nat); omega, hb.2.1⟩, fun z => (nomatch z), fun z => (nomatch z)⟩ (fun _ => by intro z; cases z)
  | put h p b =>
    obtain ⟨k, n⟩ := p
    have hq : PlOk d k (.box, (b : Int)) := ⟨fun z => (nomatch z), fun _ => ⟨b, rfl, kn.2⟩, fun z => (nomatch z)⟩
    by_cases c : k = .box
    · subst c
      simp only [barOf] at bar
      by_cases c1 : whereD d (.box, b) = some (.hand, (h : Int))
      · rw [if_pos c1] at bar
        by_cases c2 : whereD d (.box, n) = some (.hand, (h : Int))
        · exact w.put (show d.bs[n]? = _ from c2) (show d.bs[b]? = _ from c1) (fun z => hb.2.1 (by rw [z]))
        · rw [if_neg c2] at bar; exact absurd bar (by decide +kernel)
      · rw [if_neg c1] at bar; exact absurd bar (by decide +kernel)
    · exact w.set hq fun z => absurd z c
  | take h p b => exact w.set ⟨fun _ => ⟨by show (0 : Int) ≤ (h : Nat); omega, hb.1⟩, fun z => (nomatch z), fun z => (nomatch z)⟩ (fun _ => by intro z; cases z)
  | lock h b s => exact w.set (p := (.sl, s)) ⟨fun z => (nomatch z), fun _ => ⟨b, rfl, kn.1⟩, fun z => (nomatch z)⟩ (fun z => by cases z)
  | brk h b => exact w.set (p := (.sl, onIx d b)) ⟨fun z => (nomatch z), fun z => (nomatch z), fun _ => ⟨rfl, rfl⟩⟩ (fun z => by cases z)
/-! ### what is straight at a place -/
def atOf (l : List Pl) (k : Kd) (q : Pl) : List It := ((List.range l.length).filter fun i => decide (l[i]? = some q)).map fun i => (k, i)
def loadsOf (d : Hs) (q : Pl) : List It := atOf d.bs .box q ++ atOf d.ts .thing q
def insideOf (d : Hs) (b : Nat) : List It := loadsOf d (.box, (b : Int))
theorem itP_map (l : List Nat) (k : Kd) : (l.map fun i => (k, i)).map itP = l.map fun i => itP (k, i) := by
  rw [List.map_map]
  rfl
section
variable {P : Program} {w : World} {K : PySem.W.Frag} {mg : Str → Option Value} {base : Heap}
/-- [(word, i) for i in range(n) if ..] -/
theorem lc_fltR {σ : L2.St} {H1 : Hp} {D : Addr} {tt : TT} {Qd : Hp → Prop} (k : Kd) (n j : Nat) (p : Nat → Bool) (hj : j < σ.length) (hn : n ≤ 1000) (hD : H1 D = none)
    (ht : ∀ (i : Nat) (H : Hp) (T : Bool → Hp → Prop), i < n → Same H1 H → (∀ H', Same H H' → T (p i) H') → tt ((wipe σ [j]).set j (some (.int (i : Nat)))) H T)
    (hd : ∀ H zs, Same H1 H → H D = some (.lst zs) → DpAll K H zs (((List.range n).filter p).map fun i => itP (k, i)) → Qd H) :
    ∃ W : Nat → Nat → Hp → Prop, (∃ m, W 0 m (upd H1 D (.lst []))) ∧ ∀ i m H, W i m H →
      ((Itr 0 n).stop i H ∧ Qd H) ∨ ((Itr 0 n).go i H ∧ ∃ Nx : Hp → Prop, (∀ H', Nx H' → ∃ m', m' < m ∧ W (i + 1) m' H') ∧ ∀ x H', (Itr 0 n).yld i H x H' → gName j x (wipe σ [j]) H' fun σ2 H2 => wipe σ2 [j] = wipe σ [j] ∧ tt σ2 H2 fun b H3 =>
        if b = true then tTup (tCons (tC (.str k.str)) (tCons (tVar j) tNil)) σ2 H3 fun y H4 => ∃ acc, H4 D = some (.lst acc) ∧ acc.length < sizeLine ∧ Nx (upd H4 D (.lst (acc ++ [y]))) else Nx H3) := by
  have e0 : ∀ (H' : Hp) (o : HO), Same H1 H' → Same H1 (L2.upd H' D o) := fun H' o e c u h => by rw [upd_ne (ne_of_none h hD)]; exact e c u h
  have nl : ∀ l : List Nat, noLs (l.map fun i => itP (k, i)) = true := fun l => noLs_map (fun i => itP (k, i)) (fun _ => rfl) l
  refine lc_range (lo := 0) (n := n) (fun i H => Same H1 H ∧ ∃ zs, H D = some (.lst zs) ∧ zs.length ≤ i ∧ DpAll K H zs (((List.range i).filter p).map fun i => itP (k, i))) ⟨same_upd hD, [], upd_same, Nat.le_refl _, .nil⟩ ?_ ?_
  · rintro i H hi ⟨e, zs, hz, lz, dz⟩
    rw [Int.zero_add]
    refine ⟨wipe_one _ j _, ht i H _ hi e fun H' e' => ?_⟩
    have hz' := e' _ _ hz
    have er : (List.range (i + 1)).filter p = (List.range i).filter p ++ (if p i = true then [i] else []) := by
      rw [List.range_succ, List.filter_append]
      congr 1
      simp only [List.filter_cons, List.filter_nil]
    refine ite_b _ (fun c => ?_) (fun c => ?_)
    · rw [c, if_pos rfl] at er
      refine ⟨_, List.getElem?_set_self (by rw [wipe_length]; exact hj), (by show 2 ≤ sizeLine; decide), fun t ht' => ?_⟩
      have f1 := same_upd (o := HO.tup [.str k.str, .int (i : Nat)]) ht'
      have hz2 := f1 _ _ hz'
      have nl2 := nl_updL (ys := zs ++ [V.ref t]) hz2
      refine ⟨zs, hz2, by rw [sizeLine_eq]; omega, e0 _ _ ((e.trans e').trans f1), zs ++ [.ref t], upd_same, by rw [List.length_append]; simp; exact lz, ?_⟩
      rw [er, List.map_append]
      exact DpAll.app (Dp.nls nl2 _ _ (nl _) (Dp.sames (e'.trans f1) _ _ dz)) (.cons (Dp.nl nl2 _ _ rfl (.tup (SqT.of upd_same) (.cons (.str _) (.cons (.int _) .nil)))) .nil)
    · rw [c, if_neg (by decide), List.append_nil] at er
      refine ⟨e.trans e', zs, hz', by omega, ?_⟩
      rw [er]
      exact Dp.sames e' _ _ dz
  · rintro H ⟨e, zs, hz, lz, dz⟩
    exact hd H zs e hz dz
/-! ### _law_inside -/
def spInside (K : PySem.W.Frag) : Sp := fun vs H Q _ => ∃ (x : V) (b : Nat) (d : Hs), vs = [x, .int (b : Nat)] ∧ Dp K H x (stD d) ∧ Ls d ∧ ∀ v H', Same H H' → Dp K H' v (.tuple ((insideOf d b).map itP)) → Q v H'
theorem scInside : FnScope ["_law_state", "_law_box", "_law_found", "_law_number"] ["_law_state", "_law_box"] (defScope sInside) := ⟨rfl, rfl, rfl, by decide +kernel, rfl, by decide +kernel, by decide +kernel⟩
theorem ok_inside {f : Addr} {fd : FuncData} (F : Fun K "_law_inside" "_law_inside" sInside f fd) (B : Bt mg) : FnOk P w K mg base CX0 1 f fd ["_law_state", "_law_box"] (spInside K) := by
  refine F.ok scInside (fun vs H Q E h => ?_) (fun cdv A outer s H vs Q E hr h => ?_)
  · obtain ⟨x, b, d, rfl, _⟩ := h
    rfl
  · obtain ⟨x, b, d, rfl, hx, hL, k⟩ := h
    have hu : (cxOf CX0 P w K mg base ["_law_state", "_law_box", "_law_found", "_law_number"] "_law_inside" (defScope sInside) f cdv A outer s H E).nox.A.units + 64 < cLine := by have := hr.un; show (A.deeper _).units + 64 < cLine; omega
    refine ⟨_, pss_cons (ps_setLc (i := 2) (own := [("_law_number", 3)]) (g := gName 3) (tt := tTest (tOp (rEqD K) (tOp (rIxT K) (tOp (rIxT K) (tVar 0) (tC (.int 0))) (tVar 3)) (tTup (tCons (tC (.str ("box" : Str))) (tCons (tVar 1) tNil))))) (te := tTup (tCons (tC (.str ("box" : Str))) (tCons (tVar 3) tNil))) rfl scInside.nd rfl rfl (sw_true rfl rfl rfl (by decide +kernel))
        (pi_range1 rfl B.rng (pa_cons (pe_callB call_len_seq (by rfl) B.len PySem.boot_len (pa_cons (pe_ix ix_tup (pv 0) pe_int (fun _ _ => rfl)) pa_nil)) pa_nil))
        (blkOk_by (own := [("_law_number", 3)]) (N := ["_law_state", "_law_box", "_law_found", "_law_number"]) (sc := defScope sInside) (by decide +kernel)) (fun _ _ _ _ _ => pg_name (i := 3) scInside.nd rfl (.inl rfl))
        (fun _ _ _ _ _ => pts_one (pt_cmpR (op_eqD hu) (pe_ix ix_tup (pe_ix ix_tup (pv 0) pe_int (fun _ _ => rfl)) (pv 3) (fun _ _ => rfl)) (pe_tup (pa_cons pe_str (pa_cons (pv 1) pa_nil))) (nomark _))) (fun _ _ _ _ _ => pe_tup (pa_cons pe_str (pa_cons (pv 3) pa_nil))))
      (pss_one (ps_ret (pe_callTy call_tuple_of (by rfl) B.tup (by decide +kernel) (pa_cons (pe_op op_cat (pv 2) (pe_lc (own := [("_law_number", 3)]) (g := gName 3) (tt := tTest (tOp (rEqD K) (tOp (rIxT K) (tOp (rIxT K) (tVar 0) (tC (.int 1))) (tVar 3)) (tTup (tCons (tC (.str ("box" : Str))) (tCons (tVar 1) tNil))))) (te := tTup (tCons (tC (.str ("thing" : Str))) (tCons (tVar 3) tNil))) rfl scInside.nd
        (pi_range1 rfl B.rng (pa_cons (pe_callB call_len_seq (by rfl) B.len PySem.boot_len (pa_cons (pe_ix ix_tup (pv 0) pe_int (fun _ _ => rfl)) pa_nil)) pa_nil))
        (blkOk_by (own := [("_law_number", 3)]) (N := ["_law_state", "_law_box", "_law_found", "_law_number"]) (sc := defScope sInside) (by decide +kernel)) (fun _ _ _ _ _ => pg_name (i := 3) scInside.nd rfl (.inl rfl))
        (fun _ _ _ _ _ => pts_one (pt_cmpR (op_eqD hu) (pe_ix ix_tup (pe_ix ix_tup (pv 0) pe_int (fun _ _ => rfl)) (pv 3) (fun _ _ => rfl)) (pe_tup (pa_cons pe_str (pa_cons (pv 1) pa_nil))) (nomark _))) (fun _ _ _ _ _ => pe_tup (pa_cons pe_str (pa_cons (pv 3) pa_nil))))) pa_nil)))), ?_⟩
    obtain ⟨a, v1, v2, v3, rfl, sa, d1, d2, d3⟩ := st_at hx
    obtain ⟨a1, x1, rfl, s1, dl1, l1⟩ := pls_at d1
    obtain ⟨a2, x2, rfl, s2, dl2, l2⟩ := pls_at d2
    have lb := hL.b
    have lt := hL.t
    refine ⟨_, rfl, a, _, 0, _, rfl, rfl, sa, rfl, a1, x1, rfl, .inr s1, _, rfl, by omega, by omega, fun D1 hD1 => ?_⟩
    rw [show (x1.length : Int).toNat = d.bs.length by omega]
    refine lc_fltR (K := K) .box d.bs.length 3 (fun i => decide (d.bs[i]? = some (.box, (b : Int)))) (by show 3 < 4; decide) (by omega) hD1 (fun i H' T hi e hT => ?_) (fun H1 z1 e1 hz1 dz1 => ?_)
    · obtain ⟨q, hq⟩ : ∃ q, d.bs[i]? = some q := ⟨_, List.getElem?_eq_getElem hi⟩
      obtain ⟨vq, g1, g2⟩ := DpAll.at2 dl1 (i := i) (d := plD q) (by rw [List.getElem?_map, hq]; rfl)
      refine ⟨_, rfl, a, _, 0, _, rfl, rfl, SqT.same e sa, rfl, _, rfl, a1, x1, _, vq, rfl, rfl, SqT.same e s1, atI_nat g1, _, rfl, (by show 2 ≤ sizeLine; decide), fun t ht => ?_⟩
      have f1 := same_upd (o := HO.tup [.str ("box" : Str), .int (b : Nat)]) ht
      refine ⟨plD q, plD (.box, (b : Int)), Dp.same (e.trans f1) _ _ g2, .tup (SqT.of upd_same) (.cons (.str _) (.cons (.int _) .nil)), shaped_pl _, shaped_pl _, _, rfl, ?_⟩
      rw [eqv_pl]
      have := hT _ f1
      rw [hq] at this
      simp only [Option.some.injEq] at this
      exact this
    refine ⟨_, rfl, _, rfl, a, _, 1, _, rfl, rfl, SqT.same e1 sa, rfl, a2, x2, rfl, .inr (SqT.same e1 s2), _, rfl, by omega, by omega, fun D2 hD2 => ?_⟩
    rw [show (x2.length : Int).toNat = d.ts.length by omega]
    refine lc_fltR (K := K) .thing d.ts.length 3 (fun i => decide (d.ts[i]? = some (.box, (b : Int)))) (by show 3 < 4; decide) (by omega) hD2 (fun i H' T hi e hT => ?_) (fun H2 z2 e2 hz2 dz2 => ?_)
    · obtain ⟨q, hq⟩ : ∃ q, d.ts[i]? = some q := ⟨_, List.getElem?_eq_getElem hi⟩
      obtain ⟨vq, g1, g2⟩ := DpAll.at2 dl2 (i := i) (d := plD q) (by rw [List.getElem?_map, hq]; rfl)
      have e' := e1.trans e
      refine ⟨_, rfl, a, _, 1, _, rfl, rfl, SqT.same e' sa, rfl, _, rfl, a2, x2, _, vq, rfl, rfl, SqT.same e' s2, atI_nat g1, _, rfl, (by show 2 ≤ sizeLine; decide), fun t ht => ?_⟩
      have f1 := same_upd (o := HO.tup [.str ("box" : Str), .int (b : Nat)]) ht
      refine ⟨plD q, plD (.box, (b : Int)), Dp.same (e'.trans f1) _ _ g2, .tup (SqT.of upd_same) (.cons (.str _) (.cons (.int _) .nil)), shaped_pl _, shaped_pl _, _, rfl, ?_⟩
      rw [eqv_pl]
      have := hT _ f1
      rw [hq] at this
      simp only [Option.some.injEq] at this
      exact this
    have ln1 : z1.length ≤ 100 := by
      rw [DpAll.len dz1, List.length_map]
      have := List.length_filter_le (fun i => decide (d.bs[i]? = some (Wd.box, (b : Int)))) (List.range d.bs.length)
      rw [List.length_range] at this
      omega
    have ln2 : z2.length ≤ 100 := by
      rw [DpAll.len dz2, List.length_map]
      have := List.length_filter_le (fun i => decide (d.ts[i]? = some (Wd.box, (b : Int)))) (List.range d.ts.length)
      rw [List.length_range] at this
      omega
    refine ⟨D1, D2, z1, z2, rfl, rfl, e2 _ _ hz1, hz2, by rw [sizeLine_eq]; omega, fun p hp => ⟨p, _, rfl, .inl ⟨SqL.of upd_same, fun t ht => ?_⟩⟩⟩
    have f1 := same_upd (o := HO.lst (z1 ++ z2)) hp
    have f2 := same_upd (o := HO.tup (z1 ++ z2)) ht
    refine k _ _ (((e1.trans e2).trans f1).trans f2) (.tup (SqT.of upd_same) ?_)
    unfold insideOf loadsOf atOf
    rw [List.map_append, itP_map, itP_map]
    exact DpAll.app (Dp.sames ((e2.trans f1).trans f2) _ _ dz1) (Dp.sames (f1.trans f2) _ _ dz2)
end
end Kw



set_option Elab.async false
set_option linter.all false
set_option maxRecDepth 100000
set_option maxHeartbeats 4000000
namespace Kw
open PySem PySem.Spec PyProof.Rows L2
abbrev sLoads : Stmt := top 33
abbrev sTrue : Stmt := top 45
/-- a comprehension over enumerate(tuple), the invariant Pv by the turn -/
theorem lc_enumT {K : PySem.W.Frag} {a : Addr} {xs : List V} {g : TG} {tt : TT} {te : TE} {vs : List Nat} {σ : L2.St} {H1 : Hp} {D : Addr} {Qd : Hp → Prop} (Pv : Nat → Hp → Prop) (h0 : Pv 0 (upd H1 D (.lst []))) (hl : ∀ i H, i ≤ xs.length → Pv i H → SqT K H a xs)
    (hs : ∀ i x H T, xs[i]? = some x → Pv i H → H T = none → g (.ref T) (wipe σ vs) (upd H T (.tup [.int (i : Nat), x])) fun σ2 H2 => wipe σ2 vs = wipe σ vs ∧ tt σ2 H2 fun b H3 =>
      if b = true then te σ2 H3 fun y H4 => ∃ acc, H4 D = some (.lst acc) ∧ acc.length < sizeLine ∧ Pv (i + 1) (upd H4 D (.lst (acc ++ [y]))) else Pv (i + 1) H3) (hd : ∀ H, Pv xs.length H → Qd H) :
    ∃ W : Nat → Nat → Hp → Prop, (∃ m, W 0 m (upd H1 D (.lst []))) ∧ ∀ i m H, W i m H →
      ((Itet K a).stop i H ∧ Qd H) ∨ ((Itet K a).go i H ∧ ∃ Nx : Hp → Prop, (∀ H', Nx H' → ∃ m', m' < m ∧ W (i + 1) m' H') ∧ ∀ x H', (Itet K a).yld i H x H' → g x (wipe σ vs) H' fun σ2 H2 => wipe σ2 vs = wipe σ vs ∧ tt σ2 H2 fun b H3 =>
        if b = true then te σ2 H3 fun y H4 => ∃ acc, H4 D = some (.lst acc) ∧ acc.length < sizeLine ∧ Nx (upd H4 D (.lst (acc ++ [y]))) else Nx H3) := by
  refine ⟨fun i m H => m = xs.length - i ∧ i ≤ xs.length ∧ Pv i H, ⟨xs.length, by simp, Nat.zero_le _, h0⟩, ?_⟩
  rintro i m H ⟨rfl, hi, p⟩
  have q := hl i H hi p
  by_cases hlt : i < xs.length
  · refine .inr ⟨⟨xs, xs[i], q, by simp [hlt]⟩, Pv (i + 1), fun H' p' => ⟨xs.length - (i + 1), by omega, rfl, hlt, p'⟩, fun x H' y => ?_⟩
    obtain ⟨T, x', ev, hT, eH, hx⟩ := y
    subst ev eH
    exact hs i x' H T (hx xs q) p hT
  · have e : i = xs.length := by omega
    subst e
    exact .inl ⟨⟨xs, q, Nat.le_refl _⟩, hd H p⟩
theorem wipe_two (σ : L2.St) (i j : Nat) (x y : Option V) (h : i ≠ j) : wipe (((wipe σ [i, j]).set i x).set j y) [i, j] = wipe σ [i, j] := by
  show (((((σ.set j none).set i none).set i x).set j y).set j none).set i none = (σ.set j none).set i none
  rw [List.set_set, List.set_set, List.set_comm _ _ h, List.set_set, List.set_set]
section
variable {P : Program} {w : World} {K : PySem.W.Frag} {mg : Str → Option Value} {base : Heap}
/-- [(word, i) for i, q in enumerate(row) if q == place] -/
theorem lc_at {σ : L2.St} {H1 : Hp} {D a : Addr} {xs : List V} {tt : TT} {Qd : Hp → Prop} (k : Kd) (l : List Pl) (i j : Nat) (q : Pl) (hij : i ≠ j) (hi : i < σ.length) (hj : j < σ.length) (hD : H1 D = none)
    (sq : SqT K H1 a xs) (dl : DpAll K H1 xs (l.map plD)) (ln : xs.length ≤ 1000)
    (ht : ∀ (n : Nat) (z : Pl) (y : V) (H : Hp) (T : Bool → Hp → Prop), l[n]? = some z → Dp K H y (plD z) → Same H1 H → (∀ H', Same H H' → T (decide (z = q)) H') → tt (((wipe σ [i, j]).set i (some (.int (n : Nat)))).set j (some y)) H T)
    (hd : ∀ H zs, Same H1 H → H D = some (.lst zs) → DpAll K H zs ((atOf l k q).map itP) → Qd H) :
    ∃ W : Nat → Nat → Hp → Prop, (∃ m, W 0 m (upd H1 D (.lst []))) ∧ ∀ n m H, W n m H →
      ((Itet K a).stop n H ∧ Qd H) ∨ ((Itet K a).go n H ∧ ∃ Nx : Hp → Prop, (∀ H', Nx H' → ∃ m', m' < m ∧ W (n + 1) m' H') ∧ ∀ x H', (Itet K a).yld n H x H' → (gTup K 2 (gCons (gName i) (gCons (gName j) gNil))) x (wipe σ [i, j]) H' fun σ2 H2 => wipe σ2 [i, j] = wipe σ [i, j] ∧ tt σ2 H2 fun b H3 =>
        if b = true then tTup (tCons (tC (.str k.str)) (tCons (tVar i) tNil)) σ2 H3 fun y H4 => ∃ acc, H4 D = some (.lst acc) ∧ acc.length < sizeLine ∧ Nx (upd H4 D (.lst (acc ++ [y]))) else Nx H3) := by
  have e0 : ∀ (H' : Hp) (o : HO), Same H1 H' → Same H1 (L2.upd H' D o) := fun H' o e c u h => by rw [upd_ne (ne_of_none h hD)]; exact e c u h
  have nl : ∀ l : List Nat, noLs (l.map fun i => itP (k, i)) = true := fun l => noLs_map (fun i => itP (k, i)) (fun _ => rfl) l
  have ll : xs.length = l.length := by rw [DpAll.len dl, List.length_map]
  refine lc_enumT (K := K) (a := a) (xs := xs) (fun n H => Same H1 H ∧ ∃ zs, H D = some (.lst zs) ∧ zs.length ≤ n ∧ DpAll K H zs (((List.range n).filter fun m => decide (l[m]? = some q)).map fun i => itP (k, i))) ⟨same_upd hD, [], upd_same, Nat.le_refl _, .nil⟩ (fun n H _ p => SqT.same p.1 sq) ?_ ?_
  · rintro n y H T hy ⟨e, zs, hz, lz, dz⟩ hT
    obtain ⟨z, hz1, hz2⟩ := pls_get dl hy
    have hn := (List.getElem?_eq_some_iff.mp hy).1
    have f0 := same_upd (o := HO.tup [.int (n : Nat), y]) hT
    refine ⟨T, _, rfl, SqT.of upd_same, rfl, _, _, rfl, _, _, rfl, rfl, wipe_two σ i j _ _ hij, ht n z y _ _ hz1 (Dp.same (e.trans f0) _ _ hz2) (e.trans f0) fun H' e' => ?_⟩
    have e'' := f0.trans e'
    have hz' := e'' _ _ hz
    have er : (List.range (n + 1)).filter (fun m => decide (l[m]? = some q)) = (List.range n).filter (fun m => decide (l[m]? = some q)) ++ (if z = q then [n] else []) := by
      rw [List.range_succ, List.filter_append]
      congr 1
      simp only [List.filter_cons, List.filter_nil, hz1, Option.some.injEq, decide_eq_true_eq]
    by_cases c : z = q
    · rw [if_pos c] at er
      rw [decide_eq_true c]
      have vi : ((((wipe σ [i, j]).set i (some (V.int (n : Nat)))).set j (some y))[i]?) = some (some (V.int (n : Nat))) := by
        rw [List.getElem?_set_ne hij.symm, List.getElem?_set_self (by rw [wipe_length]; exact hi)]
      refine iteTe rfl ⟨_, vi, (by show 2 ≤ sizeLine; decide), fun t ht' => ?_⟩
      have f1 := same_upd (o := HO.tup [.str k.str, .int (n : Nat)]) ht'
      have hz2 := f1 _ _ hz'
      have nl2 := nl_updL (ys := zs ++ [V.ref t]) hz2
      refine ⟨zs, hz2, by rw [sizeLine_eq]; omega, e0 _ _ ((e.trans e'').trans f1), zs ++ [.ref t], upd_same, by rw [List.length_append]; simp; exact lz, ?_⟩
      rw [er, List.map_append]
      exact DpAll.app (Dp.nls nl2 _ _ (nl _) (Dp.sames (e''.trans f1) _ _ dz)) (.cons (Dp.nl nl2 _ _ rfl (.tup (SqT.of upd_same) (.cons (.str _) (.cons (.int _) .nil)))) .nil)
    · rw [if_neg c, List.append_nil] at er
      rw [decide_eq_false c]
      refine iteFe rfl ⟨e.trans e'', zs, hz', by omega, ?_⟩
      rw [er]
      exact Dp.sames e'' _ _ dz
  · rintro H ⟨e, zs, hz, lz, dz⟩
    refine hd H zs e hz ?_
    unfold atOf
    rw [itP_map, ← ll]
    exact dz
end
end Kw



set_option Elab.async false
set_option linter.all false
set_option maxRecDepth 100000
set_option maxHeartbeats 4000000
namespace Kw
open PySem PySem.Spec PyProof.Rows L2
/-! ### what holds at the end -/
def Hold (d : Hs) (r : Pl) : Nat → Pl → Prop
  | 0, z => z.1 ≠ .box ∧ z = r
  | n + 1, z => ∃ j : Nat, z = (.box, (j : Int)) ∧ ∃ q, d.bs[j]? = some q ∧ Hold d r n q
theorem firstBad_none {f : Nat → Pl → Bool} : ∀ (l : List Pl) (k : Nat), firstBad f k l = none → ∀ (i : Nat) (q : Pl), l[i]? = some q → f (k + i) q = false
  | [], _, _, _, _, e => by simp at e
  | p :: r, k, h, i, q, e => by
    unfold firstBad at h
    cases c : f k p with
    | true => rw [c, if_pos rfl] at h; cases h
    | false =>
      rw [c, if_neg (by decide)] at h
      match i, e with
      | 0, e =>
        simp at e
        subst e
        exact c
      | i + 1, e =>
        have := firstBad_none r (k + 1) h i q (by simpa using e)
        rwa [show k + 1 + i = k + (i + 1) by omega] at this
theorem plOk_at {p : Pl} {n m : Int} (h : plOk p n m = true) : (p.1 = .hand → 0 ≤ p.2 ∧ p.2 < n) ∧ (p.1 = .box → 0 ≤ p.2 ∧ p.2 < m) ∧ p.1 ≠ .gone := by
  obtain ⟨w, i⟩ := p
  unfold plOk numOk at h
  cases w
  · simp at h
    exact ⟨fun _ => h, fun z => by simp at z, by simp⟩
  · simp at h
    exact ⟨fun z => by simp at z, fun _ => h, by simp⟩
  · simp at h
theorem errOf_none {d : Hs} (h : errOf d.hands d.bs d.ts d.ss = none) : (∀ (i : Nat) q, d.bs[i]? = some q → plOk q d.hands i = true) ∧ (∀ (i : Nat) q, d.ts[i]? = some q → plOk q d.hands d.bs.length = true) ∧ (∀ (i : Nat) q, d.ss[i]? = some q → plOk q d.hands d.bs.length = true) := by
  unfold errOf at h
  split at h
  · cases h
  split at h
  · cases h
  next hb =>
  split at h
  · cases h
  next ht =>
  split at h
  · cases h
  next hs =>
  unfold badBoxes at hb
  split at hb
  · cases hb
  refine ⟨fun i q e => ?_, fun i q e => ?_, fun i q e => ?_⟩
  · have := firstBad_none _ _ hb i q e
    unfold badB at this
    rw [Nat.zero_add] at this
    simp at this
    exact this.2
  · have := firstBad_none _ _ ht i q e
    unfold badT at this
    simp at this
    exact this.2
  · have := firstBad_none _ _ hs i q e
    unfold badS at this
    simp at this
    exact this.1.2
theorem HsOk.wf {d : Hs} (h : HsOk d) : Wf d := by
  obtain ⟨hb, ht, hs⟩ := errOf_none h.okE
  have one : ∀ (k : Kd) (q : Pl) (m : Int), plOk q d.hands m = true → m ≤ d.bs.length → PlOk d k q := fun k q m e hm => by
    obtain ⟨h1, h2, h3⟩ := plOk_at e
    exact ⟨h1, fun z => by obtain ⟨a, b⟩ := h2 z; exact ⟨q.2.toNat, by omega, by omega⟩, fun z => absurd z h3⟩
  refine ⟨fun k i q e => ?_, id, fun i j e => ?_⟩
  · cases k
    · have := (List.getElem?_eq_some_iff.mp (show d.bs[i]? = some q from e)).1
      exact one _ q i (hb i q e) (by omega)
    · exact one _ q _ (ht i q e) (Int.le_refl _)
    · exact one _ q _ (hs i q e) (Int.le_refl _)
  · have := (plOk_at (hb i _ e)).2.1 rfl
    show j < i
    have h2 : ((j : Nat) : Int) < (i : Nat) := this.2
    omega
theorem Hold.end {d : Hs} {r : Pl} : ∀ {n : Nat} {z : Pl}, Hold d r n z → r.1 ≠ .box
  | 0, _, h => by obtain ⟨h, e⟩ := h; rw [← e]; exact h
  | _ + 1, _, ⟨_, _, _, _, h⟩ => h.end
section
variable {P : Program} {w : World} {K : PySem.W.Frag} {mg : Str → Option Value} {base : Heap}
def spLoads (K : PySem.W.Frag) : Sp := fun vs H Q _ => ∃ (x y : V) (d : Hs) (q : Pl), vs = [x, y] ∧ Dp K H x (stD d) ∧ Dp K H y (plD q) ∧ Ls d ∧ ∀ p xs H', Same H H' → H' p = some (.lst xs) → DpAll K H' xs ((loadsOf d q).map itP) → Q (.ref p) H'
theorem scLoads : FnScope ["state", "place", "boxes", "number", "other", "things"] ["state", "place"] (defScope sLoads) := ⟨rfl, rfl, rfl, by decide +kernel, rfl, by decide +kernel, by decide +kernel⟩
theorem at_len (l : List Pl) (k : Kd) (q : Pl) : (atOf l k q).length ≤ l.length := by
  unfold atOf
  rw [List.length_map]
  have := List.length_filter_le (fun i => decide (l[i]? = some q)) (List.range l.length)
  rw [List.length_range] at this
  exact this
theorem ok_loads {f : Addr} {fd : FuncData} (F : Fun K "loads_at" "loads_at" sLoads f fd) (B : Bt mg) : FnOk P w K mg base CX0 1 f fd ["state", "place"] (spLoads K) := by
  refine F.ok scLoads (fun vs H Q E h => ?_) (fun cdv A outer s H vs Q E hr h => ?_)
  · obtain ⟨x, y, d, q, rfl, _⟩ := h
    rfl
  · obtain ⟨x, y, d, q, rfl, hx, hy, hL, k⟩ := h
    have hu : (cxOf CX0 P w K mg base ["state", "place", "boxes", "number", "other", "things"] "loads_at" (defScope sLoads) f cdv A outer s H E).nox.A.units + 64 < cLine := by have := hr.un; show (A.deeper _).units + 64 < cLine; omega
    refine ⟨_, pss_cons (ps_setLc (i := 2) (own := [("number", 3), ("other", 4)]) (g := gTup K 2 (gCons (gName 3) (gCons (gName 4) gNil))) (tt := tTest (tOp (rEqD K) (tVar 4) (tVar 1))) (te := tTup (tCons (tC (.str ("box" : Str))) (tCons (tVar 3) tNil))) rfl scLoads.nd rfl rfl (sw_true rfl rfl rfl (by decide +kernel))
        (pi_enumT (by rfl) B.enu (pa_cons (pe_ix ix_tup (pv 0) pe_int (fun _ _ => rfl)) pa_nil))
        (blkOk_by (own := [("number", 3), ("other", 4)]) (N := ["state", "place", "boxes", "number", "other", "things"]) (sc := defScope sLoads) (by decide +kernel)) (fun _ _ _ _ _ => pg_tup (by rfl) (pgs_cons (pg_name (i := 3) scLoads.nd rfl (.inl rfl)) (pgs_cons (pg_name (i := 4) scLoads.nd rfl (.inl rfl)) pgs_nil)))
        (fun _ _ _ _ _ => pts_one (pt_cmpR (op_eqD hu) (pv 4) (pv 1) (nomark _))) (fun _ _ _ _ _ => pe_tup (pa_cons pe_str (pa_cons (pv 3) pa_nil))))
      (pss_cons (ps_setLc (i := 5) (own := [("number", 3), ("other", 4)]) (g := gTup K 2 (gCons (gName 3) (gCons (gName 4) gNil))) (tt := tTest (tOp (rEqD K) (tVar 4) (tVar 1))) (te := tTup (tCons (tC (.str ("thing" : Str))) (tCons (tVar 3) tNil))) rfl scLoads.nd rfl rfl (sw_true rfl rfl rfl (by decide +kernel))
        (pi_enumT (by rfl) B.enu (pa_cons (pe_ix ix_tup (pv 0) pe_int (fun _ _ => rfl)) pa_nil))
        (blkOk_by (own := [("number", 3), ("other", 4)]) (N := ["state", "place", "boxes", "number", "other", "things"]) (sc := defScope sLoads) (by decide +kernel)) (fun _ _ _ _ _ => pg_tup (by rfl) (pgs_cons (pg_name (i := 3) scLoads.nd rfl (.inl rfl)) (pgs_cons (pg_name (i := 4) scLoads.nd rfl (.inl rfl)) pgs_nil)))
        (fun _ _ _ _ _ => pts_one (pt_cmpR (op_eqD hu) (pv 4) (pv 1) (nomark _))) (fun _ _ _ _ _ => pe_tup (pa_cons pe_str (pa_cons (pv 3) pa_nil))))
      (pss_one (ps_ret (pe_op op_cat (pv 2) (pv 5))))), ?_⟩
    obtain ⟨a, v1, v2, v3, rfl, sa, d1, d2, d3⟩ := st_at hx
    obtain ⟨a1, x1, rfl, s1, dl1, l1⟩ := pls_at d1
    obtain ⟨a2, x2, rfl, s2, dl2, l2⟩ := pls_at d2
    have lb := hL.b
    have lt := hL.t
    refine ⟨_, rfl, a, _, 0, _, rfl, rfl, sa, rfl, a1, x1, rfl, s1, fun D1 hD1 => ?_⟩
    refine lc_at (K := K) .box d.bs 3 4 q (by decide) (by show 3 < 6; decide) (by show 4 < 6; decide) hD1 s1 dl1 (by omega) (fun n z y' H' T hz dz e hT => ?_) (fun H1 z1 e1 hz1 dz1 => ?_)
    · refine ⟨_, rfl, _, rfl, plD z, plD q, dz, Dp.same e _ _ hy, shaped_pl _, shaped_pl _, _, rfl, ?_⟩
      rw [eqv_pl]
      exact hT _ (Same.refl _)
    refine ⟨_, rfl, a, _, 1, _, rfl, rfl, SqT.same e1 sa, rfl, a2, x2, rfl, SqT.same e1 s2, fun D2 hD2 => ?_⟩
    refine lc_at (K := K) .thing d.ts 3 4 q (by decide) (by show 3 < 6; decide) (by show 4 < 6; decide) hD2 (SqT.same e1 s2) (Dp.sames e1 _ _ dl2) (by omega) (fun n z y' H' T hz dz e hT => ?_) (fun H2 z2 e2 hz2 dz2 => ?_)
    · refine ⟨_, rfl, _, rfl, plD z, plD q, dz, Dp.same (e1.trans e) _ _ hy, shaped_pl _, shaped_pl _, _, rfl, ?_⟩
      rw [eqv_pl]
      exact hT _ (Same.refl _)
    have ln1 : z1.length ≤ 100 := by
      rw [DpAll.len dz1, List.length_map]
      have := at_len d.bs .box q
      omega
    have ln2 : z2.length ≤ 100 := by
      rw [DpAll.len dz2, List.length_map]
      have := at_len d.ts .thing q
      omega
    refine ⟨_, rfl, _, rfl, D1, D2, z1, z2, rfl, rfl, e2 _ _ hz1, hz2, by rw [sizeLine_eq]; omega, fun p hp => ?_⟩
    have f1 := same_upd (o := HO.lst (z1 ++ z2)) hp
    refine k _ _ _ ((e1.trans e2).trans f1) upd_same ?_
    unfold loadsOf
    rw [List.map_append]
    exact DpAll.app (Dp.sames (e2.trans f1) _ _ dz1) (Dp.sames f1 _ _ dz2)
/-! ### holder_in, _law_holder -/
end
end Kw



set_option Elab.async false
set_option linter.all false
set_option maxRecDepth 100000
set_option maxHeartbeats 4000000
namespace Kw
open PySem PySem.Spec PyProof.Rows L2
/-! ### sights -/
inductive Sg where
  | loc (p : It) (q : Pl)
  | bare (b : Nat)
  | inn (b : Nat) (l : List It)
  | gone (s : Nat)
  | nt (g : Sg)
def sgW : Sg → Str
  | .loc _ _ => "at"
  | .bare _ => "bare"
  | .inn _ _ => "in"
  | .gone _ => "gone"
  | .nt _ => "not"
def itsD (l : List It) : PyData := .tuple (l.map itP)
mutual
def sgT : Sg → List PyData
  | .loc p q => [itP p, plD q]
  | .bare b => [.int (b : Nat)]
  | .inn b l => [.int (b : Nat), itsD l]
  | .gone s => [.int (s : Nat)]
  | .nt g => [.tuple (.str (sgW g) :: sgT g)]
end
def sgD (g : Sg) : PyData := .tuple (.str (sgW g) :: sgT g)
def isS (d : Hs) : Sg → Bool
  | .loc p q => decide (whereD d p = some q)
  | .bare b => decide ((Wd.box, (b : Int)) ∉ d.ss)
  | .inn b l => decide (insideOf d b = l)
  | .gone s => decide (d.ss[s]? = some (.gone, 0))
  | .nt g => !isS d g
def depS : Sg → Nat
  | .nt g => depS g + 1
  | _ => 0
def KnS (d : Hs) : Sg → Prop
  | .loc p _ => (whereD d p).isSome
  | .bare b => b < d.bs.length
  | .inn b l => b < d.bs.length ∧ l.length ≤ 1000
  | .gone s => s < d.ss.length
  | .nt g => KnS d g
theorem sg_at {K : PySem.W.Frag} {H : Hp} {x : V} {g : Sg} (h : Dp K H x (sgD g)) : ∃ a vs, x = .ref a ∧ SqT K H a (.str (sgW g) :: vs) ∧ DpAll K H vs (sgT g) := by
  cases h with
  | tup hs ha =>
    cases ha with
    | cons d1 r =>
      cases d1
      exact ⟨_, _, rfl, hs, r⟩
theorem lay_its : ∀ ps : List It, PyData.canLayAll0 (ps.map itP) = true
  | [] => rfl
  | p :: ps => by simp [PyData.canLayAll0, lay_it p, lay_its ps]
theorem depth_its : ∀ ps : List It, PyData.depthAll (ps.map itP) ≤ 1
  | [] => by simp [PyData.depthAll]
  | p :: ps => by
    have := depth_its ps
    have := depth_it p
    simp [PyData.depthAll]
    omega
theorem shaped_its (ps : List It) : SeqAt.shaped (itsD ps) = true := by
  have h1 := lay_its ps
  have h2 := depth_its ps
  simp [SeqAt.shaped, itsD, PyData.canLay0, PyData.depth, h1]
  omega
theorem eqv_its (l m : List It) : PyData.eqv (itsD l) (itsD m) = decide (l = m) := by
  have go : ∀ l m : List It, PyData.eqvAll (l.map itP) (m.map itP) = decide (l = m) := by
    intro l
    induction l with
    | nil => intro m; cases m with
      | nil => rfl
      | cons a r => simp [PyData.eqvAll]
    | cons a r ih => intro m; cases m with
      | nil => simp [PyData.eqvAll]
      | cons c s =>
        show (PyData.eqv (itP a) (itP c) && PyData.eqvAll (r.map itP) (s.map itP)) = _
        rw [eqv_it, ih]
        by_cases h1 : a = c <;> by_cases h2 : r = s <;> simp [h1, h2]
  exact go l m
section
variable {P : Program} {w : World} {K : PySem.W.Frag} {mg : Str → Option Value} {base : Heap}
theorem its_at {H : Hp} {x : V} {l : List It} (h : Dp K H x (itsD l)) : ∃ a xs, x = .ref a ∧ SqT K H a xs ∧ DpAll K H xs (l.map itP) ∧ xs.length = l.length := by
  cases h with
  | tup hs ha => exact ⟨_, _, rfl, hs, ha, by rw [DpAll.len ha, List.length_map]⟩
theorem sg_wd {d : Hs} (g : Sg) : (sgW g = ("not" : Str) ↔ ∃ h, g = .nt h) ∧ (sgW g = ("at" : Str) ↔ ∃ p q, g = .loc p q) ∧ (sgW g = ("bare" : Str) ↔ ∃ b, g = .bare b) ∧ (sgW g = ("in" : Str) ↔ ∃ b l, g = .inn b l) ∧ (sgW g = ("gone" : Str) ↔ ∃ b, g = .gone b) := by
  have n1 : ¬ ("at" : Str) = "not" := by decide +kernel
  have n2 : ¬ ("at" : Str) = "bare" := by decide +kernel
  have n3 : ¬ ("at" : Str) = "in" := by decide +kernel
  have n4 : ¬ ("at" : Str) = "gone" := by decide +kernel
  have n5 : ¬ ("bare" : Str) = "not" := by decide +kernel
  have n6 : ¬ ("bare" : Str) = "in" := by decide +kernel
  have n7 : ¬ ("bare" : Str) = "gone" := by decide +kernel
  have n8 : ¬ ("in" : Str) = "not" := by decide +kernel
  have n9 : ¬ ("in" : Str) = "gone" := by decide +kernel
  have n10 : ¬ ("gone" : Str) = "not" := by decide +kernel
  cases g <;> simp [sgW, n1, n2, n3, n4, n5, n6, n7, n8, n9, n10, Ne.symm n1, Ne.symm n2, Ne.symm n3, Ne.symm n4, Ne.symm n5, Ne.symm n6, Ne.symm n7, Ne.symm n8, Ne.symm n9, Ne.symm n10]
/-! ### _law_holder -/
/-! ### _law_is -/
def spIs (K : PySem.W.Frag) (n : Nat) : Sp := fun vs H Q _ => ∃ (x y : V) (d : Hs) (g : Sg), vs = [x, y] ∧ depS g < n ∧ Dp K H x (stD d) ∧ Dp K H y (sgD g) ∧ KnS d g ∧ Ls d ∧ ∀ H', Same H H' → Q (.bl (isS d g)) H'
theorem scIs : FnScope ["_law_state", "_law_sight_here", "_law_word"] ["_law_state", "_law_sight_here"] (defScope sIs) := ⟨rfl, rfl, rfl, by decide +kernel, rfl, by decide +kernel, by decide +kernel⟩
theorem ok_is {f g1 g2 : Addr} {fd fd1 fd2 : FuncData} (F : Fun K "_law_is" "_law_is" sIs f fd) (mF : mg "_law_is" = some (.ref f)) (bF : Binds K fd ["_law_state", "_law_sight_here"] [])
    (G : FnOk P w K mg base CX0 1 g1 fd1 ["_law_state", "_law_item"] (spWhere K)) (mG : mg "_law_where" = some (.ref g1)) (kG : PySem.W.keepIn K (.ref g1) = true) (bG : Binds K fd1 ["_law_state", "_law_item"] [])
    (I : FnOk P w K mg base CX0 1 g2 fd2 ["_law_state", "_law_box"] (spInside K)) (mI : mg "_law_inside" = some (.ref g2)) (kI : PySem.W.keepIn K (.ref g2) = true) (bI : Binds K fd2 ["_law_state", "_law_box"] []) :
    ∀ n : Nat, FnOk P w K mg base CX0 (n + 1) f fd ["_law_state", "_law_sight_here"] (spIs K n) := by
  intro n
  induction n with
  | zero => exact ⟨fun vs H Q E h => by obtain ⟨_, _, _, _, _, h, _⟩ := h; omega, fun A outer s H args us vs Q E _ _ _ _ h => by obtain ⟨_, _, _, _, _, h, _⟩ := h; omega⟩
  | succ n R =>
  refine F.ok scIs (fun vs H Q E h => ?_) (fun cdv A outer s H vs Q E hr h => ?_)
  · obtain ⟨x, y, d, g, rfl, _⟩ := h
    rfl
  · obtain ⟨x, y, d, g, rfl, hn, hx, hy, hk, hL, k⟩ := h
    have hr1 : Room 1 _ := hr.mono (by omega)
    have hu : (cxOf CX0 P w K mg base ["_law_state", "_law_sight_here", "_law_word"] "_law_is" (defScope sIs) f cdv A outer s H E).nox.A.units + 64 < cLine := by have := hr.un; show (A.deeper _).units + 64 < cLine; omega
    have hu65 : (cxOf CX0 P w K mg base ["_law_state", "_law_sight_here", "_law_word"] "_law_is" (defScope sIs) f cdv A outer s H E).nox.A.units + 65 < cLine := by have := hr.un; show (A.deeper _).units + 65 < cLine; omega
    refine ⟨_, pss_cons (ps_set (i := 2) scIs.nd rfl (.inl rfl) (pe_ix ix_tup (pv 1) pe_int (fun _ _ => rfl)))
      (pss_cons (ps_if (pt_cmpR op_eq (pv 2) pe_str (nomark _)) (pss_one (ps_ret (pe_not (pe_call R hr rfl mF F.kp bF .nil pass0 (pa_cons (pv 0) (pa_cons (pe_ix ix_tup (pv 1) pe_int (fun _ _ => rfl)) pa_nil)))))) pss_nil)
      (pss_cons (ps_if (pt_cmpR op_eq (pv 2) pe_str (nomark _)) (pss_one (ps_ret (pe_cmpR (op_eqD hu) (pe_call G hr1 rfl mG kG bG .nil pass0 (pa_cons (pv 0) (pa_cons (pe_ix ix_tup (pv 1) pe_int (fun _ _ => rfl)) pa_nil))) (pe_ix ix_tup (pv 1) pe_int (fun _ _ => rfl)) (nomark _)))) pss_nil)
      (pss_cons (ps_if (pt_cmpR op_eq (pv 2) pe_str (nomark _)) (pss_one (ps_ret (pe_cmpR (op_notInDT hu65) (pe_tup (pa_cons pe_str (pa_cons (pe_ix ix_tup (pv 1) pe_int (fun _ _ => rfl)) pa_nil))) (pe_ix ix_tup (pv 0) pe_int (fun _ _ => rfl)) (by rfl)))) pss_nil)
      (pss_one (ps_ret (pe_ifExp (pt_cmpR op_eq (pv 2) pe_str (nomark _))
        (pe_cmpR (op_eqD hu) (pe_call I hr1 rfl mI kI bI .nil pass0 (pa_cons (pv 0) (pa_cons (pe_ix ix_tup (pv 1) pe_int (fun _ _ => rfl)) pa_nil))) (pe_ix ix_tup (pv 1) pe_int (fun _ _ => rfl)) (nomark _))
        (pe_cmpR (op_eqD hu) (pe_ix ix_tup (pe_ix ix_tup (pv 0) pe_int (fun _ _ => rfl)) (pe_ix ix_tup (pv 1) pe_int (fun _ _ => rfl)) (fun _ _ => rfl)) (pe_tup (pa_cons pe_str (pa_cons pe_int pa_nil))) (nomark _)))))))), ?_⟩
    obtain ⟨a, v1, v2, v3, rfl, sa, d1, d2, d3⟩ := st_at hx
    obtain ⟨as, xs, rfl, ss, ds, ls⟩ := pls_at d3
    obtain ⟨ay, vs, rfl, sy, dvs⟩ := sg_at hy
    refine ⟨_, rfl, ay, _, 0, _, rfl, rfl, sy, atI_nat (j := 0) rfl, ?_⟩
    refine ⟨_, rfl, rfl, _, rfl, ?_⟩
    rw [decS]
    cases g with
    | nt g =>
      cases dvs with
      | cons dg r =>
      cases r
      refine iteTe (decide_eq_true rfl) ⟨_, rfl, _, rfl, ay, _, 1, _, rfl, rfl, sy, rfl, .ref a, _, d, g, rfl, (by unfold depS at hn; omega), hx, dg, hk, hL, fun H' e => ?_⟩
      exact ⟨_, rfl, k H' e⟩
    | loc p q =>
      cases dvs with
      | cons dp r =>
      cases r with
      | cons dq r =>
      cases r
      refine iteFe (decide_eq_false (by simp only [sgW]; decide +kernel)) ⟨_, rfl, rfl, _, rfl, ?_⟩
      rw [decS]
      obtain ⟨q0, hq0⟩ := Option.isSome_iff_exists.mp (show (whereD d p).isSome from hk)
      refine iteTe (decide_eq_true rfl) ⟨_, rfl, _, rfl, ay, _, 1, _, rfl, rfl, sy, rfl, .ref a, _, d, p, q0, rfl, hx, dp, hq0, fun v H' e dv => ?_⟩
      refine ⟨_, rfl, ay, _, 2, _, rfl, rfl, SqT.same e sy, rfl, plD q0, plD q, dv, Dp.same e _ _ dq, shaped_pl _, shaped_pl _, ?_⟩
      rw [eqv_pl]
      have := k H' e
      unfold isS at this
      rw [hq0] at this
      simp only [Option.some.injEq] at this
      exact this
    | bare b =>
      cases dvs with
      | cons dp r =>
      cases r
      cases dp
      refine iteFe (decide_eq_false (by simp only [sgW]; decide +kernel)) ⟨_, rfl, rfl, _, rfl, ?_⟩
      rw [decS]
      refine iteFe (decide_eq_false (by simp only [sgW]; decide +kernel)) ⟨_, rfl, rfl, _, rfl, ?_⟩
      rw [decS]
      refine iteTe (decide_eq_true rfl) ⟨_, rfl, ay, _, 1, _, rfl, rfl, sy, rfl, (by show 2 ≤ sizeLine; decide), fun t ht => ?_⟩
      have f1 := same_upd (o := HO.tup [.str ("box" : Str), .int (b : Nat)]) ht
      refine ⟨_, rfl, a, _, 2, _, rfl, rfl, SqT.same f1 sa, rfl, plD (.box, (b : Int)), d.ss.map plD, .tup (SqT.of upd_same) (.cons (.str _) (.cons (.int _) .nil)), Dp.same f1 _ _ d3, shaped_pl _, shaped_pls d.ss, ?_⟩
      rw [any_pl, if_pos rfl]
      have := k _ f1
      unfold isS at this
      have e3 : (!d.ss.any fun z => decide (z = (Wd.box, (b : Int)))) = decide ((Wd.box, (b : Int)) ∉ d.ss) := by
        by_cases c : (Wd.box, (b : Int)) ∈ d.ss
        · rw [decide_eq_false (fun z => z c), List.any_eq_true.mpr ⟨_, c, decide_eq_true rfl⟩]; rfl
        · rw [decide_eq_true c, List.any_eq_false.mpr fun z hz e => c (by rw [← of_decide_eq_true e]; exact hz)]; rfl
      rw [e3]
      exact this
    | inn b l =>
      cases dvs with
      | cons dp r =>
      cases r with
      | cons dq r =>
      cases r
      cases dp
      refine iteFe (decide_eq_false (by simp only [sgW]; decide +kernel)) ⟨_, rfl, rfl, _, rfl, ?_⟩
      rw [decS]
      refine iteFe (decide_eq_false (by simp only [sgW]; decide +kernel)) ⟨_, rfl, rfl, _, rfl, ?_⟩
      rw [decS]
      refine iteFe (decide_eq_false (by simp only [sgW]; decide +kernel)) ⟨_, rfl, rfl, _, rfl, ?_⟩
      rw [decS]
      refine iteTe (decide_eq_true rfl) ⟨_, rfl, _, rfl, ay, _, 1, _, rfl, rfl, sy, rfl, .ref a, b, d, rfl, hx, hL, fun v H' e dv => ?_⟩
      refine ⟨_, rfl, ay, _, 2, _, rfl, rfl, SqT.same e sy, rfl, itsD (insideOf d b), itsD l, dv, Dp.same e _ _ dq, shaped_its _, shaped_its _, ?_⟩
      rw [eqv_its]
      exact k H' e
    | gone b =>
      cases dvs with
      | cons dp r =>
      cases r
      cases dp
      refine iteFe (decide_eq_false (by simp only [sgW]; decide +kernel)) ⟨_, rfl, rfl, _, rfl, ?_⟩
      rw [decS]
      refine iteFe (decide_eq_false (by simp only [sgW]; decide +kernel)) ⟨_, rfl, rfl, _, rfl, ?_⟩
      rw [decS]
      refine iteFe (decide_eq_false (by simp only [sgW]; decide +kernel)) ⟨_, rfl, rfl, _, rfl, ?_⟩
      rw [decS]
      obtain ⟨q, hq⟩ : ∃ q, d.ss[b]? = some q := ⟨_, List.getElem?_eq_getElem hk⟩
      obtain ⟨vq, g1, g2⟩ := DpAll.at2 ds (i := b) (d := plD q) (by rw [List.getElem?_map, hq]; rfl)
      refine iteFe (decide_eq_false (by simp only [sgW]; decide +kernel)) ⟨_, rfl, a, _, 2, _, rfl, rfl, sa, rfl, _, rfl, ay, _, 1, _, rfl, rfl, sy, rfl, as, xs, _, vq, rfl, rfl, ss, atI_nat g1, (by show 2 ≤ sizeLine; decide), fun t ht => ?_⟩
      have f1 := same_upd (o := HO.tup [.str ("gone" : Str), .int 0]) ht
      refine ⟨plD q, plD (.gone, 0), Dp.same f1 _ _ g2, .tup (SqT.of upd_same) (.cons (.str _) (.cons (.int _) .nil)), shaped_pl _, shaped_pl _, ?_⟩
      rw [eqv_pl]
      have := k _ f1
      unfold isS at this
      rw [hq] at this
      simp only [Option.some.injEq] at this
      exact this
end
end Kw



set_option Elab.async false
set_option linter.all false
set_option maxRecDepth 100000
set_option maxHeartbeats 4000000
namespace Kw
open PySem PySem.Spec PyProof.Rows L2
abbrev sNPlace : Stmt := top 26
abbrev sNSight : Stmt := top 43
abbrev sNLoads : Stmt := top 44
structure OnceF (P : Program) (w : World) (K : PySem.W.Frag) (mg : Str → Option Value) (base : Heap) (x : Str) (n : Nat) (ps : List Str) (sp : Sp) (g : Addr) (fd : FuncData) : Prop where
  G : FnOk P w K mg base CX0 n g fd ps sp
  m : mg x = some (.ref g)
  k : PySem.W.keepIn K (.ref g) = true
  b : Binds K fd ps []
structure OnceX (P : Program) (w : World) (K : PySem.W.Frag) (mg : Str → Option Value) (base : Heap) (x : Str) (n : Nat) (ps : List Str) (sp : Sp) (g : Addr) (fd : FuncData) : Prop where
  G : FnOk P w K mg base (L2N.CX P w) n g fd ps sp
  m : mg x = some (.ref g)
  k : PySem.W.keepIn K (.ref g) = true
  b : Binds K fd ps []
/-! ### the errors of a sight -/
def GoodI (d : Hs) (l : List It) : Prop := ∀ (i : Nat) p, l[i]? = some p → (inH d p ∧ p.1 ≠ .sl) ∧ ∀ p', 0 < i → l[i - 1]? = some p' → itLt p' p = true
open Classical in
noncomputable def unkS (d : Hs) : Sg → Str
  | .loc p q => if ¬ inH d p then "UnknownItem" else if q.1 = .hand then (if d.hands ≤ q.2 then "UnknownHand" else "") else if (d.bs.length : Int) ≤ q.2 then "UnknownBox" else ""
  | .bare b => if d.bs.length ≤ b then "UnknownBox" else ""
  | .inn b l => if d.bs.length ≤ b then "UnknownBox" else if GoodI d l then "" else "UnknownItem"
  | .gone s => if d.ss.length ≤ s then "UnknownSeal" else ""
  | .nt g => unkS d g
def SmS : Sg → Prop
  | .loc p q => p.2 ≤ 1000 ∧ 0 ≤ q.2 ∧ q.2 ≤ 1000
  | .bare b => b ≤ 1000
  | .inn b l => b ≤ 1000 ∧ l.length ≤ 1000 ∧ ∀ p ∈ l, p.2 ≤ 1000
  | .gone s => s ≤ 1000
  | .nt g => SmS g
section
variable {P : Program} {w : World} {K : PySem.W.Frag} {mg : Str → Option Value} {base : Heap}
/-! ### need_place -/
def plErr (d : Hs) (q : Pl) : Str := if q.1 = .hand then (if d.hands ≤ q.2 then "UnknownHand" else "") else if (d.bs.length : Int) ≤ q.2 then "UnknownBox" else ""
def spNPlace (K : PySem.W.Frag) (C : Addr) (ce : Str → Addr) : Sp := fun vs H Q E => ∃ (h : Addr) (y : V) (q : Pl) (d : Hs), vs = [.ref h, y] ∧ HouseAt K C H h d ∧ Dp K H y (plD q) ∧ 0 ≤ q.2 ∧ q.2 ≤ 1000 ∧
  (∀ z, plErr d q = z → z ≠ "" → Rp (ce z) H E) ∧ (plErr d q = "" → ∀ H', Same H H' → Q .non H')
theorem scNPlace : FnScope ["house", "place", "word", "number"] ["house", "place"] (defScope sNPlace) := ⟨rfl, rfl, rfl, by decide +kernel, rfl, by decide +kernel, by decide +kernel⟩
theorem ok_nplace {f g1 g2 C : Addr} {fd fd1 fd2 : FuncData} {ce : Str → Addr} (F : Fun K "need_place" "need_place" sNPlace f fd) (NH : NHandF P w K mg base C (ce "UnknownHand") g1 fd1) (NB : NBoxF P w K mg base C (ce "UnknownBox") g2 fd2) :
    FnOk P w K mg base (L2N.CX P w) 3 f fd ["house", "place"] (spNPlace K C ce) := by
  refine okN F scNPlace (fun vs H Q E h => ?_) (fun cdv A outer s H vs Q E hr h => ?_)
  · obtain ⟨h, y, q, d, rfl, _⟩ := h
    rfl
  · obtain ⟨h, y, q, d, rfl, hh, hy, h0, h1, kE, kQ⟩ := h
    have hr2 : Room 2 _ := hr
    have tk : L2N.Takes (cxOf (L2N.CX P w) P w K mg base ["house", "place", "word", "number"] "need_place" (defScope sNPlace) f cdv A outer s H E) (fun cls d _ H => E cls d H) := L2N.takes_of rfl rfl rfl rfl
    refine ⟨_, pss_cons (ps_asg (pv 1) (pg_tup (by rfl) (pgs_cons (pg_name (i := 2) scNPlace.nd rfl (.inl rfl)) (pgs_cons (pg_name (i := 3) scNPlace.nd rfl (.inl rfl)) pgs_nil))))
      (pss_one (ps_if (pt_cmpR op_eq (pv 2) pe_str (nomark _)) (pss_one (ps_expr (pe_call NH.G hr2 rfl NH.m NH.k NH.b .nil (L2N.passes_call tk (fun _ _ _ _ h => h)) (pa_cons (pv 0) (pa_cons (pv 3) pa_nil)))))
        (pss_one (ps_expr (pe_call NB.G hr2 rfl NB.m NB.k NB.b .nil (L2N.passes_call tk (fun _ _ _ _ h => h)) (pa_cons (pv 0) (pa_cons (pv 3) pa_nil))))))), ?_⟩
    obtain ⟨aq, rfl, sq⟩ := pl_at hy
    refine ⟨_, rfl, aq, _, rfl, sq, rfl, _, _, rfl, _, _, rfl, rfl, ?_⟩
    refine ⟨_, rfl, rfl, _, rfl, ?_⟩
    rw [decS]
    unfold plErr at kE kQ
    by_cases c : q.1 = .hand
    · rw [decide_eq_true (show q.1.str = ("hand" : Str) by rw [c]; rfl)]
      simp only [if_pos c] at kE kQ
      exact iteT ⟨_, rfl, _, rfl, h, q.2, d, rfl, hh, h0, h1, fun z => kE _ (if_pos z) ne_e1, fun z => kQ (if_neg (by omega)) _ (Same.refl _)⟩
    · rw [decide_eq_false (show ¬ q.1.str = ("hand" : Str) from fun z' => c (wd_inj (v := .hand) z'))]
      simp only [if_neg c] at kE kQ
      obtain ⟨n, hn⟩ := nat_of h0
      refine iteF ⟨_, rfl, _, rfl, h, n, d, (by rw [hn]; rfl), hh, by omega, fun z => kE _ (if_pos (by omega)) ne_e3, fun z => kQ (if_neg (by omega)) _ (Same.refl _)⟩
/-! ### need_loads -/
def spNLoads (K : PySem.W.Frag) (C X : Addr) : Sp := fun vs H Q E => ∃ (h : Addr) (y : V) (l : List It) (d : Hs), vs = [.ref h, y] ∧ HouseAt K C H h d ∧ Dp K H y (itsD l) ∧ l.length ≤ 1000 ∧ (∀ p ∈ l, p.2 ≤ 1000) ∧
  (¬ GoodI d l → Rp X H E) ∧ (GoodI d l → ∀ H', Same H H' → Q .non H')
theorem scNLoads : FnScope ["house", "items", "index", "item"] ["house", "items"] (defScope sNLoads) := ⟨rfl, rfl, rfl, by decide +kernel, rfl, by decide +kernel, by decide +kernel⟩
theorem its_get {H : Hp} {xs : List V} {l : List It} {i : Nat} {y : V} (h : DpAll K H xs (l.map itP)) (e : xs[i]? = some y) : ∃ p, l[i]? = some p ∧ Dp K H y (itP p) := by
  obtain ⟨d, hd1, hd2⟩ := DpAll.get h e
  rw [List.getElem?_map] at hd1
  cases hl : l[i]? with
  | none => rw [hl] at hd1; cases hd1
  | some p =>
    rw [hl] at hd1
    cases hd1
    exact ⟨p, rfl, hd2⟩
theorem ok_nloads {f g1 C : Addr} {fd fd1 : FuncData} {ce : Str → Addr} (F : Fun K "need_loads" "need_loads" sNLoads f fd) (B : Bt mg) (NL : NLoadF P w K mg base C (ce "UnknownItem") g1 fd1) (X1 : PErr K mg "UnknownItem" (ce "UnknownItem")) :
    FnOk P w K mg base (L2N.CX P w) 4 f fd ["house", "items"] (spNLoads K C (ce "UnknownItem")) := by
  refine okN F scNLoads (fun vs H Q E h => ?_) (fun cdv A outer s H vs Q E hr h => ?_)
  · obtain ⟨h, y, l, d, rfl, _⟩ := h
    rfl
  · obtain ⟨h, y, l, d, rfl, hh, hy, hl, hs, kE, kQ⟩ := h
    have hr1 : Room 1 _ := hr.mono (by decide)
    have hr2 : Room 2 _ := hr.mono (by decide)
    have hr3 : Room 3 _ := hr
    have tk : L2N.Takes (cxOf (L2N.CX P w) P w K mg base ["house", "items", "index", "item"] "need_loads" (defScope sNLoads) f cdv A outer s H E) (fun cls d _ H => E cls d H) := L2N.takes_of rfl rfl rfl rfl
    have hu : (cxOf (L2N.CX P w) P w K mg base ["house", "items", "index", "item"] "need_loads" (defScope sNLoads) f cdv A outer s H E).A.units < cLine := by have := hr.un; show (A.deeper _).units < cLine; omega
    refine ⟨_, pss_one (ps_for (passes_of rfl) rfl (pi_enumT (by rfl) B.enu (pa_cons (pv 1) pa_nil)) (pg_tup (by rfl) (pgs_cons (pg_name (i := 2) scNLoads.nd rfl (.inl rfl)) (pgs_cons (pg_name (i := 3) scNLoads.nd rfl (.inl rfl)) pgs_nil)))
        (pss_cons (ps_expr (pe_call NL.G hr3 rfl NL.m NL.k NL.b .nil (L2N.passes_call tk (fun _ _ _ _ h => h)) (pa_cons (pv 0) (pa_cons (pv 3) pa_nil))))
        (pss_one (ps_if (PW.pt (pw_and (pt_cmpR op_gt (pv 2) pe_int (nomark _)) (pw_and1 (pt_cmpR (op_leI hu) (pv 3) (pe_ix ix_tup (pv 1) (pe_op op_sub (pv 2) pe_int) (fun _ _ => rfl)) (nomark _)))))
          (pss_one (L2N.ps_raise rfl tk (pmk_own1N PySem.F.excBase_ValueError X1.ex X1.mg X1.kp (raises_own X1.sb X1.ty) rfl (pe_joined (.cons (pe_fmtI hr1 (pv 3)) (.cons pe_str .nil)))))) pss_nil)))), ?_⟩
    obtain ⟨ay, xs, rfl, sy, dl, lx⟩ := its_at hy
    refine ⟨_, rfl, ay, xs, rfl, sy, for_enumT (K := K) (a := ay) (xs := xs) (fun i σ H2 => ∃ v1 v2 : Option V, σ = [some (.ref h), some (.ref ay), v1, v2] ∧ Same H H2 ∧ ∀ (j : Nat) p, j < i → l[j]? = some p → (inH d p ∧ p.1 ≠ .sl) ∧ ∀ p', 0 < j → l[j - 1]? = some p' → itLt p' p = true)
      ⟨none, none, rfl, Same.refl H, fun j p h => absurd h (by omega)⟩ (fun i σ H2 _ ⟨_, _, _, e, _⟩ => SqT.same e sy) ?_ ?_⟩
    · rintro i y σ H2 T' hi ⟨v1, v2, rfl, e, hb⟩ hT
      obtain ⟨p, hp, hy1⟩ := its_get dl hi
      have f1 := same_upd (o := HO.tup [.int (i : Nat), y]) hT
      have e1 := e.trans f1
      have dp := Dp.same e1 _ _ hy1
      have sm := hs p (List.mem_of_getElem? hp)
      have hi1 := (List.getElem?_eq_some_iff.mp hi).1
      refine ⟨T', _, rfl, SqT.of upd_same, rfl, _, _, rfl, _, _, rfl, rfl, ?_⟩
      refine ⟨_, rfl, _, rfl, h, y, p, d, rfl, hh.nl (nl_same e1), dp, sm, fun z => (kE fun g => ?_).same e1, fun z => ?_⟩
      · obtain ⟨⟨g1, g2⟩, _⟩ := g i p hp
        exact z.elim (fun q => q g1) g2
      have gi : inH d p ∧ p.1 ≠ .sl := ⟨Classical.byContradiction fun q => z (.inl q), fun q => z (.inr q)⟩
      refine ⟨_, rfl, _, _, rfl, rfl, _, rfl, ?_⟩
      by_cases c0 : 0 < i
      · obtain ⟨y', hy'⟩ : ∃ y', xs[i - 1]? = some y' := ⟨_, List.getElem?_eq_getElem (by omega)⟩
        obtain ⟨p', hp', dp'⟩ := its_get dl hy'
        obtain ⟨ip, rfl, sp⟩ := it_at dp
        have dp'1 := Dp.same e1 _ _ dp'
        obtain ⟨ip', rfl, sp'⟩ := it_at dp'1
        refine iteTe (decide_eq_true (by omega)) ⟨_, rfl, _, rfl, _, rfl, _, _, rfl, rfl, ay, xs, ((i - 1 : Nat) : Int), _, rfl, congrArg V.int (by omega), SqT.same e1 sy, atI_nat hy', ip, ip', p, p', rfl, rfl, sp, sp', _, rfl, ?_⟩
        by_cases c1 : itLt p' p = true
        · rw [c1]
          refine iteF ⟨_, _, rfl, e1, fun j z hj hz => ?_⟩
          by_cases cj : j = i
          · subst cj
            rw [hp] at hz
            cases hz
            refine ⟨gi, fun q _ hq => ?_⟩
            rw [hp'] at hq
            cases hq
            exact c1
          · exact hb j z (by omega) hz
        · rw [Bool.eq_false_iff.mpr c1]
          have l5 := sizeLine_eq
          have l1 : (Str.empty : Str).length = 0 := rfl
          have l2 : (" does not ascend" : Str).length = 16 := by decide +kernel
          refine iteT ⟨_, rfl, ip, _, _, rfl, sp, (kd_len _).1, (kd_len _).2, by omega, by omega, fun m hm => ⟨_, rfl, by rw [str_app]; omega, _, rfl, by rw [str_app, str_app]; omega, (kE fun g => c1 ((g i p hp).2 p' c0 hp')) _ e1⟩⟩
      · refine iteFe (decide_eq_false (by omega)) ⟨_, _, rfl, e1, fun j z hj hz => ?_⟩
        by_cases cj : j = i
        · subst cj
          rw [hp] at hz
          cases hz
          exact ⟨gi, fun q h => absurd h c0⟩
        · exact hb j z (by omega) hz
    · rintro σ H2 ⟨v1, v2, rfl, e, hb⟩
      exact kQ (fun i p hp => hb i p (by have := (List.getElem?_eq_some_iff.mp hp).1; omega) hp) _ e
/-! ### need_sight -/
def spNSight (K : PySem.W.Frag) (C : Addr) (ce : Str → Addr) (n : Nat) : Sp := fun vs H Q E => ∃ (h : Addr) (y : V) (g : Sg) (d : Hs), vs = [.ref h, y] ∧ depS g < n ∧ HouseAt K C H h d ∧ Dp K H y (sgD g) ∧ SmS g ∧
  (∀ z, unkS d g = z → z ≠ "" → Rp (ce z) H E) ∧ (unkS d g = "" → ∀ H', Same H H' → Q .non H')
theorem scNSight : FnScope ["house", "sight", "item", "place", "box", "items", "seal", "other"] ["house", "sight"] (defScope sNSight) := ⟨rfl, rfl, rfl, by decide +kernel, rfl, by decide +kernel, by decide +kernel⟩
theorem ok_nsight {f gI gP gB gL gS C : Addr} {fd fdI fdP fdB fdL fdS : FuncData} {ce : Str → Addr} (F : Fun K "need_sight" "need_sight" sNSight f fd) (mF : mg "need_sight" = some (.ref f)) (bF : Binds K fd ["house", "sight"] [])
    (NI : NItemF P w K mg base C (ce "UnknownItem") gI fdI) (NP : OnceX P w K mg base "need_place" 3 ["house", "place"] (spNPlace K C ce) gP fdP) (NB : NBoxF P w K mg base C (ce "UnknownBox") gB fdB)
    (NL : OnceX P w K mg base "need_loads" 4 ["house", "items"] (spNLoads K C (ce "UnknownItem")) gL fdL) (NS : NSealF P w K mg base C (ce "UnknownSeal") gS fdS) :
    ∀ n : Nat, FnOk P w K mg base (L2N.CX P w) (n + 4) f fd ["house", "sight"] (spNSight K C ce n) := by
  intro n
  induction n with
  | zero => exact ⟨fun vs H Q E h => by obtain ⟨_, _, _, _, _, h, _⟩ := h; omega, fun A outer s H args us vs Q E _ _ _ _ h => by obtain ⟨_, _, _, _, _, h, _⟩ := h; omega⟩
  | succ n R =>
  refine okN F scNSight (fun vs H Q E h => ?_) (fun cdv A outer s H vs Q E hr h => ?_)
  · obtain ⟨h, y, g, d, rfl, _⟩ := h
    rfl
  · obtain ⟨h, y, g, d, rfl, hn, hh, hy, hm, kE, kQ⟩ := h
    have hr2 : Room 2 _ := hr.mono (by omega)
    have hr3 : Room 3 _ := hr.mono (by omega)
    have hr4 : Room 4 _ := hr.mono (by omega)
    have hrn : Room (n + 4) _ := hr.mono (by omega)
    have tk : L2N.Takes (cxOf (L2N.CX P w) P w K mg base ["house", "sight", "item", "place", "box", "items", "seal", "other"] "need_sight" (defScope sNSight) f cdv A outer s H E) (fun cls d _ H => E cls d H) := L2N.takes_of rfl rfl rfl rfl
    refine ⟨_, pss_one (ps_match rfl scNSight.nd (pv 1)
      (.cons (.name (i := 2) rfl rfl (.name (i := 3) rfl rfl .nil)) (pss_cons (ps_expr (pe_call NI.G hr3 rfl NI.m NI.k NI.b .nil (L2N.passes_call tk (fun _ _ _ _ h => h)) (pa_cons (pv 0) (pa_cons (pv 2) pa_nil))))
        (pss_one (ps_expr (pe_call NP.G hr3 rfl NP.m NP.k NP.b .nil (L2N.passes_call tk (fun _ _ _ _ h => h)) (pa_cons (pv 0) (pa_cons (pv 3) pa_nil))))))
      (.cons (.name (i := 4) rfl rfl .nil) (pss_one (ps_expr (pe_call NB.G hr2 rfl NB.m NB.k NB.b .nil (L2N.passes_call tk (fun _ _ _ _ h => h)) (pa_cons (pv 0) (pa_cons (pv 4) pa_nil)))))
      (.cons (.name (i := 4) rfl rfl (.name (i := 5) rfl rfl .nil)) (pss_cons (ps_expr (pe_call NB.G hr2 rfl NB.m NB.k NB.b .nil (L2N.passes_call tk (fun _ _ _ _ h => h)) (pa_cons (pv 0) (pa_cons (pv 4) pa_nil))))
        (pss_one (ps_expr (pe_call NL.G hr4 rfl NL.m NL.k NL.b .nil (L2N.passes_call tk (fun _ _ _ _ h => h)) (pa_cons (pv 0) (pa_cons (pv 5) pa_nil))))))
      (.cons (.name (i := 6) rfl rfl .nil) (pss_one (ps_expr (pe_call NS.G hr2 rfl NS.m NS.k NS.b .nil (L2N.passes_call tk (fun _ _ _ _ h => h)) (pa_cons (pv 0) (pa_cons (pv 6) pa_nil)))))
      (.cons (.name (i := 7) rfl rfl .nil) (pss_one (ps_expr (pe_call R hrn rfl mF F.kp bF .nil (L2N.passes_call tk (fun _ _ _ _ h => h)) (pa_cons (pv 0) (pa_cons (pv 7) pa_nil)))))
      .nil)))))), ?_⟩
    obtain ⟨yd, vs, rfl, sy, dvs⟩ := sg_at hy
    have z1 := Same.refl H
    refine ⟨_, rfl, yd, sgW g, _, rfl, sy, ?_⟩
    cases g with
    | loc p q =>
      obtain ⟨m1, m2, m3⟩ := hm
      cases dvs with
      | cons dp r =>
      cases r with
      | cons dq r =>
      cases r
      dsimp only [sgW] at *
      unfold unkS at kE kQ
      refine mGo_hit rfl rfl ?_
      refine ⟨_, rfl, _, rfl, h, _, p, d, rfl, hh, dp, m1, fun c => kE _ (if_pos c) ne_e2, fun c => ?_⟩
      have c' : ¬ ¬ inH d p := fun q => q c
      simp only [if_neg c'] at kE kQ
      exact ⟨_, rfl, _, rfl, h, _, q, d, rfl, hh, dq, m2, m3, fun z e => kE z (by unfold plErr at e; exact e), fun e => kQ (by unfold plErr at e; exact e)⟩
    | bare b =>
      cases dvs with
      | cons dp r =>
      cases r
      cases dp
      dsimp only [sgW] at *
      unfold unkS at kE kQ
      refine mGo_miss (by dsimp only; decide +kernel) (mGo_hit rfl rfl ?_)
      exact ⟨_, rfl, _, rfl, h, b, d, rfl, hh, hm, fun c => kE _ (if_pos c) ne_e3, fun c => kQ (if_neg (by omega)) _ z1⟩
    | inn b l =>
      obtain ⟨m1, m2, m3⟩ := hm
      cases dvs with
      | cons dp r =>
      cases r with
      | cons dq r =>
      cases r
      cases dp
      dsimp only [sgW] at *
      unfold unkS at kE kQ
      refine mGo_miss (by dsimp only; decide +kernel) (mGo_miss (by dsimp only; decide +kernel) (mGo_hit rfl rfl ?_))
      refine ⟨_, rfl, _, rfl, h, b, d, rfl, hh, m1, fun c => kE _ (if_pos c) ne_e3, fun c => ?_⟩
      have c' : ¬ d.bs.length ≤ b := by omega
      simp only [if_neg c'] at kE kQ
      exact ⟨_, rfl, _, rfl, h, _, l, d, rfl, hh, dq, m2, m3, fun c => kE _ (if_neg c) ne_e2, fun c => kQ (if_pos c)⟩
    | gone b =>
      cases dvs with
      | cons dp r =>
      cases r
      cases dp
      dsimp only [sgW] at *
      unfold unkS at kE kQ
      refine mGo_miss (by dsimp only; decide +kernel) (mGo_miss (by dsimp only; decide +kernel) (mGo_miss (by dsimp only; decide +kernel) (mGo_hit rfl rfl ?_)))
      exact ⟨_, rfl, _, rfl, h, b, d, rfl, hh, hm, fun c => kE _ (if_pos c) ne_e5, fun c => kQ (if_neg (by omega)) _ z1⟩
    | nt g =>
      cases dvs with
      | cons dg r =>
      cases r
      dsimp only [sgW] at *
      unfold unkS at kE kQ
      refine mGo_miss (by dsimp only; decide +kernel) (mGo_miss (by dsimp only; decide +kernel) (mGo_miss (by dsimp only; decide +kernel) (mGo_miss (by dsimp only; decide +kernel) (mGo_hit rfl rfl ?_))))
      exact ⟨_, rfl, _, rfl, h, _, g, d, rfl, (by unfold depS at hn; omega), hh, dg, hm, kE, kQ⟩
theorem scTrue : FnScope ["state", "sight", "item", "place", "box", "items", "seal"] ["state", "sight"] (defScope sTrue) := ⟨rfl, rfl, rfl, by decide +kernel, rfl, by decide +kernel, by decide +kernel⟩
theorem ok_true {f gP gO gL : Addr} {fd fdP fdO fdL : FuncData} (F : Fun K "is_true" "is_true" sTrue f fd) (B : Bt mg) (mF : mg "is_true" = some (.ref f)) (bF : Binds K fd ["state", "sight"] [])
    (G : PlF P w K mg base gP fdP) (O : OnF P w K mg base gO fdO) (L : OnceF P w K mg base "loads_at" 1 ["state", "place"] (spLoads K) gL fdL) :
    ∀ n : Nat, FnOk P w K mg base CX0 (n + 1) f fd ["state", "sight"] (spIs K n) := by
  intro n
  induction n with
  | zero => exact ⟨fun vs H Q E h => by obtain ⟨_, _, _, _, _, h, _⟩ := h; omega, fun A outer s H args us vs Q E _ _ _ _ h => by obtain ⟨_, _, _, _, _, h, _⟩ := h; omega⟩
  | succ n R =>
  refine F.ok scTrue (fun vs H Q E h => ?_) (fun cdv A outer s H vs Q E hr h => ?_)
  · obtain ⟨x, y, d, g, rfl, _⟩ := h
    rfl
  · obtain ⟨x, y, d, g, rfl, hn, hx, hy, hk, hL, k⟩ := h
    have hr1 : Room 1 _ := hr.mono (by omega)
    have hu : (cxOf CX0 P w K mg base ["state", "sight", "item", "place", "box", "items", "seal"] "is_true" (defScope sTrue) f cdv A outer s H E).nox.A.units + 64 < cLine := by have := hr.un; show (A.deeper _).units + 64 < cLine; omega
    refine ⟨_, pss_cons (ps_match rfl scTrue.nd (pv 1)
      (.cons (.name (i := 2) rfl rfl (.name (i := 3) rfl rfl .nil)) (pss_one (ps_ret (pe_cmpR (op_eqD hu) (pe_call G.G hr1 rfl G.m G.k G.b .nil pass0 (pa_cons (pv 0) (pa_cons (pv 2) pa_nil))) (pv 3) (nomark _))))
      (.cons (.name (i := 4) rfl rfl .nil) (pss_one (ps_ret (pe_cmp (pc_isN (pe_call O.G hr1 rfl O.m O.k O.b .nil pass0 (pa_cons (pv 0) (pa_cons (pv 4) pa_nil)))))))
      (.cons (.name (i := 4) rfl rfl (.name (i := 5) rfl rfl .nil)) (pss_one (ps_ret (pe_cmpR (op_eqD hu) (pe_callTy call_tuple_of (by rfl) B.tup (by decide +kernel) (pa_cons (pe_call L.G hr1 rfl L.m L.k L.b .nil pass0 (pa_cons (pv 0) (pa_cons (pe_tup (pa_cons pe_str (pa_cons (pv 4) pa_nil))) pa_nil))) pa_nil))
          (pe_callTy call_tuple_of (by rfl) B.tup (by decide +kernel) (pa_cons (pv 5) pa_nil)) (nomark _))))
      (.cons (.name (i := 6) rfl rfl .nil) (pss_one (ps_ret (pe_cmpR (op_eqD hu) (pe_call G.G hr1 rfl G.m G.k G.b .nil pass0 (pa_cons (pv 0) (pa_cons (pe_tup (pa_cons pe_str (pa_cons (pv 6) pa_nil))) pa_nil))) (pe_tup (pa_cons pe_str (pa_cons pe_int pa_nil))) (nomark _))))
      .nil)))))
      (pss_one (ps_ret (pe_not (pe_call R hr rfl mF F.kp bF .nil pass0 (pa_cons (pv 0) (pa_cons (pe_ix ix_tup (pv 1) pe_int (fun _ _ => rfl)) pa_nil)))))), ?_⟩
    obtain ⟨yd, vs, rfl, sy, dvs⟩ := sg_at hy
    refine ⟨_, rfl, yd, sgW g, _, rfl, sy, ?_⟩
    cases g with
    | loc p q =>
      cases dvs with
      | cons dp r =>
      cases r with
      | cons dq r =>
      cases r
      dsimp only [sgW] at *
      refine mGo_hit rfl rfl ?_
      obtain ⟨q0, hq0⟩ := Option.isSome_iff_exists.mp (show (whereD d p).isSome from hk)
      refine ⟨_, rfl, _, rfl, x, _, d, p, q0, rfl, hx, dp, hq0, fun v H' e dv => ?_⟩
      refine ⟨_, rfl, plD q0, plD q, dv, Dp.same e _ _ dq, shaped_pl _, shaped_pl _, ?_⟩
      rw [eqv_pl]
      have := k H' e
      unfold isS at this
      rw [hq0] at this
      simp only [Option.some.injEq] at this
      exact this
    | bare b =>
      cases dvs with
      | cons dp r =>
      cases r
      cases dp
      dsimp only [sgW] at *
      refine mGo_miss (by dsimp only; decide +kernel) (mGo_hit rfl rfl ?_)
      refine ⟨_, rfl, _, rfl, x, b, d, rfl, hx, fun hin H' e => ?_, fun hno H' e => ?_⟩
      · have := k H' e
        unfold isS at this
        rw [decide_eq_false (fun z => z hin)] at this
        exact this
      · have := k H' e
        unfold isS at this
        rw [decide_eq_true hno] at this
        exact this
    | inn b l =>
      cases dvs with
      | cons dp r =>
      cases r with
      | cons dq r =>
      cases r
      cases dp
      dsimp only [sgW] at *
      refine mGo_miss (by dsimp only; decide +kernel) (mGo_miss (by dsimp only; decide +kernel) (mGo_hit rfl rfl ?_))
      refine ⟨_, rfl, _, rfl, (by show 2 ≤ sizeLine; decide), fun t ht => ?_⟩
      have f1 := same_upd (o := HO.tup [.str ("box" : Str), .int (b : Nat)]) ht
      refine ⟨x, .ref t, d, (.box, (b : Int)), rfl, Dp.same f1 _ _ hx, .tup (SqT.of upd_same) (.cons (.str _) (.cons (.int _) .nil)), hL, fun p xs H' e hs ha => ?_⟩
      have e1 := f1.trans e
      refine ⟨p, xs, rfl, .inl ⟨SqL.of hs, fun t2 ht2 => ?_⟩⟩
      have f2 := same_upd (o := HO.tup xs) ht2
      have e2 := e1.trans f2
      obtain ⟨al, xl, rfl, sl, dl, _⟩ := its_at (Dp.same e2 _ _ dq)
      refine ⟨_, rfl, al, xl, rfl, .inr ⟨sl, itsD (insideOf d b), itsD l, .tup (SqT.of upd_same) (Dp.sames f2 _ _ ha), .tup sl dl, shaped_its _, shaped_its _, ?_⟩⟩
      rw [eqv_its]
      exact k _ e2
    | gone b =>
      cases dvs with
      | cons dp r =>
      cases r
      cases dp
      dsimp only [sgW] at *
      refine mGo_miss (by dsimp only; decide +kernel) (mGo_miss (by dsimp only; decide +kernel) (mGo_miss (by dsimp only; decide +kernel) (mGo_hit rfl rfl ?_)))
      obtain ⟨q, hq⟩ : ∃ q, d.ss[b]? = some q := ⟨_, List.getElem?_eq_getElem hk⟩
      refine ⟨_, rfl, _, rfl, (by show 2 ≤ sizeLine; decide), fun t ht => ?_⟩
      have f1 := same_upd (o := HO.tup [.str ("seal" : Str), .int (b : Nat)]) ht
      refine ⟨x, .ref t, d, (.sl, b), q, rfl, Dp.same f1 _ _ hx, .tup (SqT.of upd_same) (.cons (.str _) (.cons (.int _) .nil)), hq, fun v H' e dv => ?_⟩
      refine ⟨(by show 2 ≤ sizeLine; decide), fun t2 ht2 => ?_⟩
      have f2 := same_upd (o := HO.tup [.str ("gone" : Str), .int 0]) ht2
      refine ⟨plD q, plD (.gone, 0), Dp.same f2 _ _ dv, .tup (SqT.of upd_same) (.cons (.str _) (.cons (.int _) .nil)), shaped_pl _, shaped_pl _, ?_⟩
      rw [eqv_pl]
      have := k _ ((f1.trans e).trans f2)
      unfold isS at this
      rw [hq] at this
      simp only [Option.some.injEq] at this
      exact this
    | nt g =>
      cases dvs with
      | cons dg r =>
      cases r
      dsimp only [sgW] at *
      refine mGo_miss (by dsimp only; decide +kernel) (mGo_miss (by dsimp only; decide +kernel) (mGo_miss (by dsimp only; decide +kernel) (mGo_miss (by dsimp only; decide +kernel) ?_)))
      refine ⟨_, rfl, _, rfl, yd, _, 1, _, rfl, rfl, sy, rfl, x, _, d, g, rfl, (by unfold depS at hn; omega), hx, dg, hk, hL, fun H' e => ?_⟩
      exact ⟨_, rfl, k H' e⟩
/-! ### is_true -/
end
end Kw



set_option Elab.async false
set_option linter.all false
set_option maxRecDepth 100000
set_option maxHeartbeats 4000000
namespace Kw
open PySem PySem.Spec PyProof.Rows L2
/-! ### what a hand holds -/
def kdI (k : Kd) (n : Nat) : List It := (List.range n).map fun i => (k, i)
def allI (d : Hs) : List It := kdI .box d.bs.length ++ kdI .sl d.ss.length ++ kdI .thing d.ts.length
theorem kindD_its (k : Kd) (n : Nat) : kindD k.str n = (kdI k n).map itP := by
  unfold kindD kdI
  rw [List.map_map]
  rfl
theorem at_mem {l : List Pl} {k : Kd} {q : Pl} {p : It} (h : p ∈ atOf l k q) : p.1 = k ∧ l[p.2]? = some q := by
  unfold atOf at h
  obtain ⟨i, h1, rfl⟩ := List.mem_map.mp h
  exact ⟨rfl, of_decide_eq_true (List.mem_filter.mp h1).2⟩
theorem at_asc (l : List Pl) (k : Kd) (q : Pl) : (atOf l k q).Pairwise fun x y => itLt x y = true := by
  unfold atOf
  rw [List.pairwise_map]
  refine List.Pairwise.filter _ ?_
  refine List.Pairwise.imp ?_ List.pairwise_lt_range
  intro a b h
  exact itLt_iff.mpr (.inr ⟨rfl, h⟩)
theorem unk_knS {d : Hs} : ∀ {g : Sg}, SmS g → unkS d g = "" → KnS d g
  | .loc p q, _, h => by
    unfold unkS at h
    by_cases c : ¬ inH d p
    · rw [if_pos c] at h; exact absurd h ne_e2
    · exact inH_where (Classical.not_not.mp c)
  | .bare b, _, h => by
    unfold unkS at h
    by_cases c : d.bs.length ≤ b
    · rw [if_pos c] at h; exact absurd h ne_e3
    · show b < d.bs.length; omega
  | .inn b l, m, h => by
    unfold unkS at h
    by_cases c : d.bs.length ≤ b
    · rw [if_pos c] at h; exact absurd h ne_e3
    · exact ⟨by omega, m.2.1⟩
  | .gone b, _, h => by
    unfold unkS at h
    by_cases c : d.ss.length ≤ b
    · rw [if_pos c] at h; exact absurd h ne_e5
    · show b < d.ss.length; omega
  | .nt g, m, h => unk_knS (g := g) m (by unfold unkS at h; exact h)
theorem Shp.good {d0 d : Hs} (s : Shp d0 d) (l : List It) : GoodI d0 l ↔ GoodI d l := by
  unfold GoodI
  simp only [s.inH]
theorem unkS_shp {d0 d : Hs} (s : Shp d0 d) : ∀ g : Sg, unkS d0 g = unkS d g
  | .loc p q => by
    have hb : d0.bs.length = d.bs.length := s.r .box
    unfold unkS
    simp only [s.h, s.inH, hb]
  | .bare b => by
    have hb : d0.bs.length = d.bs.length := s.r .box
    unfold unkS
    simp only [hb]
  | .inn b l => by
    have hb : d0.bs.length = d.bs.length := s.r .box
    have hg := s.good l
    unfold unkS
    by_cases c : GoodI d l
    · simp only [hb, if_pos c, if_pos (hg.mpr c)]
    · simp only [hb, if_neg c, if_neg (fun z => c (hg.mp z))]
  | .gone b => by
    have hb : d0.ss.length = d.ss.length := s.r .sl
    unfold unkS
    simp only [hb]
  | .nt g => by
    unfold unkS
    exact unkS_shp s g
section
variable {P : Program} {w : World} {K : PySem.W.Frag} {mg : Str → Option Value} {base : Heap}
/-! ### need_box, of any whole number near 0 -/
structure WIn (K : PySem.W.Frag) (C CW : Addr) (H : Hp) (a h : Addr) (d0 d : Hs) : Prop where
  wd : WorldAt K CW H a h d
  hh : HouseAt K C H h d0
  sh : Shp d0 d
  ls : Ls d
theorem WIn.same {C CW : Addr} {H H' : Hp} {a h : Addr} {d0 d : Hs} (e : Same H H') (x : WIn K C CW H a h d0 d) : WIn K C CW H' a h d0 d := ⟨x.wd.same e, x.hh.nl (nl_same e), x.sh, x.ls⟩
/-! ### where, holder -/
/-! ### what is inside, what is on it -/
/-! ### held -/
/-! ### is_so -/
end
end Kw



set_option Elab.async false
set_option linter.all false
set_option maxRecDepth 100000
set_option maxHeartbeats 4000000
namespace Kw
open PySem PySem.Spec PyProof.Rows L2
theorem good_of {d : Hs} {l : List It} (h : ∀ p ∈ l, inH d p ∧ p.1 ≠ .sl) (hp : l.Pairwise fun x y => itLt x y = true) : GoodI d l := fun i p e => by
  refine ⟨h p (List.mem_of_getElem? e), fun p' h0 e' => ?_⟩
  obtain ⟨h1, rfl⟩ := List.getElem?_eq_some_iff.mp e
  obtain ⟨h2, rfl⟩ := List.getElem?_eq_some_iff.mp e'
  exact List.pairwise_iff_getElem.mp hp (i - 1) i h2 h1 (by omega)
theorem good_inside (d : Hs) (b : Nat) : GoodI d (insideOf d b) := by
  refine good_of (fun p hp => ?_) ?_
  · unfold insideOf loadsOf at hp
    rcases List.mem_append.mp hp with hp | hp
    · obtain ⟨a1, a2⟩ := at_mem hp
      refine ⟨?_, by rw [a1]; decide⟩
      unfold inH
      rw [a1]
      exact (List.getElem?_eq_some_iff.mp a2).1
    · obtain ⟨a1, a2⟩ := at_mem hp
      refine ⟨?_, by rw [a1]; decide⟩
      unfold inH
      rw [a1]
      exact (List.getElem?_eq_some_iff.mp a2).1
  · unfold insideOf loadsOf
    refine List.pairwise_append.mpr ⟨at_asc _ _ _, at_asc _ _ _, fun x hx y hy => ?_⟩
    obtain ⟨a1, _⟩ := at_mem hx
    obtain ⟨a2, _⟩ := at_mem hy
    exact itLt_iff.mpr (.inl (by rw [a1, a2]; decide))
theorem inside_len (d : Hs) (b : Nat) : (insideOf d b).length ≤ d.bs.length + d.ts.length := by
  unfold insideOf loadsOf
  rw [List.length_append]
  have := at_len d.bs .box (.box, (b : Int))
  have := at_len d.ts .thing (.box, (b : Int))
  omega
theorem inside_mem {d : Hs} {b : Nat} {p : It} (h : p ∈ insideOf d b) : p.2 < (rowOf d p.1).length := by
  obtain ⟨i, hi⟩ := mem_get h
  exact (good_inside d b i p hi).1.1
theorem allI_mem {d : Hs} {p : It} (h : p ∈ allI d) : inH d p := by
  unfold allI at h
  have one : ∀ k n, p ∈ kdI k n → p.1 = k ∧ p.2 < n := fun k n h => by
    unfold kdI at h
    obtain ⟨i, h1, rfl⟩ := List.mem_map.mp h
    exact ⟨rfl, List.mem_range.mp h1⟩
  unfold inH
  rcases List.mem_append.mp h with h | h
  · rcases List.mem_append.mp h with h | h <;> (obtain ⟨a, b⟩ := one _ _ h; rw [a]; exact b)
  · obtain ⟨a, b⟩ := one _ _ h
    rw [a]
    exact b
theorem allI_len (d : Hs) : (allI d).length = d.bs.length + d.ss.length + d.ts.length := by
  unfold allI kdI
  simp
  omega
def SgV (d : Hs) (g : Sg) : Prop := depS g ≤ 1 ∧ SmS g ∧ unkS d g = ""
section
variable {P : Program} {w : World} {K : PySem.W.Frag} {mg : Str → Option Value} {base : Heap}
/-! ### _law_hands -/
def spHands (K : PySem.W.Frag) (C : Addr) : Sp := fun vs H Q _ => ∃ (b l h : Addr) (d : Hs), vs = [.ref b, .ref h] ∧ BoxAt H b l ∧ HouseAt K C H h d ∧ 1 ≤ d.hands ∧ d.hands ≤ 4 ∧
  ∀ (t : Addr) (hs : List Nat) H', SqT K H' t (nV hs) → hs.length ≤ 4 → (∀ u ∈ hs, (u : Int) < d.hands) → hs.Pairwise (· < ·) → BoxAt H' b l → Kb b l H H' → Q (.ref t) H'
theorem scHands : FnScope ["_law_box", "_law_house_here", "_law_hand"] ["_law_box", "_law_house_here"] (defScope sHands) := ⟨rfl, rfl, rfl, by decide +kernel, rfl, by decide +kernel, by decide +kernel⟩
theorem ok_hands {f gT C : Addr} {fd fdT : FuncData} (F : Fun K "_law_hands" "_law_hands" sHands f fd) (B : Bt mg) (hc : HouseC K C) (GT : OnceF P w K mg base "_law_take" 1 ["_law_box", "_law_many"] spTake gT fdT) : FnOk P w K mg base CX0 2 f fd ["_law_box", "_law_house_here"] (spHands K C) := by
  refine F.ok scHands (fun vs H Q E h => ?_) (fun cdv A outer s H vs Q E hr h => ?_)
  · obtain ⟨b, l, h, d, rfl, _⟩ := h
    rfl
  · obtain ⟨b, l, h, d, rfl, hB, hh, h0, h1, k⟩ := h
    have hr1 : Room 1 _ := hr
    refine ⟨_, pss_one (ps_ret (pe_callTy call_tuple_of (by rfl) B.tup (by decide +kernel) (pa_cons (pe_lc (own := [("_law_hand", 2)]) (g := gName 2) (tt := tTest (tOp (rI0 fun i j => .bl (decide (j < i))) (tCall spTake [] E0 (tCons (tVar 0) (tCons (tC (.int 4)) tNil))) (tC (.int 0)))) (te := tVar 2) rfl scHands.nd
        (pi_range1 rfl B.rng (pa_cons (pe_fld (pv 1) rfl) pa_nil))
        (blkOk_by (own := [("_law_hand", 2)]) (N := ["_law_box", "_law_house_here", "_law_hand"]) (sc := defScope sHands) (by decide +kernel)) (fun _ _ _ _ _ => pg_name (i := 2) scHands.nd rfl (.inl rfl))
        (fun _ _ _ _ _ => pts_one (pt_cmpR op_gt (pe_call GT.G hr1 rfl GT.m GT.k GT.b .nil pass0 (pa_cons (pv 0) (pa_cons pe_int pa_nil))) pe_int (nomark _))) (fun _ _ _ _ _ => pv 2)) pa_nil))), ?_⟩
    obtain ⟨dx, vb, vt, vs, vst, g0, g1, g2, g3, g4⟩ := hh.ex
    refine ⟨_, rfl, h, C, dx, _, _, rfl, g0, hc.cl, hc.nH, fs_hands _ _ _ _ _, d.hands, rfl, by omega, by omega, fun D hD => ?_⟩
    obtain ⟨nb, nl⟩ := hB.neL hD
    refine lc_range (lo := 0) (n := d.hands.toNat) (fun i H' => Kb b l H H' ∧ BoxAt H' b l ∧ ∃ hs : List Nat, H' D = some (.lst (nV hs)) ∧ hs.length ≤ i ∧ (∀ u ∈ hs, u < i) ∧ hs.Pairwise (· < ·))
      ⟨(Kb.refl b l H).updD hD, hB.updD nb nl, [], upd_same, Nat.le_refl _, (fun u hu => by cases hu), .nil⟩ ?_ ?_
    · rintro i H' hi ⟨hk, hB1, hs, hhs, lhs, ohs, phs⟩
      refine ⟨wipe_one _ 2 _, ?_⟩
      refine ⟨_, rfl, b, l, 4, rfl, by omega, by omega, hB1, fun r H2 r0 r1 hB2 k2 => ⟨_, _, rfl, rfl, _, rfl, ?_⟩⟩
      have h2 := k2.kp.ls _ _ hhs nb nl
      have lnv : (nV hs).length = hs.length := by unfold nV; rw [List.length_map]
      refine ite_b _ (fun _ => ?_) (fun _ => ?_)
      · refine ⟨_, rfl, nV hs, h2, by rw [lnv, sizeLine_eq]; omega, (hk.trans k2).updD hD, hB2.updD nb nl, hs ++ [i], ?_, by rw [List.length_append]; simp; exact lhs, fun u hu => ?_, List.pairwise_append.mpr ⟨phs, List.pairwise_singleton _ _, fun x hx y hy => by rw [List.mem_singleton.mp hy]; exact ohs x hx⟩⟩
        · have : nV (hs ++ [i]) = nV hs ++ [.int (0 + (i : Int))] := by
            unfold nV
            rw [List.map_append, Int.zero_add]
            rfl
          rw [this]
          exact upd_same
        · rcases List.mem_append.mp hu with hu | hu
          · have := ohs u hu
            omega
          · rw [List.mem_singleton.mp hu]
            omega
      · exact ⟨hk.trans k2, hB2, hs, h2, by omega, (fun u hu => by have := ohs u hu; omega), phs⟩
    · rintro H' ⟨hk, hB1, hs, hhs, lhs, ohs, phs⟩
      refine ⟨D, nV hs, rfl, .inl ⟨SqL.of hhs, fun t ht => ?_⟩⟩
      exact k t hs _ (SqT.of upd_same) (by omega) (fun u hu => by have := ohs u hu; omega) phs (hB1.upd ht) (hk.trans (Kb.same (same_upd ht)))
/-! ### all items, with the list itself -/
def spItemsA (K : PySem.W.Frag) (C : Addr) : Sp := fun vs H Q _ => ∃ (h : Addr) (d : Hs), vs = [.ref h] ∧ HouseAt K C H h d ∧ d.bs.length ≤ 100 ∧ d.ts.length ≤ 100 ∧ d.ss.length ≤ 100 ∧ ∀ p H' xs, Same H H' → H p = none → H' p = some (.lst xs) → DpAll K H' xs ((allI d).map itP) → Q (.ref p) H'
theorem ok_itemsA {f C : Addr} {fd : FuncData} (F : Fun K "all_items" "House.all_items" sItems f fd) (B : Bt mg) (T : HouseC K C) : FnOk P w K mg base CX0 1 f fd ["self"] (spItemsA K C) := by
  refine F.ok scItems (fun vs H Q E h => ?_) (fun cdv A outer s H vs Q E hr h => ?_)
  · obtain ⟨h, d, rfl, _⟩ := h
    rfl
  · obtain ⟨h, d, rfl, hh, l1, l2, l3, k⟩ := h
    refine ⟨_, pss_cons (ps_setLc (i := 1) (own := [("number", 4)]) (g := gName 4) (tt := tYes) (te := tTup (tCons (tC (.str "box")) (tCons (tVar 4) tNil))) rfl scItems.nd rfl rfl (sw_true rfl rfl rfl (by decide +kernel)) (pi_range1 rfl B.rng (pa_cons (pe_callB call_len_seq (by rfl) B.len PySem.boot_len (pa_cons (pe_fld (pv 0) rfl) pa_nil)) pa_nil))
        (blkOk_by (own := [("number", 4)]) (N := ["self", "boxes", "seals", "things", "number"]) (sc := defScope sItems) (by decide +kernel)) (fun _ _ _ _ _ => pg_name (i := 4) scItems.nd rfl (.inl rfl)) (fun _ _ _ _ _ => pts_nil) (fun _ _ _ _ _ => pe_tup (pa_cons pe_str (pa_cons (pv 4) pa_nil))))
      (pss_cons (ps_setLc (i := 2) (own := [("number", 4)]) (g := gName 4) (tt := tYes) (te := tTup (tCons (tC (.str "seal")) (tCons (tVar 4) tNil))) rfl scItems.nd rfl rfl (sw_true rfl rfl rfl (by decide +kernel)) (pi_range1 rfl B.rng (pa_cons (pe_callB call_len_seq (by rfl) B.len PySem.boot_len (pa_cons (pe_fld (pv 0) rfl) pa_nil)) pa_nil))
        (blkOk_by (own := [("number", 4)]) (N := ["self", "boxes", "seals", "things", "number"]) (sc := defScope sItems) (by decide +kernel)) (fun _ _ _ _ _ => pg_name (i := 4) scItems.nd rfl (.inl rfl)) (fun _ _ _ _ _ => pts_nil) (fun _ _ _ _ _ => pe_tup (pa_cons pe_str (pa_cons (pv 4) pa_nil))))
      (pss_cons (ps_setLc (i := 3) (own := [("number", 4)]) (g := gName 4) (tt := tYes) (te := tTup (tCons (tC (.str "thing")) (tCons (tVar 4) tNil))) rfl scItems.nd rfl rfl (sw_true rfl rfl rfl (by decide +kernel)) (pi_range1 rfl B.rng (pa_cons (pe_callB call_len_seq (by rfl) B.len PySem.boot_len (pa_cons (pe_fld (pv 0) rfl) pa_nil)) pa_nil))
        (blkOk_by (own := [("number", 4)]) (N := ["self", "boxes", "seals", "things", "number"]) (sc := defScope sItems) (by decide +kernel)) (fun _ _ _ _ _ => pg_name (i := 4) scItems.nd rfl (.inl rfl)) (fun _ _ _ _ _ => pts_nil) (fun _ _ _ _ _ => pe_tup (pa_cons pe_str (pa_cons (pv 4) pa_nil))))
      (pss_one (ps_ret (pe_op op_cat (pe_op op_cat (pv 1) (pv 2)) (pv 3)))))), ?_⟩
    obtain ⟨dx, vb, vt, vs, vst, h0, h1, h2, h3, h4⟩ := hh.ex
    obtain ⟨ab, xb, rfl, qb, db, lb⟩ := pls_at h1
    obtain ⟨at', xt, rfl, qt, dt, lt⟩ := pls_at h2
    obtain ⟨as, xs, rfl, qs, ds, ls⟩ := pls_at h3
    have nn : ∀ n : Nat, ((n : Nat) : Int).toNat = n := fun n => by omega
    refine ⟨_, rfl, h, C, dx, _, .ref ab, rfl, h0, T.cl, T.nB, fs_boxes _ _ _ _ _, _, _, rfl, .inr qb, _, rfl, by omega, by omega, fun D1 hD1 => ?_⟩
    rw [nn]
    refine lc_kind (K := K) "box" xb.length 4 (show 4 < 5 by decide) (by omega) hD1 fun Ha ys1 e1 hy1 dy1 => ?_
    refine ⟨_, rfl, h, C, dx, _, .ref as, rfl, e1 _ _ h0, T.cl, T.nS, fs_seals _ _ _ _ _, _, _, rfl, .inr (SqT.same e1 qs), _, rfl, by omega, by omega, fun D2 hD2 => ?_⟩
    rw [nn]
    refine lc_kind (K := K) "seal" xs.length 4 (show 4 < 5 by decide) (by omega) hD2 fun Hb ys2 e2 hy2 dy2 => ?_
    refine ⟨_, rfl, h, C, dx, _, .ref at', rfl, e2 _ _ (e1 _ _ h0), T.cl, T.nT, fs_things _ _ _ _ _, _, _, rfl, .inr (SqT.same (e1.trans e2) qt), _, rfl, by omega, by omega, fun D3 hD3 => ?_⟩
    rw [nn]
    refine lc_kind (K := K) "thing" xt.length 4 (show 4 < 5 by decide) (by omega) hD3 fun Hc ys3 e3 hy3 dy3 => ?_
    have y1 := e3 _ _ (e2 _ _ hy1)
    have y2 := e3 _ _ hy2
    have b1 : ys1.length = xb.length := by rw [DpAll.len dy1]; simp [kindD]
    have b2 : ys2.length = xs.length := by rw [DpAll.len dy2]; simp [kindD]
    have b3 : ys3.length = xt.length := by rw [DpAll.len dy3]; simp [kindD]
    refine ⟨_, rfl, _, rfl, D1, D2, ys1, ys2, rfl, rfl, y1, y2, by rw [sizeLine_eq]; omega, fun p hp => ?_⟩
    have e4 : Same Hc (upd Hc p (.lst (ys1 ++ ys2))) := same_upd hp
    refine ⟨_, rfl, p, D3, _, ys3, rfl, rfl, upd_same, e4 _ _ hy3, by rw [List.length_append, sizeLine_eq]; omega, fun q hq => ?_⟩
    have e5 : Same Hc (upd (upd Hc p (.lst (ys1 ++ ys2))) q (.lst (ys1 ++ ys2 ++ ys3))) := Same.upd2 e4 hq
    have e6 := ((e1.trans e2).trans e3).trans e5
    have eq : (allI d).map itP = (kindD "box" xb.length ++ kindD "seal" xs.length) ++ kindD "thing" xt.length := by
      unfold allI
      rw [List.map_append, List.map_append, ← kindD_its, ← kindD_its, ← kindD_its, lb, ls, lt]
      rfl
    refine k q _ _ e6 ((((e1.trans e2).trans e3).trans e4).free hq) upd_same ?_
    rw [eq]
    refine DpAll.app (DpAll.app ?_ ?_) ?_
    · exact Dp.sames (e2.trans (e3.trans e5)) _ _ dy1
    · exact Dp.sames (e3.trans e5) _ _ dy2
    · exact Dp.sames e5 _ _ dy3
/-! ### _law_sight -/
def spSight (K : PySem.W.Frag) (C : Addr) : Sp := fun vs H Q _ => ∃ (b l h : Addr) (v : V) (d0 d : Hs), vs = [.ref b, .ref h, v] ∧ BoxAt H b l ∧ HouseAt K C H h d0 ∧ Dp K H v (stD d) ∧ Shp d0 d ∧ HsOk d0 ∧ Wf d ∧
  ∀ y g H', Dp K H' y (sgD g) → SgV d g → BoxAt H' b l → Kb b l H H' → Q y H'
theorem scSight : FnScope ["_law_box", "_law_house_here", "_law_state", "_law_item", "_law_kind", "_law_number", "_law_place", "_law_sight_here"] ["_law_box", "_law_house_here", "_law_state"] (defScope sSight) := ⟨rfl, rfl, rfl, by decide +kernel, rfl, by decide +kernel, by decide +kernel⟩
structure ItF (P : Program) (w : World) (K : PySem.W.Frag) (mg : Str → Option Value) (base : Heap) (C p g : Addr) (fd : FuncData) : Prop where
  Pr : PropOf K C "all_items" p g
  I : FnOk P w K mg base CX0 1 g fd ["self"] (spItemsA K C)
  b : Binds K fd ["self"] []
theorem noL_sg : ∀ g : Sg, noL (sgD g) = true
  | .loc p q => rfl
  | .bare b => rfl
  | .inn b l => by
    have : noLs (l.map itP) = true := noLs_map itP (fun _ => rfl) l
    simp [sgD, sgT, itsD, noL, noLs, this]
  | .gone b => rfl
  | .nt g => by
    have : noL (sgD g) = true := noL_sg g
    unfold sgD at this
    simp [sgD, sgT, noL, noLs] at this ⊢
    exact this
theorem ok_sight {f gT gP gW gI gN pI C : Addr} {fd fdT fdP fdW fdI fdN : FuncData} (F : Fun K "_law_sight" "_law_sight" sSight f fd) (B : Bt mg) (hc : HouseC K C) (GT : OnceF P w K mg base "_law_take" 1 ["_law_box", "_law_many"] spTake gT fdT)
    (GP : OnceF P w K mg base "_law_places" 2 ["_law_box", "_law_hands_here", "_law_many"] (spPlaces K) gP fdP) (GW : OnceF P w K mg base "_law_where" 1 ["_law_state", "_law_item"] (spWhere K) gW fdW) (GN : OnceF P w K mg base "_law_inside" 1 ["_law_state", "_law_box"] (spInside K) gN fdN) (IT : ItF P w K mg base C pI gI fdI) :
    FnOk P w K mg base CX0 3 f fd ["_law_box", "_law_house_here", "_law_state"] (spSight K C) := by
  refine F.ok scSight (fun vs H Q E h => ?_) (fun cdv A outer s H vs Q E hr h => ?_)
  · obtain ⟨b, l, h, v, d0, d, rfl, _⟩ := h
    rfl
  · obtain ⟨b, l, h, v, d0, d, rfl, hB, hh, hv, sh, hok, wf, k⟩ := h
    have hr1 : Room 1 _ := hr.mono (by decide)
    have hr2 : Room 2 _ := hr
    have hu : (cxOf CX0 P w K mg base ["_law_box", "_law_house_here", "_law_state", "_law_item", "_law_kind", "_law_number", "_law_place", "_law_sight_here"] "_law_sight" (defScope sSight) f cdv A outer s H E).nox.A.units + 64 < cLine := by have := hr.un; show (A.deeper _).units + 64 < cLine; omega
    have L0 : Ls d0 := ⟨by have := hok.b1; omega, by have := hok.t1; omega, by have := hok.s1; omega⟩
    have L1 := sh.ls L0
    have rb : d0.bs.length = d.bs.length := sh.r .box
    have rt : d0.ts.length = d.ts.length := sh.r .thing
    have rs : d0.ss.length = d.ss.length := sh.r .sl
    have o1 := hok.b1
    have o2 := hok.b0
    have o3 := hok.t1
    have o4 := hok.s1
    have o5 := hok.h0
    have o6 := hok.h1
    refine ⟨_, (pss_cons (ps_set (i := 3) scSight.nd rfl (.inl rfl) (pe_ix ix_list (pe_prop (pv 1) hc.cl IT.Pr IT.I hr2 IT.b .nil pass0 rfl) (pe_call GT.G hr1 rfl GT.m GT.k GT.b .nil pass0 (pa_cons (pv 0) (pa_cons (pe_callB call_len_seq (by rfl) B.len PySem.boot_len (pa_cons (pe_prop (pv 1) hc.cl IT.Pr IT.I hr2 IT.b .nil pass0 rfl) pa_nil)) pa_nil))) (fun _ _ => rfl))) (pss_cons (ps_par (i := 4) (j := 5) rfl scSight.nd rfl rfl (by decide) rfl rfl (pa_cons (pe_call GT.G hr1 rfl GT.m GT.k GT.b .nil pass0 (pa_cons (pv 0) (pa_cons pe_int pa_nil))) (pa_cons (pe_call GT.G hr1 rfl GT.m GT.k GT.b .nil pass0 (pa_cons (pv 0) (pa_cons (pe_callB call_len_seq (by rfl) B.len PySem.boot_len (pa_cons (pe_fld (pv 1) rfl) pa_nil)) pa_nil))) pa_nil)) (by rfl)) (pss_cons (ps_if (pt_cmpR op_lt (pv 4) pe_int (nomark _)) (pss_cons (ps_set (i := 6) scSight.nd rfl (.inl rfl) (pe_call GP.G hr2 rfl GP.m GP.k GP.b .nil pass0 (pa_cons (pv 0) (pa_cons (pe_fld (pv 1) rfl) (pa_cons (pe_callB call_len_seq (by rfl) B.len PySem.boot_len (pa_cons (pe_fld (pv 1) rfl) pa_nil)) pa_nil))))) (pss_cons (ps_set (i := 6) scSight.nd rfl (.inl rfl) (pe_ifExp (pt_cmpR op_gt (pe_call GT.G hr1 rfl GT.m GT.k GT.b .nil pass0 (pa_cons (pv 0) (pa_cons pe_int pa_nil))) pe_int (nomark _)) (pe_call GW.G hr1 rfl GW.m GW.k GW.b .nil pass0 (pa_cons (pv 2) (pa_cons (pv 3) pa_nil))) (pv 6))) (pss_one (ps_set (i := 7) scSight.nd rfl (.inl rfl) (pe_ifExp (pt_cmpR (op_neD hu) (pv 6) (pe_tup (pa_cons pe_str (pa_cons pe_int pa_nil))) (nomark _)) (pe_tup (pa_cons pe_str (pa_cons (pv 3) (pa_cons (pv 6) pa_nil)))) (pe_tup (pa_cons pe_str (pa_cons (pe_ix ix_tup (pv 3) pe_int (fun _ _ => rfl)) pa_nil)))))))) (pss_one (ps_if (pt_cmpR op_eq (pv 4) pe_int (nomark _)) (pss_one (ps_set (i := 7) scSight.nd rfl (.inl rfl) (pe_tup (pa_cons pe_str (pa_cons (pv 5) pa_nil))))) (pss_one (ps_if (PW.pt (pw_and (pt_cmpR op_eq (pv 4) pe_int (nomark _)) (pw_and1 (pt_cmpR (op_neD hu) (pe_fld (pv 1) rfl) (pe_tup pa_nil) (nomark _))))) (pss_one (ps_set (i := 7) scSight.nd rfl (.inl rfl) (pe_tup (pa_cons pe_str (pa_cons (pe_call GT.G hr1 rfl GT.m GT.k GT.b .nil pass0 (pa_cons (pv 0) (pa_cons (pe_callB call_len_seq (by rfl) B.len PySem.boot_len (pa_cons (pe_fld (pv 1) rfl) pa_nil)) pa_nil))) pa_nil))))) (pss_one (ps_set (i := 7) scSight.nd rfl (.inl rfl) (pe_tup (pa_cons pe_str (pa_cons (pv 5) (pa_cons (pe_call GN.G hr1 rfl GN.m GN.k GN.b .nil pass0 (pa_cons (pv 2) (pa_cons (pv 5) pa_nil))) pa_nil))))))))))) (pss_one (ps_ret (pe_ifExp (pt_cmpR op_gt (pe_call GT.G hr1 rfl GT.m GT.k GT.b .nil pass0 (pa_cons (pv 0) (pa_cons pe_int pa_nil))) pe_int (nomark _)) (pv 7) (pe_tup (pa_cons pe_str (pa_cons (pv 7) pa_nil))))))))), ?_⟩
    have fin : ∀ (σ : L2.St) (H2 : Hp) (y : V) (g : Sg), σ[0]? = some (some (.ref b)) → σ[7]? = some (some y) → Dp K H2 y (sgD g) → depS g = 0 → SmS g → unkS d g = "" → BoxAt H2 b l → Kb b l H H2 →
        tIf (tTest (tOp (rI0 fun i j => .bl (decide (j < i))) (tCall spTake [] E0 (tCons (tVar 0) (tCons (tC (.int 4)) tNil))) (tC (.int 0)))) (tVar 7) (tTup (tCons (tC (.str ("not" : Str))) (tCons (tVar 7) tNil))) σ H2 Q := by
      intro σ H2 y g h0 h7 dy dg sm un hB2 k2
      refine ⟨_, h0, b, l, 4, rfl, by omega, by omega, hB2, fun r H3 r0 r1 hB3 k3 => ⟨_, _, rfl, rfl, _, rfl, ?_⟩⟩
      have dy3 := Dp.nl k3.nl _ _ (noL_sg g) dy
      refine ite_b _ (fun _ => ⟨_, h7, ?_⟩) (fun _ => ⟨_, h7, (by show 2 ≤ sizeLine; decide), fun t ht => ?_⟩)
      · exact k y g H3 dy3 ⟨by omega, sm, un⟩ hB3 (k2.trans k3)
      · refine k (.ref t) (.nt g) _ (.tup (SqT.of upd_same) (.cons (.str _) (.cons (Dp.same (same_upd ht) _ _ dy3) .nil))) ⟨?_, sm, ?_⟩ (hB3.upd ht) ((k2.trans k3).trans (Kb.same (same_upd ht)))
        · show depS g + 1 ≤ 1
          omega
        · unfold unkS
          exact un
    -- the item
    obtain ⟨dx, vb, vt, vs, vst, g0, g1, g2, g3, g4⟩ := hh.ex
    refine ⟨_, rfl, h, dx, _, rfl, g0, h, d0, rfl, hh, L0.b, L0.t, L0.s, fun p H1 xs e1 hpn hp1 dp1 => ?_⟩
    obtain ⟨pb, pl⟩ := hB.neL hpn
    refine ⟨_, rfl, _, rfl, h, dx, _, rfl, e1 _ _ g0, h, d0, rfl, hh.nl (nl_same e1), L0.b, L0.t, L0.s, fun p2 H2 xs2 e2 hpn2 hp2 dp2 => ?_⟩
    have lx : xs.length = (allI d0).length := by rw [DpAll.len dp1, List.length_map]
    have lx2 : xs2.length = (allI d0).length := by rw [DpAll.len dp2, List.length_map]
    have la := allI_len d0
    have e12 := e1.trans e2
    refine ⟨p2, xs2, rfl, .inl (SqL.of hp2), b, l, (xs2.length : Nat), rfl, by omega, by omega, hB.same e12, fun r H3 r0 r1 hB3 k3 => ?_⟩
    obtain ⟨n, rfl⟩ := nat_of r0
    have hn : n < (allI d0).length := by omega
    have hp3 := k3.kp.ls _ _ (e2 _ _ hp1) pb pl
    obtain ⟨it, hit⟩ : ∃ it, (allI d0)[n]? = some it := ⟨_, List.getElem?_eq_getElem hn⟩
    obtain ⟨vi, i1, i2⟩ := DpAll.at2 (Dp.sames e2 _ _ dp1) (i := n) (d := itP it) (by rw [List.getElem?_map, hit]; rfl)
    have i3 := Dp.nl k3.nl _ _ rfl i2
    have inh0 := allI_mem (List.mem_of_getElem? hit)
    have inh := (sh.inH it).mp inh0
    have k03 := (Kb.same e12).trans k3
    refine ⟨p, xs, (n : Nat), vi, rfl, rfl, SqL.of hp3, atI_nat i1, ?_⟩
    -- the kind, the number
    refine ⟨_, rfl, b, l, 5, rfl, by omega, by omega, hB3, fun kd H4 kd0 kd1 hB4 k4 => ?_⟩
    have k04 := k03.trans k4
    have hh4 := hh.nl k04.nl
    obtain ⟨dx4, vb4, vt4, vs4, vst4, q0, q1, q2, q3, q4⟩ := id hh4.ex
    obtain ⟨ab, xb, rfl, sb, db, lb⟩ := pls_at q1
    refine ⟨_, rfl, _, rfl, h, C, dx4, _, _, rfl, q0, hc.cl, hc.nB, fs_boxes _ _ _ _ _, ab, xb, rfl, .inr sb, b, l, (xb.length : Nat), rfl, by omega, by omega, hB4, fun nb H5 nb0 nb1 hB5 k5 => ⟨_, _, rfl, ?_⟩⟩
    have k05 := k04.trans k5
    have hh5 := hh.nl k05.nl
    have hv5 := Dp.nl k05.nl _ _ (noL_st d) hv
    have i5 := Dp.nl (k4.trans k5).nl _ _ rfl i3
    obtain ⟨m, rfl⟩ := nat_of nb0
    have hm : m < d.bs.length := by omega
    refine ⟨_, rfl, _, _, rfl, rfl, _, rfl, ?_⟩
    obtain ⟨dx5, vb5, vt5, vs5, vst5, w0, w1, w2, w3, w4⟩ := id hh5.ex
    by_cases c1 : kd < 2
    · refine iteTe (decide_eq_true c1) ?_
      obtain ⟨ab5, xb5, rfl, sb5, db5, lb5⟩ := pls_at w1
      refine ⟨_, rfl, _, rfl, h, C, dx5, _, _, rfl, w0, hc.cl, hc.nH, fs_hands _ _ _ _ _, _, rfl, h, C, dx5, _, _, rfl, w0, hc.cl, hc.nB, fs_boxes _ _ _ _ _, ab5, xb5, rfl, .inr sb5, b, l, d0.hands, (xb5.length : Nat), rfl, by omega, by omega, by omega, by omega, hB5, fun v6 q H6 dq okq hB6 k6 => ?_⟩
      have k06 := k05.trans k6
      obtain ⟨x1, x2, x3⟩ := plOk_at okq
      refine ⟨_, rfl, b, l, 3, rfl, by omega, by omega, hB6, fun r7 H7 r70 r71 hB7 k7 => ⟨_, _, rfl, rfl, _, rfl, ?_⟩⟩
      have k07 := k06.trans k7
      have hv7 := Dp.nl k07.nl _ _ (noL_st d) hv
      have i7 := Dp.nl (k6.trans k7).nl _ _ rfl i5
      obtain ⟨q0', hq0'⟩ := Option.isSome_iff_exists.mp (inH_where inh)
      have PK := wf.pl it.1 it.2 q0' hq0'
      -- the place that is told
      have go : ∀ (vp : V) (q' : Pl) (H8 : Hp), Dp K H8 vp (plD q') → Kb b l H H8 → BoxAt H8 b l → Dp K H8 vi (itP it) → PlOk d it.1 q' →
          ∀ (σ : L2.St), σ = [some (.ref b), some (.ref h), some v, some vi, some (.int kd), some (.int (m : Nat)), some vp, none] →
          tIf (tTest (tOp (rNeD K) (tVar 6) (tTup (tCons (tC (.str ("gone" : Str))) (tCons (tC (.int 0)) tNil))))) (tTup (tCons (tC (.str ("at" : Str))) (tCons (tVar 3) (tCons (tVar 6) tNil)))) (tTup (tCons (tC (.str ("gone" : Str))) (tCons (tOp (rIxT K) (tVar 3) (tC (.int 1))) tNil))) σ H8 fun y H9 =>
            tIf (tTest (tOp (rI0 fun i j => .bl (decide (j < i))) (tCall spTake [] E0 (tCons (tVar 0) (tCons (tC (.int 4)) tNil))) (tC (.int 0)))) (tVar 7) (tTup (tCons (tC (.str ("not" : Str))) (tCons (tVar 7) tNil))) (σ.set 7 (some y)) H9 Q := by
        intro vp q' H8 dq' k8 hB8 i8 pk σ hσ
        subst hσ
        refine ⟨_, rfl, (by show 2 ≤ sizeLine; decide), fun t ht => ?_⟩
        have f1 := same_upd (o := HO.tup [.str ("gone" : Str), .int 0]) ht
        refine ⟨plD q', plD (.gone, 0), Dp.same f1 _ _ dq', .tup (SqT.of upd_same) (.cons (.str _) (.cons (.int _) .nil)), shaped_pl _, shaped_pl _, _, rfl, ?_⟩
        rw [eqv_pl]
        obtain ⟨ai, rfl, si⟩ := it_at i8
        obtain ⟨p1, p2, p3⟩ := pk
        by_cases c : q' = (.gone, 0)
        · rw [decide_eq_true c]
          refine iteF ⟨_, rfl, ai, _, 1, _, rfl, rfl, SqT.same f1 si, rfl, (by show 2 ≤ sizeLine; decide), fun t2 ht2 => ?_⟩
          have f2 := same_upd (o := HO.tup [.str ("gone" : Str), .int (it.2 : Nat)]) ht2
          have ks : it.1 = .sl := (p3 (by rw [c])).1
          have hs : it.2 < d.ss.length := by
            have := inh
            unfold inH at this
            rw [ks] at this
            exact this
          refine fin _ _ (.ref t2) (.gone it.2) rfl rfl (.tup (SqT.of upd_same) (.cons (.str _) (.cons (.int _) .nil))) rfl ?_ ?_ ((hB8.same f1).upd ht2) (k8.trans (Kb.same (f1.trans f2)))
          · show it.2 ≤ 1000
            omega
          · unfold unkS
            rw [if_neg (by omega)]
        · rw [decide_eq_false c]
          refine iteT ⟨_, rfl, _, rfl, (by show 3 ≤ sizeLine; decide), fun t2 ht2 => ?_⟩
          have f2 := same_upd (o := HO.tup [.str ("at" : Str), .ref ai, vp]) ht2
          have ng : q'.1 ≠ .gone := fun z => c (Prod.ext z (p3 z).2)
          refine fin _ _ (.ref t2) (.loc it q') rfl rfl (.tup (SqT.of upd_same) (.cons (.str _) (.cons (Dp.same (f1.trans f2) _ _ i8) (.cons (Dp.same (f1.trans f2) _ _ dq') .nil)))) rfl ?_ ?_ ((hB8.same f1).upd ht2) (k8.trans (Kb.same (f1.trans f2)))
          · have li := inh
            unfold inH at li
            have lr := L1.row it.1
            refine ⟨by omega, ?_⟩
            cases hq : q'.1 with
            | hand => have := p1 hq; have := sh.h; omega
            | box => obtain ⟨j, e1, e2⟩ := p2 hq; omega
            | gone => exact absurd hq ng
          · unfold unkS
            rw [if_neg (fun z => z inh)]
            by_cases ch : q'.1 = .hand
            · rw [if_pos ch, if_neg (by have := p1 ch; omega)]
            · have cb : q'.1 = .box := by
                cases hq : q'.1 with
                | hand => exact absurd hq ch
                | box => rfl
                | gone => exact absurd hq ng
              obtain ⟨j, e1, e2⟩ := p2 cb
              rw [if_neg ch, if_neg (by omega)]
      refine ite_b _ (fun _ => ?_) (fun _ => ?_)
      · refine ⟨_, rfl, _, rfl, v, vi, d, it, q0', rfl, hv7, i7, hq0', fun v8 H8 e8 d8 => ?_⟩
        exact go v8 q0' H8 d8 (k07.trans (Kb.same e8)) (hB7.same e8) (Dp.same e8 _ _ i7) PK _ rfl
      · refine ⟨_, rfl, go v6 q H7 (Dp.nl k7.nl _ _ (noL_pl q) dq) k07 hB7 i7 ⟨fun z => by have := x1 z; have := sh.h; omega, fun z => ?_, fun z => absurd z x3⟩ _ rfl⟩
        have := x2 z
        exact ⟨q.2.toNat, by omega, by omega⟩
    refine iteFe (decide_eq_false c1) ⟨_, rfl, rfl, _, rfl, ?_⟩
    rw [decZ]
    by_cases c2 : kd = 2
    · rw [decide_eq_true c2]
      refine iteT ⟨_, rfl, (by show 2 ≤ sizeLine; decide), fun t ht => ?_⟩
      refine fin _ _ (.ref t) (.bare m) rfl rfl (.tup (SqT.of upd_same) (.cons (.str _) (.cons (.int _) .nil))) rfl ?_ ?_ (hB5.upd ht) (k05.trans (Kb.same (same_upd ht)))
      · show m ≤ 1000
        omega
      · unfold unkS
        rw [if_neg (by omega)]
    rw [decide_eq_false c2]
    refine iteF ⟨_, rfl, rfl, _, rfl, ?_⟩
    rw [decZ]
    by_cases c3 : kd = 3
    · rw [decide_eq_true c3]
      obtain ⟨as5, xs5, rfl, ss5, ds5, ls5⟩ := pls_at w3
      refine iteT ⟨_, rfl, h, C, dx5, _, _, rfl, w0, hc.cl, hc.nS, fs_seals _ _ _ _ _, (by show 0 ≤ sizeLine; decide), fun t ht => ?_⟩
      have f1 := same_upd (o := HO.tup []) ht
      refine ⟨plsD d0.ss, plsD [], Dp.same f1 _ _ w3, .tup (SqT.of upd_same) .nil, shaped_pls _, shaped_pls _, _, rfl, ?_⟩
      rw [eqv_pls]
      by_cases c4 : d0.ss = []
      · rw [decide_eq_true c4]
        refine iteF ⟨_, rfl, _, rfl, _, rfl, v, m, d, rfl, Dp.same (f1) _ _ hv5, L1, fun v7 H7 e7 d7 => ⟨(by show 3 ≤ sizeLine; decide), fun t3 ht3 => ?_⟩⟩
        refine fin _ _ (.ref t3) (.inn m (insideOf d m)) rfl rfl (.tup (SqT.of upd_same) (.cons (.str _) (.cons (.int _) (.cons (Dp.same (same_upd ht3) _ _ d7) .nil)))) rfl ?_ ?_ (((hB5.same (f1)).same e7).upd ht3) ((k05.trans (Kb.same (f1))).trans ((Kb.same e7).trans (Kb.same (same_upd ht3))))
        · have li := inside_len d m
          exact ⟨by omega, by omega, fun p' hp' => by have := inside_mem hp'; have := L1.row p'.1; omega⟩
        · unfold unkS
          rw [if_neg (by omega), if_pos (good_inside d m)]
      · rw [decide_eq_false c4]
        have l1 : 1 ≤ d0.ss.length := by
          cases hs : d0.ss with
          | nil => exact absurd hs c4
          | cons a r => simp
        refine iteT ⟨_, rfl, _, rfl, h, C, dx5, _, _, rfl, f1 _ _ w0, hc.cl, hc.nS, fs_seals _ _ _ _ _, as5, xs5, rfl, .inr (SqT.same f1 ss5), b, l, (xs5.length : Nat), rfl, by omega, by omega, hB5.same f1, fun s6 H6 s60 s61 hB6 k6 => ⟨(by show 2 ≤ sizeLine; decide), fun t3 ht3 => ?_⟩⟩
        obtain ⟨j, rfl⟩ := nat_of s60
        refine fin _ _ (.ref t3) (.gone j) rfl rfl (.tup (SqT.of upd_same) (.cons (.str _) (.cons (.int _) .nil))) rfl ?_ ?_ (hB6.upd ht3) ((k05.trans ((Kb.same f1).trans k6)).trans (Kb.same (same_upd ht3)))
        · show j ≤ 1000
          omega
        · unfold unkS
          rw [if_neg (by omega)]
    · rw [decide_eq_false c3]
      refine iteF ⟨_, rfl, _, rfl, _, rfl, v, m, d, rfl, Dp.same (Same.refl H5) _ _ hv5, L1, fun v7 H7 e7 d7 => ⟨(by show 3 ≤ sizeLine; decide), fun t3 ht3 => ?_⟩⟩
      refine fin _ _ (.ref t3) (.inn m (insideOf d m)) rfl rfl (.tup (SqT.of upd_same) (.cons (.str _) (.cons (.int _) (.cons (Dp.same (same_upd ht3) _ _ d7) .nil)))) rfl ?_ ?_ (((hB5.same (Same.refl H5)).same e7).upd ht3) ((k05.trans (Kb.same (Same.refl H5))).trans ((Kb.same e7).trans (Kb.same (same_upd ht3))))
      · have li := inside_len d m
        exact ⟨by omega, by omega, fun p' hp' => by have := inside_mem hp'; have := L1.row p'.1; omega⟩
      · unfold unkS
        rw [if_neg (by omega), if_pos (good_inside d m)]
end
end Kw



set_option Elab.async false
set_option linter.all false
set_option maxRecDepth 100000
set_option maxHeartbeats 4000000
namespace Kw
open PySem PySem.Spec PyProof.Rows L2
theorem by_cont {T : VK → Prop} {Q : VK} (PP : V → Hp → Prop) (h : ∀ Q' : VK, (∀ x H', PP x H' → Q' x H') → T Q') (k : ∀ x H', PP x H' → Q x H') : T Q := h Q k
theorem nx_by {D : Ends} {σ : L2.St} {H : Hp} (h : D.nx σ H) : tNext D σ H := h
theorem seq_by {a b : TS} {D : Ends} {σ : L2.St} {H : Hp} (h : a { D with nx := b D } σ H) : tSeq a b D σ H := h
section
variable {P : Program} {w : World} {K : PySem.W.Frag} {mg : Str → Option Value} {base : Heap}
end
end Kw



set_option Elab.async false
set_option linter.all false
set_option maxRecDepth 100000
set_option maxHeartbeats 4000000
namespace Kw
open PySem PySem.Spec PyProof.Rows L2
/-- a hand that exists, behind a lesser one -/
def okH (n : Int) (zs : List Int) (i : Nat) : Prop := ∀ z, zs[i]? = some z → numOk z n = true ∧ ∀ z', 0 < i → zs[i - 1]? = some z' → z' < z
/-! ### rows of logs -/
inductive Rw where
  | gap (zs : List Int)
  | deed (e : Dd)
  | sight (g : Sg)
def intsD (zs : List Int) : PyData := .tuple (zs.map .int)
def rwD : Rw → PyData
  | .gap zs => .tuple [.str "gap", intsD zs]
  | .deed e => ddD e
  | .sight g => sgD g
/-- a row that can be by itself -/
def okR (d : Hs) : Rw → Prop
  | .gap zs => ∀ i, okH d.hands zs i
  | .deed e => unkOf d e = ""
  | .sight g => unkS d g = ""
def SmR : Rw → Prop
  | .gap zs => zs.length ≤ 100
  | .deed e => Sm e
  | .sight g => SmS g ∧ depS g < 2
theorem ints_at {K : PySem.W.Frag} {H : Hp} : ∀ {xs : List V} {zs : List Int}, DpAll K H xs (zs.map PyData.int) → xs = zs.map V.int
  | _, [], .nil => rfl
  | _, z :: zs, .cons h t => by
    cases h
    rw [ints_at (zs := zs) t]
    rfl
theorem noLs_ints : ∀ zs : List Int, noLs (zs.map PyData.int) = true
  | [] => rfl
  | z :: zs => by
    show (noL (.int z) && noLs (zs.map PyData.int)) = true
    rw [noLs_ints zs]
    rfl
theorem noL_rw : ∀ r : Rw, noL (rwD r) = true
  | .gap zs => by
    show (noL (.str "gap") && (noLs (zs.map PyData.int) && true)) = true
    rw [noLs_ints]
    rfl
  | .deed e => noL_dd e
  | .sight g => noL_sg g
theorem noLs_rw : ∀ rs : List Rw, noLs (rs.map rwD) = true := fun rs => noLs_map rwD noL_rw rs
/-- what a story's rows are -/
def RwOk (d : Hs) (r : Rw) : Prop := okR d r ∧ SmR r
def hsZ (hs : List Nat) : List Int := hs.map fun (h : Nat) => (h : Int)
theorem hsZ_V (hs : List Nat) : (hsZ hs).map V.int = nV hs := by
  unfold hsZ nV
  rw [List.map_map]
  rfl
theorem okH_of {n : Int} {hs : List Nat} (h1 : ∀ u ∈ hs, (u : Int) < n) (h2 : hs.Pairwise (· < ·)) : ∀ i, okH n (hsZ hs) i := by
  intro i z hz
  unfold hsZ at hz
  rw [List.getElem?_map] at hz
  cases e : hs[i]? with
  | none => rw [e] at hz; cases hz
  | some u =>
    rw [e] at hz
    cases hz
    have um := List.mem_of_getElem? e
    refine ⟨numOk_of (by show (0 : Int) ≤ (u : Nat); omega) (h1 u um), fun z' h0 hz' => ?_⟩
    unfold hsZ at hz'
    rw [List.getElem?_map] at hz'
    cases e' : hs[i - 1]? with
    | none => rw [e'] at hz'; cases hz'
    | some u' =>
      rw [e'] at hz'
      cases hz'
      obtain ⟨i1, q1⟩ := List.getElem?_eq_some_iff.mp e
      obtain ⟨i2, q2⟩ := List.getElem?_eq_some_iff.mp e'
      have := List.pairwise_iff_getElem.mp h2 (i - 1) i i2 i1 (by omega)
      rw [q1, q2] at this
      show (u' : Int) < (u : Int)
      omega
theorem not_le_of {a b : Int} (h : a < b) : ¬ b ≤ a := by omega
theorem unk_of {d : Hs} {e : Dd} (kn : Kn d e) (hb : Hb d e) : unkOf d e = "" := by
  have wl : ∀ {p : It}, (whereD d p).isSome = true → inH d p := fun {p} h => by
    obtain ⟨q, hq⟩ := Option.isSome_iff_exists.mp h
    exact where_lt hq
  have hh : ∀ e : Dd, Kn d e → Hb d e → ¬ d.hands ≤ (e.hand : Nat) := fun e _ hb => by
    cases e with
    | give h p o => exact not_le_of hb.1
    | put h p b => exact not_le_of hb.1
    | take h p b => exact not_le_of hb.1
    | lock h b s => exact not_le_of hb
    | brk h b => exact not_le_of hb
  unfold unkOf
  rw [if_neg (hh e kn hb)]
  have no : ∀ {p : It} {q : Prop}, (whereD d p).isSome = true → ¬ q → ¬ (¬ inH d p ∨ q) := fun {p q} h1 h2 z => by
    rcases z with z | z
    · exact z (wl h1)
    · exact h2 z
  cases e with
  | give h p o =>
    have n1 : ¬ (d.hands ≤ (o : Nat) ∨ o = h) := fun z => by
      rcases z with z | z
      · exact not_le_of hb.2.1 z
      · exact hb.2.2 z
    exact (if_neg (fun z => z (wl kn))).trans (if_neg n1)
  | put h p b =>
    have h2 : b < d.bs.length := kn.2
    exact (if_neg (no kn.1 hb.2.2)).trans ((if_neg (by omega)).trans (if_neg hb.2.1))
  | take h p b =>
    have h2 : b < d.bs.length := kn.2
    exact (if_neg (no kn.1 hb.2.2)).trans ((if_neg (by omega)).trans (if_neg hb.2.1))
  | lock h b s =>
    have h2 : b < d.bs.length := kn.1
    have h3 : s < d.ss.length := kn.2
    exact (if_neg (by omega)).trans (if_neg (by omega))
  | brk h b =>
    have h2 : b < d.bs.length := kn
    exact if_neg (by omega)
end Kw


set_option Elab.async false
set_option linter.all false
set_option maxRecDepth 100000
set_option maxHeartbeats 4000000
namespace Kw
open PySem PySem.Spec PyProof.Rows L2
theorem seq_cont {t u : TS} {D : Ends} {σ : L2.St} {H : Hp} (PP : L2.St → Hp → Prop) (h : ∀ D' : Ends, (∀ σ' H', PP σ' H' → D'.nx σ' H') → t D' σ H) (k : ∀ σ' H', PP σ' H' → u D σ' H') : tSeq t u D σ H := h _ k
theorem ifs_by {c : TT} {t u : TS} {D : Ends} {σ : L2.St} {H : Hp} (PP : Bool → Hp → Prop) (h : ∀ Q' : Bool → Hp → Prop, (∀ b H', PP b H' → Q' b H') → c σ H Q') (k1 : ∀ H', PP true H' → t D σ H') (k2 : ∀ H', PP false H' → u D σ H') : tIfS c t u D σ H :=
  h _ fun b H' p => by
    cases b with
    | true => exact k1 H' p
    | false => exact k2 H' p
theorem at_last {α : Type} (xs : List α) (x : α) : atI (xs ++ [x]) (-1) = some x := by
  unfold atI ixN
  rw [if_neg (by omega), if_pos (by rw [List.length_append]; simp; omega), List.length_append]
  show (xs ++ [x])[((-1 : Int) + ((xs.length + [x].length : Nat) : Int)).toNat]? = some x
  rw [show ((-1 : Int) + ((xs.length + [x].length : Nat) : Int)).toNat = xs.length by simp; omega, List.getElem?_append_right (Nat.le_refl _), Nat.sub_self]
  rfl
theorem HsOk.ls {d : Hs} (h : HsOk d) : Ls d := ⟨by have := h.b1; omega, by have := h.t1; omega, by have := h.s1; omega⟩
theorem shaped_dds (es : List Dd) : SeqAt.shaped (.list (es.map ddD)) = true := by
  have go : ∀ l : List Dd, PyData.canLayAll0 (l.map ddD) = true := by
    intro l
    induction l with
    | nil => rfl
    | cons a r ih =>
      show (PyData.canLay0 (ddD a) && PyData.canLayAll0 (r.map ddD)) = true
      rw [ih, (sd_dd a).lay]
      rfl
  have hd : ∀ l : List Dd, PyData.depthAll (l.map ddD) ≤ 10 := by
    intro l
    induction l with
    | nil => exact Nat.zero_le _
    | cons a r ih =>
      have h1 := (sd_dd a).dep
      show max (PyData.depth (ddD a)) (PyData.depthAll (r.map ddD)) ≤ 10
      omega
  have h1 := hd es
  simp [SeqAt.shaped, PyData.canLay0, PyData.depth, go es]
  omega
theorem rg_nV (n : Nat) : rgV 0 (n : Int) = nV (List.range n) := by
  unfold rgV nV
  rw [show ((n : Int) - 0).toNat = n by omega]
  refine List.map_congr_left fun i _ => ?_
  rw [Int.zero_add]
theorem Kb.fresh {b l : Addr} {H0 H : Hp} {Z : Addr} (k : Kb b l H0 H) (hB : BoxAt H b l) (hZ : H Z = none) : H0 Z = none := by
  obtain ⟨n1, n2⟩ := hB.neL hZ
  cases h : H0 Z with
  | none => rfl
  | some o =>
    by_cases c1 : ∃ xs, o = .lst xs
    · obtain ⟨xs, rfl⟩ := c1
      have := k.kp.ls _ _ h n1 n2
      rw [hZ] at this
      cases this
    · by_cases c2 : ∃ ps, o = .tbl ps
      · obtain ⟨ps, rfl⟩ := c2
        have := k.tb _ _ h
        rw [hZ] at this
        cases this
      · have := k.kp.nl _ _ h (fun xs z => c1 ⟨xs, z⟩) (fun ps z => c2 ⟨ps, z⟩)
        rw [hZ] at this
        cases this
/-- what a story keeps -/
structure SI (K : PySem.W.Frag) (C b l h R M S : Addr) (d0 : Hs) (H0 : Hp) (n nr : Nat) (v : V) (d : Hs) (H : Hp) : Prop where
  bx : BoxAt H b l
  hh : HouseAt K C H h d0
  st : StF K H v d
  sh : Shp d0 d
  wf : Wf d
  kb : Kb b l H0 H
  r : ∃ (xs : List V) (rs : List Rw), H R = some (.lst xs) ∧ DpAll K H xs (rs.map rwD) ∧ xs.length = nr ∧ ∀ r ∈ rs, RwOk d0 r
  m : ∃ xs, H M = some (.lst xs) ∧ xs.length ≤ n
  s : ∃ xs, H S = some (.lst xs) ∧ xs.length ≤ n
/-- addresses apart -/
structure SA (b l R M S : Addr) (H0 : Hp) : Prop where
  r0 : H0 R = none
  m0 : H0 M = none
  s0 : H0 S = none
  rb : R ≠ b ∧ R ≠ l
  mb : M ≠ b ∧ M ≠ l
  sb : S ≠ b ∧ S ≠ l
  rm : R ≠ M
  rs : R ≠ S
  ms : M ≠ S
section
variable {K : PySem.W.Frag} {C b l h R M S : Addr} {d0 d : Hs} {H0 H H' : Hp} {n nr : Nat} {v : V}
theorem SI.keep (a : SA b l R M S H0) (k : Kb b l H H') (hB : BoxAt H' b l) (x : SI K C b l h R M S d0 H0 n nr v d H) : SI K C b l h R M S d0 H0 n nr v d H' := by
  obtain ⟨r, rs, r1, r2, r3, r4⟩ := x.r
  obtain ⟨m, m1, m2⟩ := x.m
  obtain ⟨s, s1, s2⟩ := x.s
  exact ⟨hB, x.hh.nl k.nl, x.st.nl k.nl, x.sh, x.wf, x.kb.trans k, ⟨r, rs, k.kp.ls _ _ r1 a.rb.1 a.rb.2, Dp.nls k.nl _ _ (noLs_rw rs) r2, r3, r4⟩, ⟨m, k.kp.ls _ _ m1 a.mb.1 a.mb.2, m2⟩, ⟨s, k.kp.ls _ _ s1 a.sb.1 a.sb.2, s2⟩⟩
theorem SI.same (a : SA b l R M S H0) (e : Same H H') (x : SI K C b l h R M S d0 H0 n nr v d H) : SI K C b l h R M S d0 H0 n nr v d H' := x.keep a (Kb.same e) (x.bx.same e)
/-- another list than that of rows -/
theorem SI.updM (a : SA b l R M S H0) {D : Addr} {xs ys : List V} (hD : H D = some (.lst xs)) (f : H0 D = none) (n1 : D ≠ b ∧ D ≠ l) (n2 : R ≠ D) (hy : ys.length ≤ n + 1) (x : SI K C b l h R M S d0 H0 n nr v d H) : SI K C b l h R M S d0 H0 (n + 1) nr v d (L2.upd H D (.lst ys)) := by
  have k := nl_updL (ys := ys) hD
  have one : ∀ Z, (∃ zs, H Z = some (.lst zs) ∧ zs.length ≤ n) → ∃ zs, (L2.upd H D (.lst ys)) Z = some (.lst zs) ∧ zs.length ≤ n + 1 := fun Z ⟨zs, z1, z2⟩ => by
    by_cases c : Z = D
    · subst c
      exact ⟨ys, upd_same, hy⟩
    · exact ⟨zs, by rw [upd_ne c]; exact z1, by omega⟩
  obtain ⟨r, rs, r1, r2, r3, r4⟩ := x.r
  exact ⟨x.bx.updD n1.1 n1.2, x.hh.nl k, x.st.nl k, x.sh, x.wf, x.kb.updD f, ⟨r, rs, by rw [upd_ne n2]; exact r1, Dp.nls k _ _ (noLs_rw rs) r2, r3, r4⟩, one _ x.m, one _ x.s⟩
theorem SI.updR (a : SA b l R M S H0) {xs : List V} {y : V} {r : Rw} (hD : H R = some (.lst xs)) (dy : Dp K H y (rwD r)) (ok : RwOk d0 r) (x : SI K C b l h R M S d0 H0 n nr v d H) : SI K C b l h R M S d0 H0 n (nr + 1) v d (L2.upd H R (.lst (xs ++ [y]))) := by
  have k := nl_updL (ys := xs ++ [y]) hD
  obtain ⟨z, rs, r1, r2, r3, r4⟩ := x.r
  rw [hD] at r1
  cases r1
  obtain ⟨m, m1, m2⟩ := x.m
  obtain ⟨s, s1, s2⟩ := x.s
  refine ⟨x.bx.updD a.rb.1 a.rb.2, x.hh.nl k, x.st.nl k, x.sh, x.wf, x.kb.updD a.r0, ⟨xs ++ [y], rs ++ [r], upd_same, ?_, by rw [List.length_append, r3]; rfl, fun q hq => ?_⟩, ⟨m, by rw [upd_ne a.rm.symm]; exact m1, m2⟩, ⟨s, by rw [upd_ne a.rs.symm]; exact s1, s2⟩⟩
  · rw [List.map_append]
    exact DpAll.app (Dp.nls k _ _ (noLs_rw rs) r2) (.cons (Dp.nl k _ _ (noL_rw r) dy) .nil)
  · rcases List.mem_append.mp hq with hq | hq
    · exact r4 q hq
    · rw [List.mem_singleton.mp hq]
      exact ok
theorem SI.updZ (a : SA b l R M S H0) {D : Addr} {xs ys : List V} (hD : H D = some (.lst xs)) (f : H0 D = none) (n1 : D ≠ b ∧ D ≠ l) (n2 : R ≠ D ∧ M ≠ D ∧ S ≠ D) (x : SI K C b l h R M S d0 H0 n nr v d H) : SI K C b l h R M S d0 H0 n nr v d (L2.upd H D (.lst ys)) := by
  have k := nl_updL (ys := ys) hD
  obtain ⟨r, rs, r1, r2, r3, r4⟩ := x.r
  obtain ⟨m, m1, m2⟩ := x.m
  obtain ⟨s, s1, s2⟩ := x.s
  exact ⟨x.bx.updD n1.1 n1.2, x.hh.nl k, x.st.nl k, x.sh, x.wf, x.kb.updD f, ⟨r, rs, by rw [upd_ne n2.1]; exact r1, Dp.nls k _ _ (noLs_rw rs) r2, r3, r4⟩, ⟨m, by rw [upd_ne n2.2.1]; exact m1, m2⟩, ⟨s, by rw [upd_ne n2.2.2]; exact s1, s2⟩⟩
theorem SI.next {e : Dd} {v' : V} (x : SI K C b l h R M S d0 H0 n nr v d H) (st : StF K H v' (nextOf d e)) (kn : Kn d e) (hb : Hb d e) (br : barOf d e = "") : SI K C b l h R M S d0 H0 n nr v' (nextOf d e) H :=
  ⟨x.bx, x.hh, st, x.sh.trans (Shp.next d e), x.wf.next kn hb br, x.kb, x.r, x.m, x.s⟩
theorem SI.more (x : SI K C b l h R M S d0 H0 n nr v d H) {n' : Nat} (hn : n ≤ n') : SI K C b l h R M S d0 H0 n' nr v d H := by
  obtain ⟨m, m1, m2⟩ := x.m
  obtain ⟨s, s1, s2⟩ := x.s
  exact ⟨x.bx, x.hh, x.st, x.sh, x.wf, x.kb, x.r, ⟨m, m1, by omega⟩, ⟨s, s1, by omega⟩⟩
end
section
variable {P : Program} {w : World} {K : PySem.W.Frag} {mg : Str → Option Value} {base : Heap}
theorem scStory : FnScope ["_law_box", "_law_house_here", "_law_many", "_law_secret", "_law_state", "_law_rows", "_law_course", "_law_states", "_law_turn", "_law_kind", "_law_deeds_here", "_law_hands_here", "_law_step", "_law_sight_here"] ["_law_box", "_law_house_here", "_law_many", "_law_secret"] (defScope sStory) := ⟨rfl, rfl, rfl, by decide +kernel, rfl, by decide +kernel, by decide +kernel⟩
end
end Kw



set_option Elab.async false
set_option linter.all false
set_option maxRecDepth 100000
set_option maxHeartbeats 4000000
namespace Kw
open PySem PySem.Spec PyProof.Rows L2
abbrev sIHands : Stmt := inClass (top 4) 0
abbrev sILog : Stmt := inClass (top 5) 0
abbrev sNHands : Stmt := top 27
abbrev sNRow : Stmt := top 63
abbrev sNRows : Stmt := top 62
/-! ### errors that have an index -/
def ixFs (i : Int) : List (Str × V) := [("index", .int i)]
def spIx (C : Addr) : Sp := fun vs H Q _ => ∃ (a : Addr) (i : Int), vs = [.ref a, .int i] ∧ H a = some (exo a C none) ∧ 0 ≤ i ∧ i ≤ 1000 ∧
  ∀ dx, H dx = none → dx ≠ a → Q .non (upd (upd H dx (exd dx (ixFs i))) a (exo a C (some dx)))
/-- its class, which the program makes -/
structure ExcX (P : Program) (K : PySem.W.Frag) (mg : Str → Option Value) (x qual : Str) (st : Stmt) (C f : Addr) (fd : FuncData) : Prop where
  sup : SupC P K mg C
  at_ : PySem.W.findIn K (.ref C) "__init__" = some (some (.ref f))
  ty : PySem.W.typeIn K (.ref f) = some (.type "function")
  mgC : mg x = some (.ref C)
  ex : ∃ (oc : Value) (od : Option Addr) (kV doc pm : Value) (an : Option Addr) (ct : Value) (osl : Array (Option Value)) (cc cda : Addr), fd = PySem.W.ksFn "__init__" qual (defArgs st) (defBody st) (defScope st) .none kV doc pm an (.ref cda) ct cc ∧
    K.lookup f = some ⟨oc, od, .func fd, osl⟩ ∧ PySem.W.codeIn K (.ref cda) qual = true ∧
    (∃ ccl cdd vsC ccs fileS tf, K.lookup cda = some ⟨ccl, cdd, .fields vsC, ccs⟩ ∧ vsC[2]? = some (.str fileS tf) ∧ ((P.main.file : Str) == fileS) = true) ∧
    (∃ cl cld csl, K.lookup cc = some ⟨cl, cld, .cell (some (.ref C)), csl⟩)
  bind : Binds K fd (["self", "index"] : List Str) []
theorem scIHands : SupScope ["self", "index"] (defScope sIHands) :=
  ⟨rfl, rfl, rfl, by decide +kernel, by decide +kernel, by decide +kernel, onlyFree_by (by decide +kernel), by decide +kernel, by decide +kernel⟩
theorem scILog : SupScope ["self", "index"] (defScope sILog) :=
  ⟨rfl, rfl, rfl, by decide +kernel, by decide +kernel, by decide +kernel, onlyFree_by (by decide +kernel), by decide +kernel, by decide +kernel⟩
section
variable {P : Program} {w : World} {K : PySem.W.Frag} {mg : Str → Option Value} {base : Heap}
theorem ok_ihands {CX : CXT} {C f : Addr} {fd : FuncData} (T : ExcX P K mg "InvalidHands" "InvalidHands.__init__" sIHands C f fd) (nI : PySem.W.findIn K (.ref C) "index" = some none) :
    FnOk P w K mg base CX 1 f fd ["self", "index"] (spIx C) := by
  obtain ⟨oc, od, kV, doc, pm, an, ct, osl, cc, cda, rfl, lk, hcd, ⟨ccl, cdd, vsC, ccs, fileS, tf, hcode, hvs, hfile⟩, ⟨cl, cld, csl, hcell⟩⟩ := T.ex
  refine fn_super (pl := fun _ => _) T.sup lk hcd rfl rfl hcode hvs hfile hcell scIHands (fun vs H Q E h => ?_) (fun _ => rfl) (fun _ => rfl) (fun _ => rfl) (fun A outer s H vs Q E hr h => ?_)
  · obtain ⟨a, i, rfl, _⟩ := h
    rfl
  · obtain ⟨a, i, rfl, ha, hi0, hi1, k⟩ := h
    refine ⟨_, _, pe_joined (.cons pe_str (.cons (pe_fmt (pv 1)) .nil)), pss_one (ps_ost (pv 0) (pv 1)), ⟨a, rfl, ha⟩, ?_⟩
    have l1 : (Str.empty : Str).length = 0 := rfl
    have l2 : ("wrong at the hand with index " : Str).length = 29 := by decide +kernel
    have l3 := digits_small hi0 hi1
    have l5 := sizeLine_eq
    refine ⟨_, rfl, by rw [str_app]; omega, _, rfl, .inr ⟨i, rfl, log2_small hi0 hi1, _, rfl, by rw [str_app, str_app]; omega, ⟨_, rfl⟩, a, rfl, ha, ?_⟩⟩
    refine ⟨_, rfl, _, rfl, a, C, rfl, T.sup.oex, nI, .inl ⟨ha, fun dx hd ne => ?_⟩⟩
    exact k dx hd ne
theorem ok_ilog {CX : CXT} {C f : Addr} {fd : FuncData} (T : ExcX P K mg "InvalidLog" "InvalidLog.__init__" sILog C f fd) (nI : PySem.W.findIn K (.ref C) "index" = some none) :
    FnOk P w K mg base CX 1 f fd ["self", "index"] (spIx C) := by
  obtain ⟨oc, od, kV, doc, pm, an, ct, osl, cc, cda, rfl, lk, hcd, ⟨ccl, cdd, vsC, ccs, fileS, tf, hcode, hvs, hfile⟩, ⟨cl, cld, csl, hcell⟩⟩ := T.ex
  refine fn_super (pl := fun _ => _) T.sup lk hcd rfl rfl hcode hvs hfile hcell scILog (fun vs H Q E h => ?_) (fun _ => rfl) (fun _ => rfl) (fun _ => rfl) (fun A outer s H vs Q E hr h => ?_)
  · obtain ⟨a, i, rfl, _⟩ := h
    rfl
  · obtain ⟨a, i, rfl, ha, hi0, hi1, k⟩ := h
    refine ⟨_, _, pe_joined (.cons pe_str (.cons (pe_fmt (pv 1)) .nil)), pss_one (ps_ost (pv 0) (pv 1)), ⟨a, rfl, ha⟩, ?_⟩
    have l1 : (Str.empty : Str).length = 0 := rfl
    have l2 : ("wrong at the row with index " : Str).length = 28 := by decide +kernel
    have l3 := digits_small hi0 hi1
    have l5 := sizeLine_eq
    refine ⟨_, rfl, by rw [str_app]; omega, _, rfl, .inr ⟨i, rfl, log2_small hi0 hi1, _, rfl, by rw [str_app, str_app]; omega, ⟨_, rfl⟩, a, rfl, ha, ?_⟩⟩
    refine ⟨_, rfl, _, rfl, a, C, rfl, T.sup.oex, nI, .inl ⟨ha, fun dx hd ne => ?_⟩⟩
    exact k dx hd ne
end
/-- C(i) is let out -/
def Rx (C : Addr) (i : Nat) (H : Hp) (E : XK) : Prop := ∀ dd H', Same H H' → H' dd = some (.xd (ixFs i)) → E (.ref C) (some dd) H'
theorem Rx.same {C : Addr} {i : Nat} {H H' : Hp} {E : XK} (e : Same H H') (r : Rx C i H E) : Rx C i H' E := fun dd H2 e2 h => r dd H2 (e.trans e2) h
theorem ix_made {C : Addr} {H : Hp} {E : XK} {i : Nat} (hi : i ≤ 1000) (r : Rx C i H E) :
    ∀ a, H a = none → spIx C (.ref a :: ([.int i] ++ [])) (upd H a (exo a C none))
      (fun v H2 => v = .non ∧ ∃ (d : Addr) (fs : List (Str × V)), H2 a = some (exo a C (some d)) ∧ H2 d = some (exd d fs) ∧ H d = none ∧ E (.ref C) (some d) (upd (del H2 a) d (.xd fs))) (fun _ _ _ => False) := fun a ha => by
  refine ⟨a, i, rfl, upd_same, by omega, by omega, fun dx hd ne => ⟨rfl, dx, _, upd_same, by rw [upd_ne ne, upd_same], by rw [upd_ne ne] at hd; exact hd, ?_⟩⟩
  have hdx : H dx = none := by rw [upd_ne ne] at hd; exact hd
  refine r dx _ (fun b o e => ?_) upd_same
  have n1 : b ≠ dx := ne_of_none e hdx
  have n2 : b ≠ a := ne_of_none e ha
  rw [upd_ne n1, del_ne n2, upd_ne n2, upd_ne n1, upd_ne n2]
  exact e
end Kw


set_option Elab.async false
set_option linter.all false
set_option maxRecDepth 100000
set_option maxHeartbeats 4000000
namespace Kw
open PySem PySem.Spec PyProof.Rows L2
section
variable {P : Program} {w : World} {K : PySem.W.Frag} {mg : Str → Option Value} {base : Heap}
def spNHands (K : PySem.W.Frag) (C X : Addr) : Sp := fun vs H Q E => ∃ (h t : Addr) (zs : List Int) (d : Hs), vs = [.ref h, .ref t] ∧ HouseAt K C H h d ∧ SqT K H t (zs.map V.int) ∧ zs.length ≤ 100 ∧
  (∀ i, (∀ j, j < i → okH d.hands zs j) → ¬ okH d.hands zs i → Rx X i H E) ∧ ((∀ i, okH d.hands zs i) → ∀ H', Same H H' → Q .non H')
theorem scNHands : FnScope ["house", "hands", "index", "hand"] ["house", "hands"] (defScope sNHands) := ⟨rfl, rfl, rfl, by decide +kernel, rfl, by decide +kernel, by decide +kernel⟩
theorem ok_nhands {f g C X fI : Addr} {fd fdg fdI : FuncData} (F : Fun K "need_hands" "need_hands" sNHands f fd) (B : Bt mg) (hc : HouseC K C) (N : NumF P w K mg base g fdg) (T : ExcX P K mg "InvalidHands" "InvalidHands.__init__" sIHands X fI fdI) (GI : FnOk P w K mg base CX0 1 fI fdI ["self", "index"] (spIx X)) :
    FnOk P w K mg base (L2N.CX P w) 3 f fd ["house", "hands"] (spNHands K C X) := by
  refine okN F scNHands (fun vs H Q E h => ?_) (fun cdv A outer s H vs Q E hr h => ?_)
  · obtain ⟨h, t, zs, d, rfl, _⟩ := h
    rfl
  · obtain ⟨h, t, zs, d, rfl, hh, ht, hl, kE, kQ⟩ := h
    have hr1 : Room 1 _ := hr.mono (by decide)
    have tk : L2N.Takes (cxOf (L2N.CX P w) P w K mg base ["house", "hands", "index", "hand"] "need_hands" (defScope sNHands) f cdv A outer s H E) (fun cls d _ H => E cls d H) := L2N.takes_of rfl rfl rfl rfl
    refine ⟨_, (pss_one (ps_for (passes_of rfl) rfl (pi_enumT (by rfl) B.enu (pa_cons (pv 1) pa_nil)) (pg_tup (by rfl) (pgs_cons (pg_name (i := 2) scNHands.nd rfl (.inl rfl)) (pgs_cons (pg_name (i := 3) scNHands.nd rfl (.inl rfl)) pgs_nil))) (pss_one (ps_if (PW.pt (pw_or (pt_not (pt_val (pe_call N.G hr1 rfl N.m N.k N.b .nil pass0 (pa_cons (pv 3) (pa_cons (pe_fld (pv 0) rfl) pa_nil))))) (pw_or1 (PW.pt (pw_and (pt_cmpR op_gt (pv 2) pe_int (nomark _)) (pw_and1 (pt_cmpR op_le (pv 3) (pe_ix ix_tup (pv 1) (pe_op op_sub (pv 2) pe_int) (fun _ _ => rfl)) (nomark _)))))))) (pss_one (L2N.ps_raise rfl tk (pmk_oexN T.sup.oex T.at_ T.ty GI hr T.bind .nil pass0 rfl T.mgC (pa_cons (pv 2) pa_nil)))) pss_nil)))), ?_⟩
    obtain ⟨dx, vb, vt, vs, vst, g0, _⟩ := hh.ex
    refine ⟨_, rfl, t, _, rfl, ht, for_enumT (K := K) (a := t) (xs := zs.map V.int) (fun i σ H2 => ∃ v1 v2 : Option V, σ = [some (.ref h), some (.ref t), v1, v2] ∧ Same H H2 ∧ ∀ j, j < i → okH d.hands zs j)
      ⟨none, none, rfl, Same.refl H, fun j z => absurd z (by omega)⟩ (fun i σ H2 _ ⟨_, _, _, e, _⟩ => SqT.same e ht) ?_ ?_⟩
    · rintro i y σ H2 T' hi ⟨v1, v2, rfl, e, hb⟩ hT
      have hi1 := (List.getElem?_eq_some_iff.mp hi).1
      rw [List.length_map] at hi1
      obtain ⟨z, hz⟩ : ∃ z, zs[i]? = some z := ⟨_, List.getElem?_eq_getElem hi1⟩
      rw [List.getElem?_map, hz] at hi
      cases hi
      have f1 := same_upd (o := HO.tup [.int (i : Nat), .int z]) hT
      have e1 := e.trans f1
      refine ⟨T', _, rfl, SqT.of upd_same, rfl, _, _, rfl, _, _, rfl, rfl, ?_⟩
      have bad : ¬ okH d.hands zs i → tMkO X (spIx X) [] (tCons (tVar 2) tNil) [some (.ref h), some (.ref t), some (.int (i : Nat)), some (.int z)] (upd H2 T' (.tup [.int (i : Nat), .int z])) (fun cls d H' => E cls d H') := fun nb => ⟨_, rfl, (by show 1 ≤ 1000; decide), ix_made (by omega) ((kE i hb nb).same e1)⟩
      refine ⟨_, rfl, _, rfl, h, C, dx, _, _, rfl, e1 _ _ g0, hc.cl, hc.nH, fs_hands _ _ _ _ _, z, d.hands, rfl, _, rfl, ?_⟩
      cases cn : numOk z d.hands with
      | false =>
        refine iteT (iteT ?_)
        exact bad fun o => by
          have := (o z hz).1
          rw [cn] at this
          cases this
      | true =>
        refine iteF ⟨_, rfl, _, _, rfl, rfl, _, rfl, ?_⟩
        by_cases c0 : 0 < i
        · obtain ⟨z', hz'⟩ : ∃ z', zs[i - 1]? = some z' := ⟨_, List.getElem?_eq_getElem (by omega)⟩
          refine iteTe (decide_eq_true (by omega)) ⟨_, rfl, _, rfl, _, rfl, _, _, rfl, rfl, t, _, ((i - 1 : Nat) : Int), .int z', rfl, congrArg V.int (by omega), SqT.same e1 ht, atI_nat (by rw [List.getElem?_map, hz']; rfl), _, _, rfl, rfl, _, rfl, ?_⟩
          by_cases c1 : z ≤ z'
          · refine iteTe (decide_eq_true c1) (bad fun o => ?_)
            have := (o z hz).2 z' c0 hz'
            omega
          · refine iteFe (decide_eq_false c1) ⟨_, _, rfl, e1, fun j hj => ?_⟩
            by_cases cj : j = i
            · subst cj
              intro y hy
              rw [hz] at hy
              cases hy
              refine ⟨cn, fun y' _ hy' => ?_⟩
              rw [hz'] at hy'
              cases hy'
              omega
            · exact hb j (by omega)
        · refine iteFe (decide_eq_false (by omega)) ⟨_, _, rfl, e1, fun j hj => ?_⟩
          by_cases cj : j = i
          · subst cj
            intro y hy
            rw [hz] at hy
            cases hy
            exact ⟨cn, fun y' h0 _ => absurd h0 c0⟩
          · exact hb j (by omega)
    · rintro σ H2 ⟨v1, v2, rfl, e, hb⟩
      refine kQ (fun i => ?_) _ e
      by_cases c : i < zs.length
      · exact hb i (by rw [List.length_map]; exact c)
      · intro z hz
        have := (List.getElem?_eq_some_iff.mp hz).1
        omega
end
end Kw


set_option Elab.async false
set_option linter.all false
set_option maxRecDepth 100000
set_option maxHeartbeats 4000000
namespace Kw
open PySem PySem.Spec PyProof.Rows L2
/-- the words of deeds, a tuple of the program -/
structure WordsF (K : PySem.W.Frag) (mg : Str → Option Value) (a : Addr) : Prop where
  m : mg "DEED_WORDS" = some (.ref a)
  s : ∀ H : Hp, SqT K H a [V.str ("give" : Str), .str ("put" : Str), .str ("take" : Str), .str ("seal" : Str), .str ("break" : Str)]
/-- any error of a row -/
def RowE (X : Addr) (ce : Str → Addr) (H : Hp) (E : XK) : Prop := (∀ i, i ≤ 100 → Rx X i H E) ∧ ∀ z : Str, (z = "UnknownHand" ∨ z = "UnknownItem" ∨ z = "UnknownBox" ∨ z = "UnknownSeal" ∨ z = "InsideItself") → Rp (ce z) H E
theorem unk_names5 {d0 : Hs} {e : Dd} {z : Str} (h : unkOf d0 e = z) (n : z ≠ "") : z = "UnknownHand" ∨ z = "UnknownItem" ∨ z = "UnknownBox" ∨ z = "UnknownSeal" ∨ z = "InsideItself" := by
  subst h
  revert n
  unfold unkOf
  cases e <;> dsimp only <;> (repeat' split) <;> intro n <;> first | exact absurd rfl n | exact .inl rfl | exact .inr (.inl rfl) | exact .inr (.inr (.inl rfl)) | exact .inr (.inr (.inr (.inl rfl))) | exact .inr (.inr (.inr (.inr rfl)))
theorem unkS_names5 {d : Hs} : ∀ {g : Sg} {z : Str}, unkS d g = z → z ≠ "" → (z = "UnknownHand" ∨ z = "UnknownItem" ∨ z = "UnknownBox" ∨ z = "UnknownSeal" ∨ z = "InsideItself")
  | .loc p q, z, h, n => by
    unfold unkS at h
    split at h
    · exact .inr (.inl h.symm)
    · split at h
      · split at h
        · exact .inl h.symm
        · exact absurd h.symm n
      · split at h
        · exact .inr (.inr (.inl h.symm))
        · exact absurd h.symm n
  | .bare b, z, h, n => by
    unfold unkS at h
    split at h
    · exact .inr (.inr (.inl h.symm))
    · exact absurd h.symm n
  | .inn b l, z, h, n => by
    unfold unkS at h
    split at h
    · exact .inr (.inr (.inl h.symm))
    · split at h
      · exact absurd h.symm n
      · exact .inr (.inl h.symm)
  | .gone b, z, h, n => by
    unfold unkS at h
    split at h
    · exact .inr (.inr (.inr (.inl h.symm)))
    · exact absurd h.symm n
  | .nt g, z, h, n => unkS_names5 (g := g) (by unfold unkS at h; exact h) n
section
variable {P : Program} {w : World} {K : PySem.W.Frag} {mg : Str → Option Value} {base : Heap}
def spNRow (K : PySem.W.Frag) (C X : Addr) (ce : Str → Addr) : Sp := fun vs H Q E => ∃ (h : Addr) (y : V) (r : Rw) (d : Hs), vs = [.ref h, y] ∧ HouseAt K C H h d ∧ Dp K H y (rwD r) ∧ SmR r ∧
  (¬ okR d r → RowE X ce H E) ∧ (okR d r → ∀ H', Same H H' → Q .non H')
theorem scNRow : FnScope ["house", "row"] ["house", "row"] (defScope sNRow) := ⟨rfl, rfl, rfl, by decide +kernel, rfl, by decide +kernel, by decide +kernel⟩
theorem ok_nrow {f aD gH gD gS C X : Addr} {fd fdH fdD fdS : FuncData} {ce : Str → Addr} (F : Fun K "need_row" "need_row" sNRow f fd) (W : WordsF K mg aD) (NH : OnceX P w K mg base "need_hands" 3 ["house", "hands"] (spNHands K C X) gH fdH) (ND : OnceX P w K mg base "need_deed" 5 ["house", "deed"] (spNDeed K C ce) gD fdD) (NS : OnceX P w K mg base "need_sight" 6 ["house", "sight"] (spNSight K C ce 2) gS fdS) :
    FnOk P w K mg base (L2N.CX P w) 7 f fd ["house", "row"] (spNRow K C X ce) := by
  refine okN F scNRow (fun vs H Q E h => ?_) (fun cdv A outer s H vs Q E hr h => ?_)
  · obtain ⟨h, y, r, d, rfl, _⟩ := h
    rfl
  · obtain ⟨h, y, r, d, rfl, hh, hy, hm, kE, kQ⟩ := h
    have hr3 : Room 3 _ := hr.mono (by decide)
    have hr5 : Room 5 _ := hr.mono (by decide)
    have hr6 : Room 6 _ := hr
    have tk : L2N.Takes (cxOf (L2N.CX P w) P w K mg base ["house", "row"] "need_row" (defScope sNRow) f cdv A outer s H E) (fun cls d _ H => E cls d H) := L2N.takes_of rfl rfl rfl rfl
    refine ⟨_, (pss_one (ps_if (pt_cmpR op_eq (pe_ix ix_tup (pv 1) pe_int (fun _ _ => rfl)) pe_str (nomark _)) (pss_one (ps_expr (pe_call NH.G hr3 rfl NH.m NH.k NH.b .nil (L2N.passes_call tk (fun _ _ _ _ h => h)) (pa_cons (pv 0) (pa_cons (pe_ix ix_tup (pv 1) pe_int (fun _ _ => rfl)) pa_nil))))) (pss_one (ps_if (pt_cmpR op_in_seq (pe_ix ix_tup (pv 1) pe_int (fun _ _ => rfl)) (pe_glob (v := .ref aD) rfl W.m rfl) (by rfl)) (pss_one (ps_expr (pe_call ND.G hr5 rfl ND.m ND.k ND.b .nil (L2N.passes_call tk (fun _ _ _ _ h => h)) (pa_cons (pv 0) (pa_cons (pv 1) pa_nil))))) (pss_one (ps_expr (pe_call NS.G hr6 rfl NS.m NS.k NS.b .nil (L2N.passes_call tk (fun _ _ _ _ h => h)) (pa_cons (pv 0) (pa_cons (pv 1) pa_nil))))))))), ?_⟩
    cases r with
    | gap zs =>
      cases hy with
      | @tup ay xs _ sy ha =>
      cases ha with
      | cons d1 r =>
      cases r with
      | cons d2 r =>
      cases r
      cases d1
      cases d2 with
      | @tup t ys _ st hz =>
      have ez := ints_at hz
      subst ez
      refine ⟨_, rfl, ay, _, 0, _, rfl, rfl, sy, rfl, rfl, _, rfl, ?_⟩
      rw [decS, decide_eq_true rfl]
      refine iteT ⟨_, rfl, _, rfl, ay, _, 1, _, rfl, rfl, sy, rfl, h, t, zs, d, rfl, hh, st, hm, fun i hj hi => ?_, fun ho => kQ ho⟩
      refine (kE fun o => hi (o i)).1 i ?_
      by_cases c : i < zs.length
      · have : zs.length ≤ 100 := hm
        omega
      · exact absurd (fun z hz => by have := (List.getElem?_eq_some_iff.mp hz).1; omega) hi
    | deed e =>
      obtain ⟨yd, vs, rfl, sy, dvs⟩ := dd_at hy
      refine ⟨_, rfl, yd, _, 0, _, rfl, rfl, sy, atI_nat (j := 0) rfl, rfl, _, rfl, ?_⟩
      rw [decS]
      refine iteFe (decide_eq_false (by cases e <;> (simp only [Dd.word]; decide +kernel))) ?_
      refine ⟨_, rfl, yd, _, 0, _, rfl, rfl, sy, atI_nat (j := 0) rfl, aD, _, rfl, .inr (W.s H), rfl, rfl, _, rfl, ?_⟩
      refine iteTe (by cases e <;> (simp only [Dd.word]; decide +kernel)) ?_
      exact ⟨_, rfl, _, rfl, h, _, e, d, rfl, hh, hy, hm, fun z z1 z2 => (kE fun o => z2 (z1.symm.trans o)).2 z (unk_names5 z1 z2), fun o => kQ o⟩
    | sight g =>
      obtain ⟨yd, vs, rfl, sy, dvs⟩ := sg_at hy
      refine ⟨_, rfl, yd, _, 0, _, rfl, rfl, sy, atI_nat (j := 0) rfl, rfl, _, rfl, ?_⟩
      rw [decS]
      refine iteFe (decide_eq_false (by cases g <;> (simp only [sgW]; decide +kernel))) ?_
      refine ⟨_, rfl, yd, _, 0, _, rfl, rfl, sy, atI_nat (j := 0) rfl, aD, _, rfl, .inr (W.s H), rfl, rfl, _, rfl, ?_⟩
      refine iteFe (by cases g <;> (simp only [sgW]; decide +kernel)) ?_
      exact ⟨_, rfl, _, rfl, h, _, g, d, rfl, hm.2, hh, hy, hm.1, fun z z1 z2 => (kE fun o => z2 (z1.symm.trans o)).2 z (unkS_names5 z1 z2), fun o => kQ o⟩
end
end Kw


set_option Elab.async false
set_option linter.all false
set_option maxRecDepth 100000
set_option maxHeartbeats 4000000
namespace Kw
open PySem PySem.Spec PyProof.Rows L2
section
variable {P : Program} {w : World} {K : PySem.W.Frag} {mg : Str → Option Value} {base : Heap}
/-- made where an exception is handled -/
theorem ok_ilogH {CX : CXT} {C f : Addr} {fd : FuncData} (T : ExcX P K mg "InvalidLog" "InvalidLog.__init__" sILog C f fd) (nI : PySem.W.findIn K (.ref C) "index" = some none) :
    L2H.FnH P w K mg base CX 1 f fd ["self", "index"] (spIx C) := by
  obtain ⟨oc, od, kV, doc, pm, an, ct, osl, cc, cda, rfl, lk, hcd, ⟨ccl, cdd, vsC, ccs, fileS, tf, hcode, hvs, hfile⟩, ⟨cl, cld, csl, hcell⟩⟩ := T.ex
  refine fn_superH (pl := fun _ => _) T.sup lk hcd rfl rfl hcode hvs hfile hcell scILog (fun vs H Q E h => ?_) (fun _ => rfl) (fun _ => rfl) (fun _ => rfl) (fun A outer s H vs Q E p hot hr h => ?_)
  · obtain ⟨a, i, rfl, _⟩ := h
    rfl
  · obtain ⟨a, i, rfl, ha, hi0, hi1, k⟩ := h
    refine ⟨_, _, pe_joined (.cons pe_str (.cons (pe_fmt (pv 1)) .nil)), pss_one (ps_ost (pv 0) (pv 1)), ⟨a, rfl, ha⟩, ?_⟩
    have l1 : (Str.empty : Str).length = 0 := rfl
    have l2 : ("wrong at the row with index " : Str).length = 28 := by decide +kernel
    have l3 := digits_small hi0 hi1
    have l5 := sizeLine_eq
    refine ⟨_, rfl, by rw [str_app]; omega, _, rfl, .inr ⟨i, rfl, log2_small hi0 hi1, _, rfl, by rw [str_app, str_app]; omega, ⟨_, rfl⟩, a, rfl, ha, ?_⟩⟩
    refine ⟨_, rfl, _, rfl, a, C, rfl, T.sup.oex, nI, .inl ⟨ha, fun dx hd ne => ?_⟩⟩
    exact k dx hd ne
/-! ### need_rows -/
/-- the least row that is wrong, or one too many -/
def BadAt (d : Hs) (rs : List Rw) (i : Nat) : Prop := i < rs.length ∧ (∀ j, j < i → j < 30 ∧ ∀ r, rs[j]? = some r → okR d r) ∧ (i = 30 ∨ ∃ r, rs[i]? = some r ∧ ¬ okR d r)
def RowsAt (K : PySem.W.Frag) (H : Hp) (t : Addr) (xs : List V) (rs : List Rw) : Prop := (SqL K H t xs ∨ SqT K H t xs) ∧ DpAll K H xs (rs.map rwD)
def spNRows (K : PySem.W.Frag) (C XL : Addr) : Sp := fun vs H Q E => ∃ (h t : Addr) (xs : List V) (rs : List Rw) (d : Hs), vs = [.ref h, .ref t] ∧ HouseAt K C H h d ∧ RowsAt K H t xs rs ∧ xs.length ≤ 1000 ∧ (∀ r ∈ rs, SmR r) ∧
  (∀ i, BadAt d rs i → Rx XL i H E) ∧ (rs.length ≤ 30 → (∀ r ∈ rs, okR d r) → ∀ H', Same H H' → Q .non H')
/-- what is caught as an error of the package -/
structure Caught (K : PySem.W.Frag) (ce : Str → Addr) (X CW : Addr) : Prop where
  x : PySem.W.exmOne K (.ref X) (.ref CW) = some true
  z : ∀ z : Str, (z = "UnknownHand" ∨ z = "UnknownItem" ∨ z = "UnknownBox" ∨ z = "UnknownSeal" ∨ z = "InsideItself") → PySem.W.exmOne K (.ref (ce z)) (.ref CW) = some true
theorem rows_len {K : PySem.W.Frag} {H : Hp} {xs : List V} {rs : List Rw} (h : DpAll K H xs (rs.map rwD)) : xs.length = rs.length := by have := DpAll.len h; rwa [List.length_map] at this
theorem scNRows : FnScope ["house", "rows", "index", "row"] ["house", "rows"] (defScope sNRows) := ⟨rfl, rfl, rfl, by decide +kernel, rfl, by decide +kernel, by decide +kernel⟩
theorem ok_nrows {f gR C X XL CW fI tm : Addr} {fd fdR fdI : FuncData} {ce : Str → Addr} {tkm : Tok} (F : Fun K "need_rows" "need_rows" sNRows f fd) (B : Bt mg) (NR : OnceX P w K mg base "need_row" 7 ["house", "row"] (spNRow K C X ce) gR fdR)
    (mM : mg "MOST_ROWS" = some (.int 30 tkm)) (mW : mg "WatchError" = some (.ref CW)) (Ct : Caught K ce X CW) (T : ExcX P K mg "InvalidLog" "InvalidLog.__init__" sILog XL fI fdI) (nI : PySem.W.findIn K (.ref XL) "index" = some none) :
    FnOk P w K mg base (L2.CX P w) 8 f fd ["house", "rows"] (spNRows K C XL) := by
  refine F.okX scNRows (fun vs H Q E h => ?_) (fun cdv A outer s H vs Q E hr h => ?_)
  · obtain ⟨h, t, xs, rs, d, rfl, _⟩ := h
    rfl
  · obtain ⟨h, t, xs, rs, d, rfl, hh, ⟨ht, hd⟩, hl, hm, kE, kQ⟩ := h
    have hr1 : Room 2 _ := hr.mono (by decide)
    have tk : Takes (cxOf (L2.CX P w) P w K mg base ["house", "rows", "index", "row"] "need_rows" (defScope sNRows) f cdv A outer s H E) (fun cls d _ H => E cls d H) := takes_of rfl rfl rfl rfl
    have lr := rows_len hd
    refine ⟨_, (pss_one (ps_for (passes_of rfl) rfl (pi_enumE (by rfl) B.enu (pa_cons (pv 1) pa_nil)) (pg_tup (by rfl) (pgs_cons (pg_name (i := 2) scNRows.nd rfl (.inl rfl)) (pgs_cons (pg_name (i := 3) scNRows.nd rfl (.inl rfl)) pgs_nil))) (pss_cons (ps_if (pt_cmpR op_eq (pv 2) (pe_glob (v := .int 30) rfl mM ⟨_, rfl⟩) (nomark _)) (pss_one (ps_raise rfl tk (pmk_oex T.sup.oex T.at_ T.ty (ok_ilog (CX := CX0) T nI) hr1 T.bind .nil pass0 rfl T.mgC (pa_cons (pv 2) pa_nil)))) pss_nil) (pss_one (L2H.ps_try_onlyX rfl rfl ⟨rfl, by decide, .inl mW⟩ (fun hd => L2H.passesAt_of rfl hd) tk (fun W pn xe tkN tkP po => pss_one (ps_expr (pe_callS NR.G hr rfl NR.m NR.k NR.b (fun σ => L2N.passAt tkN σ) (pa_cons (pv 0) (pa_cons (pv 3) pa_nil))))) (fun a oe cls d pn hz hf tkS hot => pss_one (L2H.ps_raiseHN hot tkS (L2H.pmk5_oexH T.sup.oex T.at_ T.ty (ok_ilogH (CX := CX0) T nI) (L2H.roomH_mark hr1 _) hot T.bind pass0 rfl T.mgC (pa_cons (pv 2) pa_nil))))))))), ?_⟩
    obtain ⟨dx, vb, vt, vs, vst, g0, _⟩ := hh.ex
    -- a turn
    let PV : Nat → L2.St → Hp → Prop := fun i σ H2 => ∃ v1 v2 : Option V, σ = [some (.ref h), some (.ref t), v1, v2] ∧ Same H H2 ∧ ∀ j, j < i → j < 30 ∧ ∀ r, rs[j]? = some r → okR d r
    have fin : ∀ σ H2, PV xs.length σ H2 → Q .non H2 := by
      rintro σ H2 ⟨v1, v2, rfl, e, hb⟩
      refine kQ ?_ (fun r hr => ?_) _ e
      · by_cases c : rs.length ≤ 30
        · exact c
        · have := (hb 30 (by omega)).1
          omega
      · obtain ⟨j, hj⟩ := List.mem_iff_getElem?.mp hr
        have hj' := (List.getElem?_eq_some_iff.mp hj).1
        exact (hb j (by omega)).2 r hj
    refine ⟨_, rfl, t, xs, rfl, ?_⟩
    rcases ht with ht | ht
    · refine .inr ⟨ht, for_enumL (K := K) (a := t) (xs := xs) PV ⟨none, none, rfl, Same.refl H, fun j z => absurd z (by omega)⟩ (fun i σ H2 _ ⟨_, _, _, e, _⟩ => sqL_same e ht) ?_ fin⟩
      rintro i y σ H2 T' hi ⟨v1, v2, rfl, e, hb⟩ hT
      have hi1 := (List.getElem?_eq_some_iff.mp hi).1
      obtain ⟨r, hrr⟩ : ∃ r, rs[i]? = some r := ⟨_, List.getElem?_eq_getElem (by omega)⟩
      have f1 := same_upd (o := HO.tup [.int (i : Nat), y]) hT
      have e1 := e.trans f1
      refine ⟨T', _, rfl, SqT.of upd_same, rfl, _, _, rfl, _, _, rfl, rfl, ?_⟩
      have bad : ∀ H4, Same H H4 → BadAt d rs i → tMkO XL (spIx XL) [] (tCons (tVar 2) tNil) [some (.ref h), some (.ref t), some (.int (i : Nat)), some y] H4 (fun cls d H' => E cls d H') := fun H4 e4 nb => ⟨_, rfl, (by show 1 ≤ 1000; decide), ix_made (by omega) ((kE i nb).same e4)⟩
      refine ⟨_, rfl, rfl, _, rfl, ?_⟩
      rw [decZ]
      by_cases c30 : i = 30
      · refine iteTe (decide_eq_true (by omega)) (bad _ e1 ⟨by omega, hb, .inl c30⟩)
      · refine iteFe (decide_eq_false (by omega)) ?_
        obtain ⟨dr, hdr, hy⟩ := DpAll.get hd hi
        rw [List.getElem?_map, hrr] at hdr
        cases hdr
        have hm' := hm r (List.mem_of_getElem? hrr)
        refine ⟨_, rfl, _, rfl, h, y, r, d, rfl, hh.nl (nl_same e1), Dp.same e1 _ _ hy, hm', fun nok => ?_, fun ok H4 e4 => ?_⟩
        · have bd : BadAt d rs i := ⟨by omega, hb, .inr ⟨r, hrr, nok⟩⟩
          exact ⟨fun j hj dd H5 e5 hdd => ⟨true, Ct.x, fun _ a ha => bad H5 (e1.trans e5) bd, fun q => nomatch q⟩, fun z hz H5 e5 => ⟨true, Ct.z z hz, fun _ a ha => bad H5 (e1.trans e5) bd, fun q => nomatch q⟩⟩
        · refine ⟨_, _, rfl, e1.trans e4, fun j hj => ?_⟩
          by_cases cj : j = i
          · subst cj
            refine ⟨?_, fun r' hr' => by rw [hrr] at hr'; cases hr'; exact ok⟩
            by_cases c : j < 30
            · exact c
            · exact absurd (hb 30 (by omega)).1 (by omega)
          · exact hb j (by omega)
    · refine .inl ⟨ht, for_enumT (K := K) (a := t) (xs := xs) PV ⟨none, none, rfl, Same.refl H, fun j z => absurd z (by omega)⟩ (fun i σ H2 _ ⟨_, _, _, e, _⟩ => SqT.same e ht) ?_ fin⟩
      rintro i y σ H2 T' hi ⟨v1, v2, rfl, e, hb⟩ hT
      have hi1 := (List.getElem?_eq_some_iff.mp hi).1
      obtain ⟨r, hrr⟩ : ∃ r, rs[i]? = some r := ⟨_, List.getElem?_eq_getElem (by omega)⟩
      have f1 := same_upd (o := HO.tup [.int (i : Nat), y]) hT
      have e1 := e.trans f1
      refine ⟨T', _, rfl, SqT.of upd_same, rfl, _, _, rfl, _, _, rfl, rfl, ?_⟩
      have bad : ∀ H4, Same H H4 → BadAt d rs i → tMkO XL (spIx XL) [] (tCons (tVar 2) tNil) [some (.ref h), some (.ref t), some (.int (i : Nat)), some y] H4 (fun cls d H' => E cls d H') := fun H4 e4 nb => ⟨_, rfl, (by show 1 ≤ 1000; decide), ix_made (by omega) ((kE i nb).same e4)⟩
      refine ⟨_, rfl, rfl, _, rfl, ?_⟩
      rw [decZ]
      by_cases c30 : i = 30
      · refine iteTe (decide_eq_true (by omega)) (bad _ e1 ⟨by omega, hb, .inl c30⟩)
      · refine iteFe (decide_eq_false (by omega)) ?_
        obtain ⟨dr, hdr, hy⟩ := DpAll.get hd hi
        rw [List.getElem?_map, hrr] at hdr
        cases hdr
        have hm' := hm r (List.mem_of_getElem? hrr)
        refine ⟨_, rfl, _, rfl, h, y, r, d, rfl, hh.nl (nl_same e1), Dp.same e1 _ _ hy, hm', fun nok => ?_, fun ok H4 e4 => ?_⟩
        · have bd : BadAt d rs i := ⟨by omega, hb, .inr ⟨r, hrr, nok⟩⟩
          exact ⟨fun j hj dd H5 e5 hdd => ⟨true, Ct.x, fun _ a ha => bad H5 (e1.trans e5) bd, fun q => nomatch q⟩, fun z hz H5 e5 => ⟨true, Ct.z z hz, fun _ a ha => bad H5 (e1.trans e5) bd, fun q => nomatch q⟩⟩
        · refine ⟨_, _, rfl, e1.trans e4, fun j hj => ?_⟩
          by_cases cj : j = i
          · subst cj
            refine ⟨?_, fun r' hr' => by rw [hrr] at hr'; cases hr'; exact ok⟩
            by_cases c : j < 30
            · exact c
            · exact absurd (hb 30 (by omega)).1 (by omega)
          · exact hb j (by omega)
end
end Kw


set_option Elab.async false
set_option linter.all false
set_option maxRecDepth 100000
set_option maxHeartbeats 4000000
/-! Own operators of an object that holds rows: len(o), o[i], o + a list. -/
namespace Kw
open PySem PySem.Spec PyProof.Rows L2
section
variable {X : Cx} {CX : CXT} {C f : Addr} {fd : FuncData} {k : Nat} {ps : List Str} {sp : Sp} {E : XK}
/-- o + xs, xs a list -/
def rAddOwn (K : PySem.W.Frag) (C : Addr) (sp : Sp) (E : XK) : R2 := fun x y H Q => ∃ a b dx fs ys, x = .ref a ∧ y = .ref b ∧ H a = some (.ins C dx fs) ∧ SqL K H b ys ∧ sp [.ref a, .ref b] H (fun v H' => ∃ p, v = .ref p ∧ Q v H') E
structure AddC (K : PySem.W.Frag) (C f : Addr) : Prop where
  first : PySem.W.selfFirst K C = true
  s : PySem.W.findIn K (.ref C) "__add__" = some (some (.ref f))
  isf : PySem.W.isFn K (.ref f) = true
  l1 : ∃ fo, PySem.W.findIn K (.type "list") "__add__" = some fo ∧ (fo.isSome && !isSeqSlot fo) = false
  l2 : PySem.W.findIn K (.type "list") "__radd__" = some none
theorem op_addOwn (F : FnOk X.prog X.w X.K X.mg X.base CX k f fd ps sp) (A : AddC X.K C f) (hr : Room k X.A) (hb : Binds X.K fd ps []) (hx : Passes CX X E) :
    OpR X (binaryOp .Add) (rAddOwn X.K C sp E) := by
  intro pins s σ H x y v u Q I rx ry h
  obtain ⟨a, b, dx, fs, ys, rfl, rfl, hH, hq, hsp⟩ := h
  cases rx
  cases ry
  obtain ⟨mA, J, _⟩ := ins_get I.hok hH
  obtain ⟨od, J, _⟩ := J.look
  obtain ⟨m, hF⟩ := I.fr
  have X' := I.kIn
  obtain ⟨its, rl, pl, hz⟩ := I.list hq
  obtain ⟨o, ho, hc, hd⟩ := pl.isList
  have LT : PySem.W.Looks (model X.prog X.w) s.heap (typeOf (.ref b)) (.type "list") := fun A Q E s k q => wpAny_typeOf_ref (k _ _ ho) (by rw [hc]; exact q)
  obtain ⟨cd, rest, hcd, hm⟩ := PySem.W.ksp_first A.first
  obtain ⟨fo, l1, l3⟩ := A.l1
  have L3 : PySem.W.Looks (model X.prog X.w) s.heap (fillsNumberSlot (.ref C) "add") true := PySem.W.fills_K X' hcd hm A.s
  have L4 := PySem.W.ksp_fillsT (M := model X.prog X.w) (nm := "add") X' l1 A.l2
  rw [l3, show (((none : Option Value).isSome && !isSeqSlot none) = false) from rfl, Bool.or_self] at L4
  have one := PySem.W.ksp_try (M := model X.prog X.w) (A := X.A) (E := X.xe) (Q := EP X pins σ Q) (b := .ref b) X' J A.s A.isf (thn (run_fn (vs := [.ref a, .ref b]) (dvs := []) F hr hb .nil hx I (.cons rfl (.cons rfl .nil)) hsp) fun w s1 hw => by
    obtain ⟨z, H1, I1, rz, p, ez, q⟩ := hw
    subst ez
    cases rz
    exact ⟨V.ref p, H1, I1, rfl, q⟩)
  have hne : (Value.ref C == Value.type "list") = false := Bool.eq_false_iff.mpr fun q => by cases beq_iff_eq.mp q
  show wpAny _ _ (binaryOp .Add (.ref a) (.ref b)) _ _ _
  unfold binaryOp
  refine wpAny_holding (wpAny_bind ?_)
  unfold binaryOp1
  refine wpAny_bind (J.type.here (wpAny_bind (LT.here (wpAny_bind (L3.here ?_)))))
  simp only [hne, Bool.false_eq_true, if_false]
  refine wpAny_bind (L4.here ?_)
  simp only [Bool.and_false, Bool.false_eq_true, if_false, Bool.and_true, Bool.false_and]
  refine wpAny_bind (wpAny_pure ?_)
  simp only [Bool.false_eq_true, if_false, if_true]
  refine wpAny_bind (wpAny_mono one (fun r s' hr' => ?_) fun _ _ e => e)
  obtain ⟨v, rfl, hq'⟩ := hr'
  exact wpAny_pure (wpAny_pure hq')
end
end Kw


set_option Elab.async false
set_option linter.all false
set_option maxRecDepth 100000
set_option maxHeartbeats 4000000
namespace Kw
open PySem PySem.Spec PyProof.Rows L2
abbrev sLInit : Stmt := inClass (top 61) 0
abbrev sLGaps : Stmt := inClass (top 61) 1
abbrev sLAdd : Stmt := inClass (top 61) 5
/-! ### rows as data -/
def rwW : Rw → Str
  | .gap _ => "gap"
  | .deed e => e.word
  | .sight g => sgW g
def isGap : Rw → Bool
  | .gap _ => true
  | _ => false
theorem rw_gap : ∀ r : Rw, decide (rwW r = ("gap" : Str)) = isGap r
  | .gap _ => decide_eq_true rfl
  | .deed e => decide_eq_false (by cases e <;> (simp only [rwW, Dd.word]; decide +kernel))
  | .sight g => decide_eq_false (by cases g <;> (simp only [rwW, sgW]; decide +kernel))
theorem rw_at {K : PySem.W.Frag} {H : Hp} {y : V} {r : Rw} (h : Dp K H y (rwD r)) : ∃ a vs, y = .ref a ∧ SqT K H a (.str (rwW r) :: vs) := by
  cases r with
  | gap zs =>
    cases h with
    | tup s ha =>
      cases ha with
      | cons d1 r =>
        cases d1
        exact ⟨_, _, rfl, s⟩
  | deed e =>
    obtain ⟨a, vs, e1, s, _⟩ := dd_at h
    exact ⟨a, _, e1, s⟩
  | sight g =>
    obtain ⟨a, vs, e1, s, _⟩ := sg_at h
    exact ⟨a, _, e1, s⟩
/-! ### class Log -/
structure LogC (K : PySem.W.Frag) (CL : Addr) : Prop where
  cl : Cls K CL
  nH : NoAttr K CL "house"
  nR : NoAttr K CL "rows"
structure LogAt (K : PySem.W.Frag) (C CL : Addr) (H : Hp) (a h : Addr) (d : Hs) (rs : List Rw) : Prop where
  hh : HouseAt K C H h d
  ex : ∃ dx fs t xs, H a = some (.ins CL dx fs) ∧ fs.lookup ("house" : Str) = some (.ref h) ∧ fs.lookup ("rows" : Str) = some (.ref t) ∧ (∀ x : Str, ¬ x = "house" → ¬ x = "rows" → fs.lookup x = none) ∧ SqT K H t xs ∧ DpAll K H xs (rs.map rwD)
theorem LogAt.nl {K : PySem.W.Frag} {C CL : Addr} {H H' : Hp} {a h : Addr} {d : Hs} {rs : List Rw} (k : Nl H H') (x : LogAt K C CL H a h d rs) : LogAt K C CL H' a h d rs := by
  obtain ⟨dx, fs, t, xs, h0, h1, h2, h3, h4, h5⟩ := x.ex
  exact ⟨x.hh.nl k, dx, fs, t, xs, k _ _ h0 (fun _ z => nomatch z) (fun _ z => nomatch z), h1, h2, h3, SqT.nl k h4, Dp.nls k _ _ (noLs_rw rs) h5⟩
theorem LogAt.same {K : PySem.W.Frag} {C CL : Addr} {H H' : Hp} {a h : Addr} {d : Hs} {rs : List Rw} (k : Same H H') (x : LogAt K C CL H a h d rs) : LogAt K C CL H' a h d rs := x.nl (nl_same k)
structure OnceY (P : Program) (w : World) (K : PySem.W.Frag) (mg : Str → Option Value) (base : Heap) (x : Str) (n : Nat) (ps : List Str) (sp : Sp) (g : Addr) (fd : FuncData) : Prop where
  G : FnOk P w K mg base (L2.CX P w) n g fd ps sp
  m : mg x = some (.ref g)
  k : PySem.W.keepIn K (.ref g) = true
  b : Binds K fd ps []
section
variable {P : Program} {w : World} {K : PySem.W.Frag} {mg : Str → Option Value} {base : Heap}
def spLInit (K : PySem.W.Frag) (C CL XL : Addr) : Sp := fun vs H Q E => ∃ (a dx h t : Addr) (xs : List V) (rs : List Rw) (d : Hs), vs = [.ref a, .ref h, .ref t] ∧ H a = some (.ins CL dx []) ∧ HouseAt K C H h d ∧ RowsAt K H t xs rs ∧ xs.length ≤ 1000 ∧ (∀ r ∈ rs, SmR r) ∧
  (∀ i, BadAt d rs i → Rx XL i H E) ∧ (rs.length ≤ 30 → (∀ r ∈ rs, okR d r) → ∀ H', But a H H' → LogAt K C CL H' a h d rs → Q .non H')
theorem scLInit : FnScope ["self", "house", "rows"] ["self", "house", "rows"] (defScope sLInit) := ⟨rfl, rfl, rfl, by decide +kernel, rfl, by decide +kernel, by decide +kernel⟩
theorem but_nl {a C dx : Addr} {fs : List (Str × V)} {H H' : Hp} (ha : H a = some (.ins C dx fs)) (b : But a H H') : Tp H H' := fun c xs e => by
  rcases e with e | ⟨o, e⟩
  · exact .inl (b c _ e (ne_of e ha (by intro z; cases z)))
  · exact .inr ⟨o, b c _ e (ne_of e ha (by intro z; cases z))⟩
theorem sqT_tp {H H' : Hp} {a : Addr} {xs : List V} (k : Tp H H') (h : SqT K H a xs) : SqT K H' a xs := by
  rcases h with h | h
  · exact .inl (k _ _ h)
  · exact .inr h
theorem house_but {C CL a dx : Addr} {fs : List (Str × V)} {H H' : Hp} {h : Addr} {d : Hs} (hne : h ≠ a) (ha : H a = some (.ins CL dx fs)) (b : But a H H') (x : HouseAt K C H h d) : HouseAt K C H' h d := by
  obtain ⟨dh, vb, vt, vs, vst, g0, g1, g2, g3, g4⟩ := x.ex
  have k := but_nl ha b
  exact ⟨dh, vb, vt, vs, vst, b _ _ g0 hne, Dp.tp k _ _ (noL_pls _) g1, Dp.tp k _ _ (noL_pls _) g2, Dp.tp k _ _ (noL_pls _) g3, Dp.tp k _ _ (noL_st _) g4⟩
theorem ok_linit {f gR C CL XL : Addr} {fd fdR : FuncData} (F : Fun K "__init__" "Log.__init__" sLInit f fd) (B : Bt mg) (LC : LogC K CL) (NR : OnceY P w K mg base "need_rows" 8 ["house", "rows"] (spNRows K C XL) gR fdR) :
    FnOk P w K mg base (L2.CX P w) 9 f fd ["self", "house", "rows"] (spLInit K C CL XL) := by
  refine F.okX scLInit (fun vs H Q E h => ?_) (fun cdv A outer s H vs Q E hr h => ?_)
  · obtain ⟨a, dx, h, t, xs, rs, d, rfl, _⟩ := h
    rfl
  · obtain ⟨a, dx, h, t, xs, rs, d, rfl, ha, hh, hrw, hl, hm, kE, kQ⟩ := h
    have tk : Takes (cxOf (L2.CX P w) P w K mg base ["self", "house", "rows"] "Log.__init__" (defScope sLInit) f cdv A outer s H E) (fun cls d _ H => E cls d H) := takes_of rfl rfl rfl rfl
    refine ⟨_, (pss_cons (ps_expr (pe_call NR.G hr rfl NR.m NR.k NR.b .nil (passes_call tk (fun _ _ _ _ h => h)) (pa_cons (pv 1) (pa_cons (pv 2) pa_nil)))) (pss_cons (ps_fld (pv 0) (pv 1) rfl) (pss_one (ps_fld (pv 0) (pe_callTy call_tuple_of (by rfl) B.tup (by decide +kernel) (pa_cons (pv 2) pa_nil)) rfl)))), ?_⟩
    have nh : h ≠ a := by
      obtain ⟨dh, vb, vt, vs, vst, g0, _⟩ := hh.ex
      intro z
      rw [z, ha] at g0
      have := Option.some.inj g0
      injection this with _ _ q
      have z2 := fs_hands d.hands vb vt vs vst
      rw [← q] at z2
      cases z2
    refine ⟨_, rfl, _, rfl, h, t, xs, rs, d, rfl, hh, hrw, hl, hm, kE, fun l30 ok H1 e1 => ?_⟩
    have ha1 := e1 _ _ ha
    refine ⟨_, rfl, _, rfl, a, CL, dx, _, rfl, ha1, LC.cl, LC.nH, (by show 0 < 1000; decide), ?_⟩
    have fin : ∀ (t' : Addr) (H2 : Hp), (∀ b o, H1 b = some o → b ≠ a → H2 b = some o) → H2 a = some (.ins CL dx (putF "house" (.ref h) [])) → SqT K H2 t' xs → Q .non (L2.upd H2 a (.ins CL dx (putF "rows" (.ref t') (putF "house" (.ref h) [])))) := fun t' H2 b2 ha2 st => by
      have bt : But a H (L2.upd H2 a (.ins CL dx (putF "rows" (.ref t') (putF "house" (.ref h) [])))) := fun b o e ne => by rw [upd_ne ne]; exact b2 _ _ (e1 _ _ e) ne
      have bt2 : But a H2 (L2.upd H2 a (.ins CL dx (putF "rows" (.ref t') (putF "house" (.ref h) [])))) := fun b o e ne => by rw [upd_ne ne]; exact e
      refine kQ l30 ok _ bt ⟨house_but nh ha bt hh, dx, _, t', xs, upd_same, ?_, ?_, ?_, sqT_tp (but_nl ha2 bt2) st, Dp.tps (but_nl ha bt) _ _ (noLs_rw rs) hrw.2⟩
      · rw [lookup_putF, if_neg (by decide +kernel), lookup_putF, if_pos rfl]
      · rw [lookup_putF, if_pos rfl]
      · intro x n1 n2
        rw [lookup_putF, if_neg n2, lookup_putF, if_neg n1]
        rfl
    have lf : (putF "house" (.ref h) ([] : List (Str × V))).length < 1000 := by
      have a4 := length_putF "house" (.ref h) []
      have a5 : ([] : List (Str × V)).length = 0 := rfl
      omega
    have b1 : ∀ b o, H1 b = some o → b ≠ a → (L2.upd H1 a (.ins CL dx (putF "house" (.ref h) []))) b = some o := fun b o e ne => by rw [upd_ne ne]; exact e
    rcases hrw.1 with ht | ht
    · have ht2 : SqL K (L2.upd H1 a (.ins CL dx (putF "house" (.ref h) []))) t xs := by
        rcases sqL_same e1 ht with (q | ⟨o, q⟩) | q
        · exact .inl (.inl (by rw [upd_ne (ne_of q ha1 (by intro z; cases z))]; exact q))
        · exact .inl (.inr ⟨o, by rw [upd_ne (ne_of q ha1 (by intro z; cases z))]; exact q⟩)
        · exact .inr q
      refine ⟨_, rfl, t, xs, rfl, .inl ⟨ht2, fun t' ht' => ?_⟩⟩
      have na : t' ≠ a := fun z => by rw [z, upd_same] at ht'; cases ht'
      have f1 := same_upd (o := HO.tup xs) ht'
      exact ⟨_, rfl, a, CL, dx, _, rfl, f1 _ _ upd_same, LC.cl, LC.nR, lf, fin t' _ (fun b o e ne => f1 _ _ (b1 b o e ne)) (f1 _ _ upd_same) (SqT.of upd_same)⟩
    · have bt1 : But a H1 (L2.upd H1 a (.ins CL dx (putF "house" (.ref h) []))) := fun b o e ne => by rw [upd_ne ne]; exact e
      exact ⟨_, rfl, t, xs, rfl, .inr ⟨sqT_tp (but_nl ha1 bt1) (SqT.same e1 ht), _, rfl, a, CL, dx, _, rfl, upd_same, LC.cl, LC.nR, lf, fin t _ b1 upd_same (sqT_tp (but_nl ha1 bt1) (SqT.same e1 ht))⟩⟩
end
end Kw


set_option Elab.async false
set_option linter.all false
set_option maxRecDepth 100000
set_option maxHeartbeats 4000000
namespace Kw
open PySem PySem.Spec PyProof.Rows L2
theorem weakN {P : Program} {w : World} {K : PySem.W.Frag} {mg : Str → Option Value} {base : Heap} {k : Nat} {f : Addr} {fd : FuncData} {ps : List Str} {sp : Sp} (F : FnOk P w K mg base (L2N.CX P w) k f fd ps sp) : FnOk P w K mg base (L2.CX P w) k f fd ps sp :=
  ⟨F.len, fun A outer s H args us vs Q E hr e0 hb r h => codeAny_mono (F.run A outer s H args us vs Q E hr e0 hb r h) fun r s' x => by
    cases r with
    | error e =>
      obtain ⟨a, B, H', cls, d, h1, h2, h3⟩ := (show L2N.CX P w outer H s E e s' from x)
      exact (show L2.CX P w outer H s E e s' from ⟨a, B, H', cls, d, h1, L2H.flyingZ_imp (fun o z => z.zc) h2, h3⟩)
    | ok fl => cases fl <;> exact x⟩
theorem okH_iff {n : Int} {zs : List Int} : (∀ i, okH n zs i) ↔ (∀ z ∈ zs, numOk z n = true) ∧ zs.Pairwise (· < ·) := by
  constructor
  · intro h
    refine ⟨fun z hz => ?_, ?_⟩
    · obtain ⟨i, hi⟩ := List.mem_iff_getElem?.mp hz
      exact (h i z hi).1
    · have step : ∀ (k i : Nat) (z z' : Int), zs[i]? = some z → zs[i + k + 1]? = some z' → z < z' := by
        intro k
        induction k with
        | zero =>
          intro i z z' h1 h2
          exact (h (i + 0 + 1) z' h2).2 z (by omega) h1
        | succ k ih =>
          intro i z z' h1 h2
          have hl := (List.getElem?_eq_some_iff.mp h2).1
          obtain ⟨y, hy⟩ : ∃ y, zs[i + k + 1]? = some y := ⟨_, List.getElem?_eq_getElem (by omega)⟩
          have a1 := ih i z y h1 hy
          have a2 := (h (i + (k + 1) + 1) z' h2).2 y (by omega) (by rw [show i + (k + 1) + 1 - 1 = i + k + 1 by omega]; exact hy)
          omega
      refine List.pairwise_iff_getElem.mpr fun i j hi hj hij => ?_
      refine step (j - i - 1) i _ _ (List.getElem?_eq_getElem hi) ?_
      rw [show i + (j - i - 1) + 1 = j by omega]
      exact List.getElem?_eq_getElem hj
  · rintro ⟨h1, h2⟩ i z hz
    refine ⟨h1 z (List.mem_of_getElem? hz), fun z' h0 hz' => ?_⟩
    obtain ⟨i1, q1⟩ := List.getElem?_eq_some_iff.mp hz
    obtain ⟨i2, q2⟩ := List.getElem?_eq_some_iff.mp hz'
    have := List.pairwise_iff_getElem.mp h2 (i - 1) i i2 i1 (by omega)
    rw [q1, q2] at this
    exact this
/-- the hands of a gap that are among some -/
def keepR (zs : List Int) : Rw → Rw
  | .gap ys => .gap (ys.filter fun y => decide (y ∈ zs))
  | r => r
theorem keep_ok {d : Hs} {zs : List Int} {r : Rw} (h : RwOk d r) : RwOk d (keepR zs r) := by
  cases r with
  | gap ys =>
    have h1 := okH_iff.mp h.1
    refine ⟨okH_iff.mpr ⟨fun z hz => h1.1 z (List.mem_filter.mp hz).1, h1.2.sublist List.filter_sublist⟩, ?_⟩
    have a : ys.length ≤ 100 := h.2
    have b := List.length_filter_le (fun y => decide (y ∈ zs)) ys
    show (ys.filter fun y => decide (y ∈ zs)).length ≤ 100
    omega
  | deed e => exact h
  | sight g => exact h
theorem inV_ints (z : Int) : ∀ zs : List Int, inV (.int z) (zs.map V.int) = decide (z ∈ zs)
  | [] => by simp [inV]
  | y :: zs => by
    have ih := inV_ints z zs
    simp only [inV, List.map_cons, List.any_cons, eqV] at ih ⊢
    rw [ih]
    by_cases c : y = z
    · subst c
      simp
    · have c' : ¬ z = y := fun q => c q.symm
      simp [c, c']
theorem flat_ints : ∀ zs : List Int, (zs.map V.int).all flatV = true
  | [] => rfl
  | z :: zs => by
    show (flatV (.int z) && (zs.map V.int).all flatV) = true
    rw [flat_ints zs]
    rfl
def gapIx (rs : List Rw) : List Nat := (List.range rs.length).filter fun i => (rs[i]?.map isGap).getD false
/-- a log whose rows can be -/
structure Vld (d : Hs) (rs : List Rw) : Prop where
  l : rs.length ≤ 30
  ok : ∀ r ∈ rs, RwOk d r
theorem Vld.take {d : Hs} {rs : List Rw} (v : Vld d rs) (n : Nat) : Vld d (rs.take n) := ⟨by have := v.l; have := List.length_take_le n rs; have := List.length_take (i := n) (l := rs); omega, fun r hr => v.ok r (List.mem_of_mem_take hr)⟩
theorem Vld.keep {d : Hs} {rs : List Rw} (v : Vld d rs) (zs : List Int) : Vld d (rs.map (keepR zs)) := ⟨by rw [List.length_map]; exact v.l, fun r hr => by
  obtain ⟨q, hq, rfl⟩ := List.mem_map.mp hr
  exact keep_ok (v.ok q hq)⟩
theorem Vld.bad {d : Hs} {rs : List Rw} (v : Vld d rs) {i : Nat} (b : BadAt d rs i) : False := by
  obtain ⟨h1, h2, h3 | ⟨r, hr, hn⟩⟩ := b
  · have := v.l
    omega
  · exact hn (v.ok r (List.mem_of_getElem? hr)).1
section
variable {P : Program} {w : World} {K : PySem.W.Frag} {mg : Str → Option Value} {base : Heap}
structure LMk (P : Program) (w : World) (K : PySem.W.Frag) (mg : Str → Option Value) (base : Heap) (C CL XL g : Addr) (fd : FuncData) : Prop where
  M : Mk K CL g
  G : FnOk P w K mg base (L2.CX P w) 9 g fd ["self", "house", "rows"] (spLInit K C CL XL)
  m : mg "Log" = some (.ref CL)
  b : Binds K fd ["self", "house", "rows"] []
theorem log_made {C CL XL h t : Addr} {xs : List V} {rs : List Rw} {d : Hs} {H : Hp} {Q : VK} {E : XK} (hh : HouseAt K C H h d) (hr : RowsAt K H t xs rs) (hl : xs.length ≤ 1000) (hm : ∀ r ∈ rs, SmR r) (bad : ∀ i, BadAt d rs i → Rx XL i H E)
    (ok : rs.length ≤ 30 → (∀ r ∈ rs, okR d r) → ∀ a H', Same H H' → H a = none → LogAt K C CL H' a h d rs → Q (.ref a) H') :
    ∀ x dx, H x = none → H dx = none → dx ≠ x → spLInit K C CL XL (.ref x :: ([.ref h, .ref t] ++ [])) (L2.upd (L2.upd H dx (.own x)) x (.ins CL dx [])) (fun v H2 => v = .non ∧ Q (.ref x) H2) E := by
  intro x dx nx ndx ne
  have hx' : (L2.upd H dx (.own x)) x = none := by rw [upd_ne ne.symm]; exact nx
  have e1 : Same H (L2.upd (L2.upd H dx (.own x)) x (.ins CL dx [])) := Same.upd2 (same_upd ndx) hx'
  refine ⟨x, dx, h, t, xs, rs, d, rfl, upd_same, hh.nl (nl_same e1), ⟨?_, Dp.sames e1 _ _ hr.2⟩, hl, hm, fun i b => (bad i b).same e1, fun l30 o H' bt la => ⟨rfl, ok l30 o x H' (fun c u hc => bt c u (e1 c u hc) (ne_of_none hc nx)) nx la⟩⟩
  rcases hr.1 with q | q
  · exact .inl (sqL_same e1 q)
  · exact .inr (SqT.same e1 q)
theorem log_madeX {C CL XL h t : Addr} {xs : List V} {rs : List Rw} {d : Hs} {H : Hp} {Qx : Addr → Hp → Prop} {E : XK} (hh : HouseAt K C H h d) (hr : RowsAt K H t xs rs) (hl : xs.length ≤ 1000) (hm : ∀ r ∈ rs, SmR r) (bad : ∀ i, BadAt d rs i → Rx XL i H E)
    (ok : rs.length ≤ 30 → (∀ r ∈ rs, okR d r) → ∀ a H', Same H H' → H a = none → LogAt K C CL H' a h d rs → Qx a H') :
    ∀ x dx, H x = none → H dx = none → dx ≠ x → spLInit K C CL XL (.ref x :: ([.ref h, .ref t] ++ [])) (L2.upd (L2.upd H dx (.own x)) x (.ins CL dx [])) (fun v H2 => v = .non ∧ Qx x H2) E := by
  intro x dx nx ndx ne
  have hx' : (L2.upd H dx (.own x)) x = none := by rw [upd_ne ne.symm]; exact nx
  have e1 : Same H (L2.upd (L2.upd H dx (.own x)) x (.ins CL dx [])) := Same.upd2 (same_upd ndx) hx'
  refine ⟨x, dx, h, t, xs, rs, d, rfl, upd_same, hh.nl (nl_same e1), ⟨?_, Dp.sames e1 _ _ hr.2⟩, hl, hm, fun i b => (bad i b).same e1, fun l30 o H' bt la => ⟨rfl, ok l30 o x H' (fun c u hc => bt c u (e1 c u hc) (ne_of_none hc nx)) nx la⟩⟩
  rcases hr.1 with q | q
  · exact .inl (sqL_same e1 q)
  · exact .inr (SqT.same e1 q)
/-! ### gaps, len, items -/
def spLGaps (K : PySem.W.Frag) (C CL : Addr) : Sp := fun vs H Q _ => ∃ (a h : Addr) (d : Hs) (rs : List Rw), vs = [.ref a] ∧ LogAt K C CL H a h d rs ∧ rs.length ≤ 1000 ∧ ∀ p H', Same H H' → H p = none → H' p = some (.lst (nV (gapIx rs))) → Q (.ref p) H'
theorem scLGaps : FnScope ["self", "index", "row"] ["self"] (defScope sLGaps) := ⟨rfl, rfl, rfl, by decide +kernel, rfl, by decide +kernel, by decide +kernel⟩
theorem gapIx_succ {rs : List Rw} {i : Nat} {r : Rw} (h : rs[i]? = some r) : (List.range (i + 1)).filter (fun i => (rs[i]?.map isGap).getD false) = (List.range i).filter (fun i => (rs[i]?.map isGap).getD false) ++ (if isGap r = true then [i] else []) := by
  rw [List.range_succ, List.filter_append]
  congr 1
  simp only [List.filter_cons, List.filter_nil, h, Option.map_some, Option.getD_some]
theorem ok_lgaps {f C CL : Addr} {fd : FuncData} (F : Fun K "gaps" "Log.gaps" sLGaps f fd) (B : Bt mg) (LC : LogC K CL) : FnOk P w K mg base CX0 1 f fd ["self"] (spLGaps K C CL) := by
  refine F.ok scLGaps (fun vs H Q E h => ?_) (fun cdv A outer s H vs Q E hr h => ?_)
  · obtain ⟨a, h, d, rs, rfl, _⟩ := h
    rfl
  · obtain ⟨a, h, d, rs, rfl, la, hl, k⟩ := h
    refine ⟨_, pss_one (ps_ret (pe_lc (own := [("index", 1), ("row", 2)]) (g := gTup K 2 (gCons (gName 1) (gCons (gName 2) gNil))) (tt := tTest (tOp rEq (tOp (rIxT K) (tVar 2) (tC (.int 0))) (tC (.str ("gap" : Str))))) (te := tVar 1) rfl scLGaps.nd
        (pi_enumT (by rfl) B.enu (pa_cons (pe_fld (pv 0) rfl) pa_nil))
        (blkOk_by (own := [("index", 1), ("row", 2)]) (N := ["self", "index", "row"]) (sc := defScope sLGaps) (by decide +kernel)) (fun _ _ _ _ _ => pg_tup (by rfl) (pgs_cons (pg_name (i := 1) scLGaps.nd rfl (.inl rfl)) (pgs_cons (pg_name (i := 2) scLGaps.nd rfl (.inl rfl)) pgs_nil)))
        (fun _ _ _ _ _ => pts_one (pt_cmpR op_eq (pe_ix ix_tup (pv 2) pe_int (fun _ _ => rfl)) pe_str (nomark _))) (fun _ _ _ _ _ => pv 1))), ?_⟩
    obtain ⟨dx, fs, t, xs, h0, h1, h2, h3, h4, h5⟩ := la.ex
    have lx := rows_len h5
    refine ⟨_, rfl, a, CL, dx, _, _, rfl, h0, LC.cl, LC.nR, h2, t, xs, rfl, h4, fun D hD => ?_⟩
    have e0 : ∀ (H' : Hp) (o : HO), Same H H' → Same H (L2.upd H' D o) := fun H' o e c u h => by rw [upd_ne (ne_of_none h hD)]; exact e c u h
    refine lc_enumT (K := K) (a := t) (xs := xs) (fun n H' => Same H H' ∧ H' D = some (.lst (nV ((List.range n).filter fun i => (rs[i]?.map isGap).getD false)))) ⟨same_upd hD, upd_same⟩ (fun n H' _ p => SqT.same p.1 h4) ?_ ?_
    · rintro n y H' T hy ⟨e, hz⟩ hT
      have hn := (List.getElem?_eq_some_iff.mp hy).1
      obtain ⟨dr, hdr, hdy⟩ := DpAll.get h5 hy
      obtain ⟨r, hrr⟩ : ∃ r, rs[n]? = some r := ⟨_, List.getElem?_eq_getElem (by omega)⟩
      rw [List.getElem?_map, hrr] at hdr
      cases hdr
      have f0 := same_upd (o := HO.tup [.int (n : Nat), y]) hT
      obtain ⟨ay, vs, rfl, sy⟩ := rw_at (Dp.same (e.trans f0) _ _ hdy)
      refine ⟨T, _, rfl, SqT.of upd_same, rfl, _, _, rfl, _, _, rfl, rfl, wipe_two _ 1 2 _ _ (by decide), _, rfl, ay, _, 0, _, rfl, rfl, sy, atI_nat (j := 0) rfl, rfl, _, rfl, ?_⟩
      rw [decS, rw_gap]
      have hz' := f0 _ _ hz
      have ln : (nV ((List.range n).filter fun i => (rs[i]?.map isGap).getD false)).length ≤ n := by
        rw [nv_len]
        have := List.length_filter_le (fun i => (rs[i]?.map isGap).getD false) (List.range n)
        rw [List.length_range] at this
        exact this
      refine ite_b _ (fun c => ?_) (fun c => ?_)
      · refine ⟨_, rfl, _, hz', by rw [sizeLine_eq]; omega, e0 _ _ (e.trans f0), ?_⟩
        rw [gapIx_succ hrr, c, if_pos rfl]
        have : nV ((List.range n).filter (fun i => (rs[i]?.map isGap).getD false) ++ [n]) = nV ((List.range n).filter fun i => (rs[i]?.map isGap).getD false) ++ [.int (n : Nat)] := by
          unfold nV
          rw [List.map_append]
          rfl
        rw [this]
        exact upd_same
      · refine ⟨e.trans f0, ?_⟩
        rw [gapIx_succ hrr, c, if_neg (by decide), List.append_nil]
        exact hz'
    · rintro H' ⟨e, hz⟩
      refine k D _ e hD ?_
      unfold gapIx
      rw [← lx]
      exact hz
end
end Kw


set_option Elab.async false
set_option linter.all false
set_option maxRecDepth 100000
set_option maxHeartbeats 4000000
namespace Kw
open PySem PySem.Spec PyProof.Rows L2
section
variable {P : Program} {w : World} {K : PySem.W.Frag} {mg : Str → Option Value} {base : Heap}
/-! ### == -/
/-! ### + -/
def spLAdd (K : PySem.W.Frag) (C CL XL : Addr) : Sp := fun vs H Q E => ∃ (a b h : Addr) (d : Hs) (rs qs : List Rw) (ys : List V), vs = [.ref a, .ref b] ∧ LogAt K C CL H a h d rs ∧ SqL K H b ys ∧ DpAll K H ys (qs.map rwD) ∧ rs.length ≤ 400 ∧ qs.length ≤ 400 ∧ (∀ r ∈ rs ++ qs, SmR r) ∧
  (∀ i, BadAt d (rs ++ qs) i → Rx XL i H E) ∧ ((rs ++ qs).length ≤ 30 → (∀ r ∈ rs ++ qs, okR d r) → ∀ a' H', Same H H' → H a' = none → LogAt K C CL H' a' h d (rs ++ qs) → Q (.ref a') H')
theorem scLAdd : FnScope ["self", "rows"] ["self", "rows"] (defScope sLAdd) := ⟨rfl, rfl, rfl, by decide +kernel, rfl, by decide +kernel, by decide +kernel⟩
theorem Kw_none {H H' : Hp} (e : Same H H') {a : Addr} (h : H' a = none) : H a = none := by
  cases q : H a with
  | none => rfl
  | some o => rw [e a o q] at h; cases h
theorem ok_ladd {f g C CL XL : Addr} {fd fdg : FuncData} (F : Fun K "__add__" "Log.__add__" sLAdd f fd) (B : Bt mg) (LC : LogC K CL) (M : LMk P w K mg base C CL XL g fdg) : FnOk P w K mg base (L2.CX P w) 11 f fd ["self", "rows"] (spLAdd K C CL XL) := by
  refine F.okX scLAdd (fun vs H Q E h => ?_) (fun cdv A outer s H vs Q E hr h => ?_)
  · obtain ⟨a, b, h, d, rs, qs, ys, rfl, _⟩ := h
    rfl
  · obtain ⟨a, b, h, d, rs, qs, ys, rfl, la, hb, hys, l1, l2, hm, kE, kQ⟩ := h
    have tk : Takes (cxOf (L2.CX P w) P w K mg base ["self", "rows"] "Log.__add__" (defScope sLAdd) f cdv A outer s H E) (fun cls d _ H => E cls d H) := takes_of rfl rfl rfl rfl
    have l5 := sizeLine_eq
    refine ⟨_, (pss_one (ps_ret (pe_make M.M M.G hr rfl M.m M.b .nil (passes_call tk (fun _ _ _ _ h => h)) (pa_cons (pe_fld (pv 0) rfl) (pa_cons (pe_op op_catA (pe_fld (pv 0) rfl) (pe_callTy call_tuple_of (by rfl) B.tup (by decide +kernel) (pa_cons (pv 1) pa_nil))) pa_nil))))), ?_⟩
    obtain ⟨dx, fs, t, xs, h0, h1, h2, h3, h4, h5⟩ := la.ex
    have lx := rows_len h5
    have ly := rows_len hys
    refine ⟨_, rfl, a, CL, dx, _, _, rfl, h0, LC.cl, LC.nH, h1, _, rfl, a, CL, dx, _, _, rfl, h0, LC.cl, LC.nR, h2, _, rfl, b, ys, rfl, .inl ⟨hb, fun l hl => ?_⟩⟩
    have f1 := same_upd (o := HO.tup ys) hl
    have hda : DpAll K (L2.upd H l (.tup ys)) (xs ++ ys) ((rs ++ qs).map rwD) := by
      rw [List.map_append]
      exact DpAll.app (Dp.sames f1 _ _ h5) (Dp.sames f1 _ _ hys)
    have fin : ∀ (t' : Addr) (H2 : Hp), Same (L2.upd H l (.tup ys)) H2 → SqT K H2 t' (xs ++ ys) → ∀ x dx, H2 x = none → H2 dx = none → dx ≠ x → spLInit K C CL XL (.ref x :: ([.ref h, .ref t'] ++ [])) (L2.upd (L2.upd H2 dx (.own x)) x (.ins CL dx [])) (fun v H3 => v = .non ∧ Q (.ref x) H3) E := fun t' H2 e2 st => by
      have e12 := f1.trans e2
      exact log_made (K := K) (C := C) (CL := CL) (xs := xs ++ ys) (rs := rs ++ qs) (Q := Q) (la.hh.nl (nl_same e12)) ⟨.inr st, Dp.sames e2 _ _ hda⟩ (by rw [List.length_append]; omega) hm (fun i bd => (kE i bd).same e12) fun l30 ok a' H3 e3 n3 la3 => kQ l30 ok a' H3 (e12.trans e3) (Kw_none e12 n3) la3
    refine ⟨t, l, xs, ys, rfl, rfl, SqT.same f1 h4, SqT.of upd_same, by omega, fun ex => ?_, fun nx ey => ?_, fun nx ny p hp => ?_⟩
    · subst ex
      exact fin l _ (Same.refl _) (SqT.of upd_same)
    · subst ey
      exact fin t _ (Same.refl _) (by rw [List.append_nil]; exact SqT.same f1 h4)
    · exact fin p _ (same_upd hp) (SqT.of upd_same)
/-! ### until -/
/-! ### watched -/
end
end Kw


set_option Elab.async false
set_option linter.all false
set_option maxRecDepth 100000
set_option maxHeartbeats 4000000
namespace Kw
open PySem PySem.Spec PyProof.Rows L2
section
variable {P : Program} {w : World} {K : PySem.W.Frag} {mg : Str → Option Value} {base : Heap}
end
end Kw


set_option Elab.async false
set_option linter.all false
set_option maxRecDepth 100000
set_option maxHeartbeats 4000000
namespace Kw
open PySem PySem.Spec PyProof.Rows L2
section
variable {P : Program} {w : World} {K : PySem.W.Frag} {mg : Str → Option Value} {base : Heap}
end
end Kw


set_option Elab.async false
set_option linter.all false
set_option maxRecDepth 100000
set_option maxHeartbeats 4000000
/-! set(a list of ints), as a value. -/
namespace Kw
open PySem PySem.Spec PyProof.Rows L2
section
variable {P : Program} {w : World} {A : Around} {E : Value → Shared → Prop} {s : Shared}
set_option maxRecDepth 100000 in
set_option maxHeartbeats 3200000 in
end
end Kw


set_option Elab.async false
set_option linter.all false
set_option maxRecDepth 100000
set_option maxHeartbeats 4000000
/-! Written data: what a display of written things gives. -/
namespace Kw
open PySem PySem.Spec PyProof.Rows L2
section
variable {K : PySem.W.Frag}
end
end Kw


set_option Elab.async false
set_option linter.all false
set_option maxRecDepth 100000
set_option maxHeartbeats 4000000
namespace Kw
open PySem PySem.Spec PyProof.Rows L2
/-! ### the list of deeds, exactly -/
def goodsOf (d : Hs) : List It := (List.range d.bs.length).map (fun i => (Kd.box, i)) ++ (List.range d.ts.length).map fun i => (Kd.thing, i)
def sealsOf (d : Hs) : List It := (List.range d.ss.length).map fun i => (Kd.sl, i)
def boxPart (d : Hs) (u j : Nat) : List Dd := (([.brk u j] ++ (List.range d.ss.length).map (fun m => Dd.lock u j m)) ++ ((goodsOf d).filter fun p => decide (p ≠ (Kd.box, j))).map fun p => Dd.put u p j) ++ ((goodsOf d).filter fun p => decide (p ≠ (Kd.box, j))).map fun p => Dd.take u p j
def givePart (hs : List Nat) (u : Nat) (p : It) : List Dd := (hs.filter fun o => decide (o ≠ u)).map fun o => Dd.give u p o
def handPart (d : Hs) (hs : List Nat) (u : Nat) : List Dd := (List.range d.bs.length).flatMap (boxPart d u) ++ (goodsOf d ++ sealsOf d).flatMap (givePart hs u)
def rawD (d : Hs) (hs : List Nat) : List Dd := hs.flatMap (handPart d hs)
/-- what some hands can do by themselves -/
def InD (d : Hs) (hs : List Nat) : Dd → Prop
  | .give h p o => h ∈ hs ∧ o ∈ hs ∧ o ≠ h ∧ inH d p
  | .put h p b => h ∈ hs ∧ inH d p ∧ b < d.bs.length ∧ p ≠ (.box, b) ∧ p.1 ≠ .sl
  | .take h p b => h ∈ hs ∧ inH d p ∧ b < d.bs.length ∧ p ≠ (.box, b) ∧ p.1 ≠ .sl
  | .lock h b s => h ∈ hs ∧ b < d.bs.length ∧ s < d.ss.length
  | .brk h b => h ∈ hs ∧ b < d.bs.length
theorem mem_goods {d : Hs} {p : It} : p ∈ goodsOf d ↔ inH d p ∧ p.1 ≠ .sl := by
  obtain ⟨k, n⟩ := p
  cases k <;> simp [goodsOf, inH, rowOf]
theorem mem_seals {d : Hs} {p : It} : p ∈ sealsOf d ↔ inH d p ∧ p.1 = .sl := by
  obtain ⟨k, n⟩ := p
  cases k <;> simp [sealsOf, inH, rowOf]
theorem mem_raw {d : Hs} {hs : List Nat} {e : Dd} : e ∈ rawD d hs ↔ InD d hs e := by
  unfold rawD handPart boxPart givePart
  cases e with
  | give h p o =>
    simp only [List.mem_flatMap, List.mem_append, List.mem_map, List.mem_filter, List.mem_singleton, List.mem_range, InD, mem_goods, mem_seals]
    constructor
    · rintro ⟨u, hu, ⟨j, hj, ((h1 | ⟨m, _, h1⟩) | ⟨q, _, h1⟩) | ⟨q, _, h1⟩⟩ | ⟨q, hq, o', ⟨ho, ne⟩, h1⟩⟩
      · cases h1
      · cases h1
      · cases h1
      · cases h1
      · cases h1
        exact ⟨hu, ho, by simpa using ne, hq.elim (·.1) (·.1)⟩
    · rintro ⟨h1, h2, h3, h4⟩
      refine ⟨h, h1, .inr ⟨p, ?_, o, ⟨h2, by simpa using h3⟩, rfl⟩⟩
      by_cases c : p.1 = .sl
      · exact .inr ⟨h4, c⟩
      · exact .inl ⟨h4, c⟩
  | put h p b =>
    simp only [List.mem_flatMap, List.mem_append, List.mem_map, List.mem_filter, List.mem_singleton, List.mem_range, InD, mem_goods]
    constructor
    · rintro ⟨u, hu, ⟨j, hj, ((h1 | ⟨m, _, h1⟩) | ⟨q, ⟨hq, ne⟩, h1⟩) | ⟨q, _, h1⟩⟩ | ⟨q, hq, o', _, h1⟩⟩
      · cases h1
      · cases h1
      · cases h1
        exact ⟨hu, hq.1, hj, by simpa using ne, hq.2⟩
      · cases h1
      · cases h1
    · rintro ⟨h1, h2, h3, h4, h5⟩
      exact ⟨h, h1, .inl ⟨b, h3, .inl (.inr ⟨p, ⟨⟨h2, h5⟩, by simpa using h4⟩, rfl⟩)⟩⟩
  | take h p b =>
    simp only [List.mem_flatMap, List.mem_append, List.mem_map, List.mem_filter, List.mem_singleton, List.mem_range, InD, mem_goods]
    constructor
    · rintro ⟨u, hu, ⟨j, hj, ((h1 | ⟨m, _, h1⟩) | ⟨q, _, h1⟩) | ⟨q, ⟨hq, ne⟩, h1⟩⟩ | ⟨q, hq, o', _, h1⟩⟩
      · cases h1
      · cases h1
      · cases h1
      · cases h1
        exact ⟨hu, hq.1, hj, by simpa using ne, hq.2⟩
      · cases h1
    · rintro ⟨h1, h2, h3, h4, h5⟩
      exact ⟨h, h1, .inl ⟨b, h3, .inr ⟨p, ⟨⟨h2, h5⟩, by simpa using h4⟩, rfl⟩⟩⟩
  | lock h b s =>
    simp only [List.mem_flatMap, List.mem_append, List.mem_map, List.mem_filter, List.mem_singleton, List.mem_range, InD]
    constructor
    · rintro ⟨u, hu, ⟨j, hj, ((h1 | ⟨m, hm, h1⟩) | ⟨q, _, h1⟩) | ⟨q, _, h1⟩⟩ | ⟨q, hq, o', _, h1⟩⟩
      · cases h1
      · cases h1
        exact ⟨hu, hj, hm⟩
      · cases h1
      · cases h1
      · cases h1
    · rintro ⟨h1, h2, h3⟩
      exact ⟨h, h1, .inl ⟨b, h2, .inl (.inl (.inr ⟨s, h3, rfl⟩))⟩⟩
  | brk h b =>
    simp only [List.mem_flatMap, List.mem_append, List.mem_map, List.mem_filter, List.mem_singleton, List.mem_range, InD]
    constructor
    · rintro ⟨u, hu, ⟨j, hj, ((h1 | ⟨m, hm, h1⟩) | ⟨q, _, h1⟩) | ⟨q, _, h1⟩⟩ | ⟨q, hq, o', _, h1⟩⟩
      · cases h1
        exact ⟨hu, hj⟩
      · cases h1
      · cases h1
      · cases h1
      · cases h1
    · rintro ⟨h1, h2⟩
      exact ⟨h, h1, .inl ⟨b, h2, .inl (.inl (.inl rfl))⟩⟩
theorem kn_in {d : Hs} {hs : List Nat} {e : Dd} (h : InD d hs e) : Kn d e := by
  have w : ∀ p, inH d p → (whereD d p).isSome = true := fun p hp => by unfold whereD; rw [List.getElem?_eq_getElem hp]; rfl
  cases e with
  | give h' p o => exact w p h.2.2.2
  | put h' p b => exact ⟨w p h.2.1, h.2.2.1⟩
  | take h' p b => exact ⟨w p h.2.1, h.2.2.1⟩
  | lock h' b s => exact h.2
  | brk h' b => exact h.2
theorem hb_in {d : Hs} {hs : List Nat} (hh : ∀ u ∈ hs, (u : Int) < d.hands) {e : Dd} (h : InD d hs e) : Hb d e := by
  cases e with
  | give h' p o => exact ⟨hh _ h.1, hh _ h.2.1, h.2.2.1⟩
  | put h' p b => exact ⟨hh _ h.1, h.2.2.2.1, h.2.2.2.2⟩
  | take h' p b => exact ⟨hh _ h.1, h.2.2.2.1, h.2.2.2.2⟩
  | lock h' b s => exact hh _ h.1
  | brk h' b => exact hh _ h.1
theorem sm_in {d : Hs} {hs : List Nat} (hh : ∀ u ∈ hs, (u : Int) < d.hands) (h4 : d.hands ≤ 4) (L : Ls d) {e : Dd} (h : InD d hs e) : Sm e := by
  have hu : ∀ u ∈ hs, u ≤ 1000 := fun u hu => by have := hh u hu; omega
  have hp : ∀ p, inH d p → p.2 ≤ 1000 := fun p hp => by
    have h1 : p.2 < (rowOf d p.1).length := hp
    have := L.row p.1
    omega
  have hb := L.b
  have hs' := L.s
  cases e with
  | give h' p o => exact ⟨hu _ h.1, hp _ h.2.2.2, hu _ h.2.1⟩
  | put h' p b => exact ⟨hu _ h.1, hp _ h.2.1, by have := h.2.2.1; omega⟩
  | take h' p b => exact ⟨hu _ h.1, hp _ h.2.1, by have := h.2.2.1; omega⟩
  | lock h' b s => exact ⟨hu _ h.1, by have := h.2.1; omega, by have := h.2.2; omega⟩
  | brk h' b => exact ⟨hu _ h.1, by have := h.2; omega⟩
section
variable {P : Program} {w : World} {K : PySem.W.Frag} {mg : Str → Option Value} {base : Heap}
theorem filter_tt {α : Type} (l : List α) : l.filter (fun _ => true) = l := List.filter_eq_self.mpr fun _ _ => rfl
theorem noLs_dd (es : List Dd) : noLs (es.map ddD) = true := noLs_map ddD noL_dd es
structure Fx (K : PySem.W.Frag) (L : Addr) (H0 H : Hp) (es : List Dd) (m : Nat) : Prop where
  bt : But L H0 H
  lm : es.length ≤ m
  ex : ∃ xs, H L = some (.lst xs) ∧ DpAll K H xs (es.map ddD)
theorem Fx.ext {L : Addr} {H0 H H' : Hp} {es : List Dd} {m : Nat} (x : Fx K L H0 H es m) (e : Same H H') : ∃ xs, H' L = some (.lst xs) ∧ xs.length ≤ m ∧ ∀ (zs : List V) (fs : List Dd) (n : Nat), fs.length ≤ n → DpAll K H' zs (fs.map ddD) → Fx K L H0 (L2.upd H' L (.lst (xs ++ zs))) (es ++ fs) (m + n) := by
  obtain ⟨xs, h1, h3⟩ := x.ex
  have lm := x.lm
  have lx := DpAll.len h3
  rw [List.length_map] at lx
  refine ⟨xs, e _ _ h1, by omega, fun zs fs n hn dz => ⟨fun a o h ne => ?_, by rw [List.length_append]; omega, xs ++ zs, upd_same, ?_⟩⟩
  · rw [upd_ne ne]
    exact e _ _ (x.bt a o h ne)
  · have k := nl_updL (ys := xs ++ zs) (e _ _ h1)
    rw [List.map_append]
    exact DpAll.app (Dp.nls k _ _ (noLs_dd _) (Dp.sames e _ _ h3)) (Dp.nls k _ _ (noLs_dd _) dz)
theorem Fx.more {L : Addr} {H0 H : Hp} {es fs : List Dd} {m n : Nat} (x : Fx K L H0 H es m) (h : m ≤ n) (e : es = fs) : Fx K L H0 H fs n := by
  subst e
  exact ⟨x.bt, by have := x.lm; omega, x.ex⟩
theorem perm_data {H : Hp} {xs ys : List V} (h : ys.Perm xs) : ∀ {es : List Dd}, DpAll K H xs (es.map ddD) → ∃ fs : List Dd, fs.Perm es ∧ DpAll K H ys (fs.map ddD) := by
  have key : ∀ {us vs : List V}, us.Perm vs → ∀ {es : List Dd}, DpAll K H us (es.map ddD) → ∃ fs : List Dd, fs.Perm es ∧ DpAll K H vs (fs.map ddD) := by
    intro us vs hp
    induction hp with
    | nil => intro es h; exact ⟨es, List.Perm.refl _, h⟩
    | cons x _ ih =>
      intro es h
      cases es with
      | nil => cases h
      | cons e es =>
        cases h with
        | cons h1 h2 =>
          obtain ⟨fs, f1, f2⟩ := ih h2
          exact ⟨e :: fs, f1.cons e, .cons h1 f2⟩
    | swap x y l =>
      intro es h
      cases es with
      | nil => cases h
      | cons e es =>
        cases h with
        | cons h1 h2 =>
          cases es with
          | nil => cases h2
          | cons f es =>
            cases h2 with
            | cons h2 h3 => exact ⟨f :: e :: es, List.Perm.swap _ _ _, .cons h2 (.cons h1 h3)⟩
    | trans _ _ ih1 ih2 =>
      intro es h
      obtain ⟨fs, f1, f2⟩ := ih1 h
      obtain ⟨gs, g1, g2⟩ := ih2 f2
      exact ⟨gs, g1.trans f1, g2⟩
  intro es hd
  exact key h.symm hd
theorem same_none {H H' : Hp} (e : Same H H') {p : Addr} (h : H' p = none) : H p = none := by
  cases q : H p with
  | none => rfl
  | some o =>
    rw [e _ _ q] at h
    cases h
theorem lc_fx {α : Type} {a D : Addr} {xs : List V} {j : Nat} {σ : L2.St} {H1 : Hp} {tt : TT} {te : TE} {Qd : Hp → Prop} (src : List α) (p : α → Bool) (g : α → PyData) (ng : ∀ s, noL (g s) = true) (lx : xs.length = src.length) (ha : SqL K H1 a xs) (hn : xs.length ≤ 1000000) (hD : H1 D = none)
    (hs : ∀ (i : Nat) (x : V) (s : α) (H : Hp) (N : Hp → Prop) (Y : V → Hp → Prop), xs[i]? = some x → src[i]? = some s → Same H1 H → (∀ H', Same H H' → p s = false → N H') → (∀ y H', Same H H' → p s = true → Dp K H' y (g s) → Y y H') → tt ((wipe σ [j]).set j (some x)) H fun b H3 => if b = true then te ((wipe σ [j]).set j (some x)) H3 Y else N H3)
    (hd : ∀ H zs, Same H1 H → H D = some (.lst zs) → DpAll K H zs ((src.filter p).map g) → Qd H) :
    ∃ W : Nat → Nat → Hp → Prop, (∃ m, W 0 m (upd H1 D (.lst []))) ∧ ∀ i m H, W i m H →
      ((Itl K a).stop i H ∧ Qd H) ∨ ((Itl K a).go i H ∧ ∃ Nx : Hp → Prop, (∀ H', Nx H' → ∃ m', m' < m ∧ W (i + 1) m' H') ∧ ∀ x H', (Itl K a).yld i H x H' → gName j x (wipe σ [j]) H' fun σ2 H2 => wipe σ2 [j] = wipe σ [j] ∧ tt σ2 H2 fun b H3 =>
        if b = true then te σ2 H3 fun y H4 => ∃ acc, H4 D = some (.lst acc) ∧ acc.length < sizeLine ∧ Nx (upd H4 D (.lst (acc ++ [y]))) else Nx H3) := by
  have e0 : ∀ (H' : Hp) (o : HO), Same H1 H' → Same H1 (L2.upd H' D o) := fun H' o e c u h => by rw [upd_ne (ne_of_none h hD)]; exact e c u h
  have ns : ∀ l : List α, noLs (l.map g) = true := fun l => noLs_map g ng l
  refine lc_list (K := K) (a := a) (xs := xs) (fun i H => Same H1 H ∧ ∃ zs, H D = some (.lst zs) ∧ DpAll K H zs (((src.take i).filter p).map g)) ⟨same_upd hD, [], upd_same, .nil⟩ (fun i H _ ⟨e, _⟩ => sqL_same e ha) ?_ ?_
  · rintro i x H hi ⟨e, zs, hz, dz⟩
    have i1 := (List.getElem?_eq_some_iff.mp hi).1
    obtain ⟨s, hs'⟩ : ∃ s, src[i]? = some s := ⟨_, List.getElem?_eq_getElem (by omega)⟩
    have lz : zs.length ≤ i := by
      have h1 := DpAll.len dz
      rw [List.length_map] at h1
      have h2 := List.length_filter_le p (src.take i)
      rw [List.length_take] at h2
      omega
    refine ⟨wipe_one _ j _, hs i x s H _ _ hi hs' e (fun H' e' pf => ⟨e.trans e', zs, e' _ _ hz, ?_⟩) (fun y H' e' pt dy => ?_)⟩
    · rw [List.take_add_one, hs', List.filter_append]
      simp only [Option.toList_some, List.filter_cons, List.filter_nil, pf, Bool.false_eq_true, if_false, List.append_nil]
      exact Dp.sames e' _ _ dz
    have hz' := e' _ _ hz
    have k := nl_updL (ys := zs ++ [y]) hz'
    refine ⟨zs, hz', by rw [sizeLine_eq]; omega, e0 _ _ (e.trans e'), zs ++ [y], upd_same, ?_⟩
    rw [List.take_add_one, hs', List.filter_append]
    simp only [Option.toList_some, List.filter_cons, List.filter_nil, pt, if_true, List.map_append, List.map_cons, List.map_nil]
    exact DpAll.app (Dp.nls k _ _ (ns _) (Dp.sames e' _ _ dz)) (.cons (Dp.nl k _ _ (ng s) dy) .nil)
  · rintro H ⟨e, zs, hz, dz⟩
    rw [lx, List.take_length] at dz
    exact hd H zs e hz dz
theorem lc_fxT {α : Type} {a D : Addr} {xs : List V} {j : Nat} {σ : L2.St} {H1 : Hp} {tt : TT} {te : TE} {Qd : Hp → Prop} (src : List α) (p : α → Bool) (g : α → PyData) (ng : ∀ s, noL (g s) = true) (lx : xs.length = src.length) (ha : SqT K H1 a xs) (hn : xs.length ≤ 1000000) (hD : H1 D = none)
    (hs : ∀ (i : Nat) (x : V) (s : α) (H : Hp) (N : Hp → Prop) (Y : V → Hp → Prop), xs[i]? = some x → src[i]? = some s → Same H1 H → (∀ H', Same H H' → p s = false → N H') → (∀ y H', Same H H' → p s = true → Dp K H' y (g s) → Y y H') → tt ((wipe σ [j]).set j (some x)) H fun b H3 => if b = true then te ((wipe σ [j]).set j (some x)) H3 Y else N H3)
    (hd : ∀ H zs, Same H1 H → H D = some (.lst zs) → DpAll K H zs ((src.filter p).map g) → Qd H) :
    ∃ W : Nat → Nat → Hp → Prop, (∃ m, W 0 m (upd H1 D (.lst []))) ∧ ∀ i m H, W i m H →
      ((Itt K a).stop i H ∧ Qd H) ∨ ((Itt K a).go i H ∧ ∃ Nx : Hp → Prop, (∀ H', Nx H' → ∃ m', m' < m ∧ W (i + 1) m' H') ∧ ∀ x H', (Itt K a).yld i H x H' → gName j x (wipe σ [j]) H' fun σ2 H2 => wipe σ2 [j] = wipe σ [j] ∧ tt σ2 H2 fun b H3 =>
        if b = true then te σ2 H3 fun y H4 => ∃ acc, H4 D = some (.lst acc) ∧ acc.length < sizeLine ∧ Nx (upd H4 D (.lst (acc ++ [y]))) else Nx H3) := by
  have e0 : ∀ (H' : Hp) (o : HO), Same H1 H' → Same H1 (L2.upd H' D o) := fun H' o e c u h => by rw [upd_ne (ne_of_none h hD)]; exact e c u h
  have ns : ∀ l : List α, noLs (l.map g) = true := fun l => noLs_map g ng l
  refine lc_tup (K := K) (a := a) (xs := xs) (fun i H => Same H1 H ∧ ∃ zs, H D = some (.lst zs) ∧ DpAll K H zs (((src.take i).filter p).map g)) ⟨same_upd hD, [], upd_same, .nil⟩ (fun i H _ ⟨e, _⟩ => SqT.same e ha) ?_ ?_
  · rintro i x H hi ⟨e, zs, hz, dz⟩
    have i1 := (List.getElem?_eq_some_iff.mp hi).1
    obtain ⟨s, hs'⟩ : ∃ s, src[i]? = some s := ⟨_, List.getElem?_eq_getElem (by omega)⟩
    have lz : zs.length ≤ i := by
      have h1 := DpAll.len dz
      rw [List.length_map] at h1
      have h2 := List.length_filter_le p (src.take i)
      rw [List.length_take] at h2
      omega
    refine ⟨wipe_one _ j _, hs i x s H _ _ hi hs' e (fun H' e' pf => ⟨e.trans e', zs, e' _ _ hz, ?_⟩) (fun y H' e' pt dy => ?_)⟩
    · rw [List.take_add_one, hs', List.filter_append]
      simp only [Option.toList_some, List.filter_cons, List.filter_nil, pf, Bool.false_eq_true, if_false, List.append_nil]
      exact Dp.sames e' _ _ dz
    have hz' := e' _ _ hz
    have k := nl_updL (ys := zs ++ [y]) hz'
    refine ⟨zs, hz', by rw [sizeLine_eq]; omega, e0 _ _ (e.trans e'), zs ++ [y], upd_same, ?_⟩
    rw [List.take_add_one, hs', List.filter_append]
    simp only [Option.toList_some, List.filter_cons, List.filter_nil, pt, if_true, List.map_append, List.map_cons, List.map_nil]
    exact DpAll.app (Dp.nls k _ _ (ns _) (Dp.sames e' _ _ dz)) (.cons (Dp.nl k _ _ (ng s) dy) .nil)
  · rintro H ⟨e, zs, hz, dz⟩
    rw [lx, List.take_length] at dz
    exact hd H zs e hz dz
def spDeedsXL (K : PySem.W.Frag) : Sp := fun vs H Q _ => ∃ (x : V) (hp : Addr) (d : Hs) (hs : List Nat), vs = [x, .ref hp] ∧ Dp K H x (stD d) ∧ H hp = some (.lst (nV hs)) ∧ hs.length ≤ 4 ∧ (∀ u ∈ hs, (u : Int) < d.hands) ∧ d.hands ≤ 4 ∧ d.bs.length ≤ 3 ∧ d.ts.length ≤ 4 ∧ d.ss.length ≤ 3 ∧
  ∀ (p : Addr) (xs : List V) (es : List Dd) (H' : Hp), Same H H' → H p = none → H' p = some (.lst xs) → DpAll K H' xs (es.map ddD) → es.length ≤ 400 → (∀ e, e ∈ es ↔ InD d hs e ∧ barOf d e = "") → Q (.ref p) H'
theorem ok_deedsXL {f g : Addr} {fd fdg : FuncData} (F : Fun K "_law_deeds" "_law_deeds" sDeeds f fd) (B : Bt mg) (mS : mg "sorted" = none) (G : FnOk P w K mg base CX0 2 g fdg ["_law_state", "_law_deed"] (spBar K)) (mG : mg "_law_bar" = some (.ref g)) (kG : PySem.W.keepIn K (.ref g) = true) (bG : Binds K fdg ["_law_state", "_law_deed"] []) :
    FnOk P w K mg base CX0 3 f fd ["_law_state", "_law_hands_here"] (spDeedsXL K) := by
  refine F.ok scDeedsT (fun vs H Q E h => ?_) (fun cdv A outer s H vs Q E hr h => ?_)
  · obtain ⟨x, hp, d, hs, rfl, _⟩ := h
    rfl
  · obtain ⟨x, hp, d, hs, rfl, hx, hhp, hn, hub, hd4, lb, lt, ls, k⟩ := h
    have hu : (cxOf CX0 P w K mg base ["_law_state", "_law_hands_here", "_law_boxes", "_law_things", "_law_seals", "_law_goods", "_law_found", "_law_hand", "_law_box", "_law_item", "_law_row", "_law_number", "_law_seal", "_law_other", "_law_deed"] "_law_deeds" (defScope sDeeds) f cdv A outer s H E).nox.A.units + 64 < cLine := by have := hr.un; show (A.deeper _).units + 64 < cLine; omega
    have hu60 : (cxOf CX0 P w K mg base ["_law_state", "_law_hands_here", "_law_boxes", "_law_things", "_law_seals", "_law_goods", "_law_found", "_law_hand", "_law_box", "_law_item", "_law_row", "_law_number", "_law_seal", "_law_other", "_law_deed"] "_law_deeds" (defScope sDeeds) f cdv A outer s H E).nox.A.units + 60 < cLine := by omega
    have hr1 : Room 2 _ := hr
    refine ⟨_, (pss_cons (ps_asg (pe_lc (own := [("_law_row", 10)]) (g := gName 10) (tt := tYes) (te := tLstRg (tRg1 (tCB (fun xs H Q => ∃ p ys, xs = [V.ref p] ∧ (SqL K H p ys ∨ SqT K H p ys) ∧ Q (.int ys.length) H) (tCons (tVar 10) tNil)))) rfl scDeedsT.nd (pi_tup (pv 0)) (blkOk_by (own := [("_law_row", 10)]) (N := ["_law_state", "_law_hands_here", "_law_boxes", "_law_things", "_law_seals", "_law_goods", "_law_found", "_law_hand", "_law_box", "_law_item", "_law_row", "_law_number", "_law_seal", "_law_other", "_law_deed"]) (sc := defScope sDeeds) (by decide +kernel)) (fun _ _ _ _ _ => pg_name (i := 10) scDeedsT.nd rfl (.inl rfl)) (fun _ _ _ _ _ => pts_nil) (fun _ _ _ _ _ => pe_listRg rfl (by rfl) B.lst (prg_1 (by rfl) B.rng (pe_callB call_len_seq (by rfl) B.len PySem.boot_len (pa_cons (pv 10) pa_nil))))) (pg_lst rfl (pgs_cons (pg_name (i := 2) scDeedsT.nd rfl (.inl rfl)) (pgs_cons (pg_name (i := 3) scDeedsT.nd rfl (.inl rfl)) (pgs_cons (pg_name (i := 4) scDeedsT.nd rfl (.inl rfl)) pgs_nil)))))
      (pss_cons (ps_set (i := 5) scDeedsT.nd rfl (.inl rfl) (pe_op op_cat (pe_lc (own := [("_law_number", 11)]) (g := gName 11) (tt := tYes) (te := (tTup (tCons (tC (.str ("box" : Str))) (tCons (tVar 11) (tNil))))) rfl scDeedsT.nd (pi_list (pv 2)) (blkOk_by (own := [("_law_number", 11)]) (N := ["_law_state", "_law_hands_here", "_law_boxes", "_law_things", "_law_seals", "_law_goods", "_law_found", "_law_hand", "_law_box", "_law_item", "_law_row", "_law_number", "_law_seal", "_law_other", "_law_deed"]) (sc := defScope sDeeds) (by decide +kernel)) (fun _ _ _ _ _ => pg_name (i := 11) scDeedsT.nd rfl (.inl rfl)) (fun _ _ _ _ _ => pts_nil) (fun _ _ _ _ _ => (pe_tup (pa_cons pe_str (pa_cons (pv 11) (pa_nil)))))) (pe_lc (own := [("_law_number", 11)]) (g := gName 11) (tt := tYes) (te := (tTup (tCons (tC (.str ("thing" : Str))) (tCons (tVar 11) (tNil))))) rfl scDeedsT.nd (pi_list (pv 3)) (blkOk_by (own := [("_law_number", 11)]) (N := ["_law_state", "_law_hands_here", "_law_boxes", "_law_things", "_law_seals", "_law_goods", "_law_found", "_law_hand", "_law_box", "_law_item", "_law_row", "_law_number", "_law_seal", "_law_other", "_law_deed"]) (sc := defScope sDeeds) (by decide +kernel)) (fun _ _ _ _ _ => pg_name (i := 11) scDeedsT.nd rfl (.inl rfl)) (fun _ _ _ _ _ => pts_nil) (fun _ _ _ _ _ => (pe_tup (pa_cons pe_str (pa_cons (pv 11) (pa_nil))))))))
      (pss_cons (ps_set (i := 6) scDeedsT.nd rfl (.inl rfl) (pe_lst pa_nil))
      (pss_cons (ps_for PassesOwn.never rfl (pi_list (pv 1)) (pg_name (i := 7) scDeedsT.nd rfl (.inr rfl)) (pss_cons (ps_for PassesOwn.never rfl (pi_list (pv 2)) (pg_name (i := 8) scDeedsT.nd rfl (.inr rfl)) (pss_cons (ps_expr (pe_bm PySem.F.plainAttrs_list PySem.F.slot_list_append PySem.F.type_list_append mt_append (pv 6) (pa_cons (pe_tup (pa_cons pe_str (pa_cons (pv 7) (pa_cons (pv 8) (pa_nil))))) pa_nil)))
      (pss_cons (ps_expr (pe_bm PySem.F.plainAttrs_list PySem.F.slot_list_extend PySem.F.type_list_extend mt_extend (pv 6) (pa_cons (pe_lc (own := [("_law_seal", 12)]) (g := gName 12) (tt := tYes) (te := (tTup (tCons (tC (.str ("seal" : Str))) (tCons (tVar 7) (tCons (tVar 8) (tCons (tVar 12) (tNil))))))) rfl scDeedsT.nd (pi_list (pv 4)) (blkOk_by (own := [("_law_seal", 12)]) (N := ["_law_state", "_law_hands_here", "_law_boxes", "_law_things", "_law_seals", "_law_goods", "_law_found", "_law_hand", "_law_box", "_law_item", "_law_row", "_law_number", "_law_seal", "_law_other", "_law_deed"]) (sc := defScope sDeeds) (by decide +kernel)) (fun _ _ _ _ _ => pg_name (i := 12) scDeedsT.nd rfl (.inl rfl)) (fun _ _ _ _ _ => pts_nil) (fun _ _ _ _ _ => (pe_tup (pa_cons pe_str (pa_cons (pv 7) (pa_cons (pv 8) (pa_cons (pv 12) (pa_nil)))))))) pa_nil)))
      (pss_cons (ps_expr (pe_bm PySem.F.plainAttrs_list PySem.F.slot_list_extend PySem.F.type_list_extend mt_extend (pv 6) (pa_cons (pe_lc (own := [("_law_item", 9)]) (g := gName 9) (tt := (tTest (tOp (rNeD K) (tVar 9) (tTup (tCons (tC (.str ("box" : Str))) (tCons (tVar 8) tNil)))))) (te := (tTup (tCons (tC (.str ("put" : Str))) (tCons (tVar 7) (tCons (tVar 9) (tCons (tVar 8) (tNil))))))) rfl scDeedsT.nd (pi_list (pv 5)) (blkOk_by (own := [("_law_item", 9)]) (N := ["_law_state", "_law_hands_here", "_law_boxes", "_law_things", "_law_seals", "_law_goods", "_law_found", "_law_hand", "_law_box", "_law_item", "_law_row", "_law_number", "_law_seal", "_law_other", "_law_deed"]) (sc := defScope sDeeds) (by decide +kernel)) (fun _ _ _ _ _ => pg_name (i := 9) scDeedsT.nd rfl (.inl rfl)) (fun _ _ _ _ _ => pts_one (pt_cmpR (op_neD hu) (pv 9) (pe_tup (pa_cons pe_str (pa_cons (pv 8) pa_nil))) (nomark _))) (fun _ _ _ _ _ => (pe_tup (pa_cons pe_str (pa_cons (pv 7) (pa_cons (pv 9) (pa_cons (pv 8) (pa_nil)))))))) pa_nil)))
      (pss_one (ps_expr (pe_bm PySem.F.plainAttrs_list PySem.F.slot_list_extend PySem.F.type_list_extend mt_extend (pv 6) (pa_cons (pe_lc (own := [("_law_item", 9)]) (g := gName 9) (tt := (tTest (tOp (rNeD K) (tVar 9) (tTup (tCons (tC (.str ("box" : Str))) (tCons (tVar 8) tNil)))))) (te := (tTup (tCons (tC (.str ("take" : Str))) (tCons (tVar 7) (tCons (tVar 9) (tCons (tVar 8) (tNil))))))) rfl scDeedsT.nd (pi_list (pv 5)) (blkOk_by (own := [("_law_item", 9)]) (N := ["_law_state", "_law_hands_here", "_law_boxes", "_law_things", "_law_seals", "_law_goods", "_law_found", "_law_hand", "_law_box", "_law_item", "_law_row", "_law_number", "_law_seal", "_law_other", "_law_deed"]) (sc := defScope sDeeds) (by decide +kernel)) (fun _ _ _ _ _ => pg_name (i := 9) scDeedsT.nd rfl (.inl rfl)) (fun _ _ _ _ _ => pts_one (pt_cmpR (op_neD hu) (pv 9) (pe_tup (pa_cons pe_str (pa_cons (pv 8) pa_nil))) (nomark _))) (fun _ _ _ _ _ => (pe_tup (pa_cons pe_str (pa_cons (pv 7) (pa_cons (pv 9) (pa_cons (pv 8) (pa_nil)))))))) pa_nil))))))))
      (pss_one (ps_for PassesOwn.never rfl (pi_list (pe_op op_cat (pv 5) (pe_lc (own := [("_law_seal", 12)]) (g := gName 12) (tt := tYes) (te := (tTup (tCons (tC (.str ("seal" : Str))) (tCons (tVar 12) (tNil))))) rfl scDeedsT.nd (pi_list (pv 4)) (blkOk_by (own := [("_law_seal", 12)]) (N := ["_law_state", "_law_hands_here", "_law_boxes", "_law_things", "_law_seals", "_law_goods", "_law_found", "_law_hand", "_law_box", "_law_item", "_law_row", "_law_number", "_law_seal", "_law_other", "_law_deed"]) (sc := defScope sDeeds) (by decide +kernel)) (fun _ _ _ _ _ => pg_name (i := 12) scDeedsT.nd rfl (.inl rfl)) (fun _ _ _ _ _ => pts_nil) (fun _ _ _ _ _ => (pe_tup (pa_cons pe_str (pa_cons (pv 12) (pa_nil)))))))) (pg_name (i := 9) scDeedsT.nd rfl (.inr rfl)) (pss_one (ps_expr (pe_bm PySem.F.plainAttrs_list PySem.F.slot_list_extend PySem.F.type_list_extend mt_extend (pv 6) (pa_cons (pe_lc (own := [("_law_other", 13)]) (g := gName 13) (tt := (tTest (tOp rNe (tVar 13) (tVar 7)))) (te := (tTup (tCons (tC (.str ("give" : Str))) (tCons (tVar 7) (tCons (tVar 9) (tCons (tVar 13) (tNil))))))) rfl scDeedsT.nd (pi_list (pv 1)) (blkOk_by (own := [("_law_other", 13)]) (N := ["_law_state", "_law_hands_here", "_law_boxes", "_law_things", "_law_seals", "_law_goods", "_law_found", "_law_hand", "_law_box", "_law_item", "_law_row", "_law_number", "_law_seal", "_law_other", "_law_deed"]) (sc := defScope sDeeds) (by decide +kernel)) (fun _ _ _ _ _ => pg_name (i := 13) scDeedsT.nd rfl (.inl rfl)) (fun _ _ _ _ _ => pts_one (pt_cmpR op_ne (pv 13) (pv 7) (nomark _))) (fun _ _ _ _ _ => (pe_tup (pa_cons pe_str (pa_cons (pv 7) (pa_cons (pv 9) (pa_cons (pv 13) (pa_nil)))))))) pa_nil))))))))
      (pss_one (ps_ret (pe_callB (cr_sortD hu60) (by rfl) mS (by decide +kernel) (pa_cons (pe_lc (own := [("_law_deed", 14)]) (g := gName 14) (tt := (tTest (tOp rEq (tCall (spBar K) [] E0 (tCons (tVar 0) (tCons (tVar 14) tNil))) (tC (.str ("" : Str)))))) (te := tVar 14) rfl scDeedsT.nd (pi_list (pv 6)) (blkOk_by (own := [("_law_deed", 14)]) (N := ["_law_state", "_law_hands_here", "_law_boxes", "_law_things", "_law_seals", "_law_goods", "_law_found", "_law_hand", "_law_box", "_law_item", "_law_row", "_law_number", "_law_seal", "_law_other", "_law_deed"]) (sc := defScope sDeeds) (by decide +kernel)) (fun _ _ _ _ _ => pg_name (i := 14) scDeedsT.nd rfl (.inl rfl)) (fun _ _ _ _ _ => pts_one (pt_cmpR op_eq (pe_call G hr1 rfl mG kG bG .nil pass0 (pa_cons (pv 0) (pa_cons (pv 14) pa_nil))) pe_str (nomark _))) (fun _ _ _ _ _ => pv 14)) pa_nil)))))))), ?_⟩
    obtain ⟨a, v1, v2, v3, rfl, sa, d1, d2, d3⟩ := st_at hx
    have ilen : ∀ (j : Nat) (v : V), [v1, v2, v3][j]? = some v → ∃ l, (rows3 d)[j]? = some l ∧ Dp K H v (plsD l) := fun j v e => by
      match j, e with
      | 0, e => cases e; exact ⟨_, rfl, d1⟩
      | 1, e => cases e; exact ⟨_, rfl, d2⟩
      | 2, e => cases e; exact ⟨_, rfl, d3⟩
      | j + 3, e => simp at e
    have rlen : ∀ (j : Nat) (l : List Pl), (rows3 d)[j]? = some l → l.length ≤ 4 := fun j l e => by
      match j, e with
      | 0, e => cases e; omega
      | 1, e => cases e; omega
      | 2, e => cases e; omega
      | j + 3, e => simp [rows3] at e
    have rl4 : ∀ k, (rowOf d k).length ≤ 4 := fun k => by
      cases k
      · show d.bs.length ≤ 4; omega
      · show d.ts.length ≤ 4; omega
      · show d.ss.length ≤ 4; omega
    -- the numbers
    refine ⟨_, rfl, a, rfl, ⟨_, sa⟩, fun Dl hD => ?_⟩
    have e0 : ∀ (H' : Hp) (o : HO), Same H H' → Same H (L2.upd H' Dl o) := fun H' o e c u h => by rw [upd_ne (ne_of_none h hD)]; exact e c u h
    refine lc_tup (K := K) (a := a) (xs := [v1, v2, v3]) (fun i H' => Same H H' ∧ ∃ ls : List Addr, H' Dl = some (.lst (ls.map V.ref)) ∧ ls.length = i ∧ ∀ (j : Nat) b, ls[j]? = some b → b ≠ Dl ∧ ∃ l, (rows3 d)[j]? = some l ∧ H' b = some (.lst (rgV 0 (l.length : Nat)))) ⟨same_upd hD, [], upd_same, rfl, fun j b e => by simp at e⟩ (fun i H' _ ⟨e, _⟩ => SqT.same e sa) ?_ ?_
    · rintro i y H' hi ⟨e, ls, hls, ll, hall⟩
      obtain ⟨l, hl1, hl2⟩ := ilen i y hi
      obtain ⟨ar, xr, rfl, sr, dr, lr⟩ := pls_at hl2
      have hl4 := rlen i l hl1
      have i3 : i < 3 := (List.getElem?_eq_some_iff.mp hi).1
      refine ⟨wipe_one _ 10 _, yes_lc ?_⟩
      refine ⟨_, rfl, ar, xr, rfl, .inr (SqT.same e sr), _, rfl, RgOk.of_le (by omega) (by omega) (by omega) (by omega), fun q hq => ?_⟩
      have nq : q ≠ Dl := (ne_of_none hls hq).symm
      have f1 := same_upd (o := HO.lst (rgV 0 (xr.length : Nat))) hq
      have hls1 := f1 _ _ hls
      refine ⟨ls.map V.ref, hls1, by rw [sizeLine_eq, List.length_map]; omega, e0 _ _ (e.trans f1), ls ++ [q], ?_, by rw [List.length_append, ll]; rfl, fun j b hb => ?_⟩
      · rw [List.map_append]
        exact upd_same
      · by_cases c : j < ls.length
        · rw [List.getElem?_append_left c] at hb
          obtain ⟨g1, l', g2, g3⟩ := hall j b hb
          exact ⟨g1, l', g2, by rw [upd_ne g1]; exact f1 _ _ g3⟩
        · have ej : j = ls.length := by
            have := (List.getElem?_eq_some_iff.mp hb).1
            simp at this
            omega
          subst ej
          rw [List.getElem?_append_right (Nat.le_refl _), Nat.sub_self] at hb
          have ex : q = b := by simpa using hb
          subst ex
          exact ⟨nq, l, by rw [ll]; exact hl1, by rw [upd_ne nq, ← lr]; exact upd_same⟩
    rintro H3 ⟨e3, ls, hls, ll, hall⟩
    have ll : ls.length = 3 := ll
    obtain ⟨ab, at', as, rfl⟩ : ∃ x y z, ls = [x, y, z] := by
      match ls, ll with
      | [x, y, z], _ => exact ⟨x, y, z, rfl⟩
    obtain ⟨_, l1, q1, hab⟩ := hall 0 ab rfl
    obtain ⟨_, l2, q2, hat⟩ := hall 1 at' rfl
    obtain ⟨_, l3, q3, has⟩ := hall 2 as rfl
    cases q1
    cases q2
    cases q3
    refine ⟨Dl, _, rfl, SqL.of hls, rfl, _, _, rfl, _, _, rfl, _, _, rfl, rfl, ?_⟩
    -- boxes and things
    have rgx : ∀ (n i : Nat) (x : V) (s : Nat), (rgV 0 (n : Int))[i]? = some x → (List.range n)[i]? = some s → x = .int (s : Nat) ∧ s < n := fun n i x s h1 h2 => by
      obtain ⟨hi, rfl⟩ := rg_get h1
      rw [List.getElem?_range hi] at h2
      obtain rfl := Option.some.inj h2
      exact ⟨rfl, hi⟩
    refine ⟨_, rfl, ab, rfl, ⟨_, SqL.of hab⟩, fun D1 hD1 => ?_⟩
    refine lc_fx (K := K) (List.range d.bs.length) (fun _ => true) (fun i => itP (Kd.box, i)) (fun _ => rfl) (by rw [rg_len, List.length_range]) (SqL.of hab) (by rw [rg_len]; omega) hD1 (fun i x s H' N Y hi hs' e hN hY => ?_) (fun H4 g1 e4 hg1 dg1 => ?_)
    · obtain ⟨rfl, hi'⟩ := rgx _ _ _ _ hi hs'
      exact yes_lc ⟨_, rfl, (by show 2 ≤ sizeLine; decide), fun t ht => hY _ _ (same_upd ht) rfl (.tup (SqT.of upd_same) (.cons (.str _) (.cons (.int _) .nil)))⟩
    refine ⟨_, rfl, at', rfl, ⟨_, SqL.of (e4 _ _ hat)⟩, fun D2 hD2 => ?_⟩
    refine lc_fx (K := K) (List.range d.ts.length) (fun _ => true) (fun i => itP (Kd.thing, i)) (fun _ => rfl) (by rw [rg_len, List.length_range]) (SqL.of (e4 _ _ hat)) (by rw [rg_len]; omega) hD2 (fun i x s H' N Y hi hs' e hN hY => ?_) (fun H5 g2 e5 hg2 dg2 => ?_)
    · obtain ⟨rfl, hi'⟩ := rgx _ _ _ _ hi hs'
      exact yes_lc ⟨_, rfl, (by show 2 ≤ sizeLine; decide), fun t ht => hY _ _ (same_upd ht) rfl (.tup (SqT.of upd_same) (.cons (.str _) (.cons (.int _) .nil)))⟩
    rw [filter_tt] at dg1 dg2
    have lg1 : g1.length ≤ 3 := by have := DpAll.len dg1; rw [List.length_map, List.length_range] at this; omega
    have lg2 : g2.length ≤ 4 := by have := DpAll.len dg2; rw [List.length_map, List.length_range] at this; omega
    refine ⟨D1, D2, g1, g2, rfl, rfl, e5 _ _ hg1, hg2, by rw [sizeLine_eq]; omega, fun pg hpg => ?_⟩
    have e6 := same_upd (o := HO.lst (g1 ++ g2)) hpg
    have hpg6 : (L2.upd H5 pg (.lst (g1 ++ g2))) pg = some (.lst (g1 ++ g2)) := upd_same
    have dg6 : DpAll K (L2.upd H5 pg (.lst (g1 ++ g2))) (g1 ++ g2) ((goodsOf d).map itP) := by
      unfold goodsOf
      rw [List.map_append, List.map_map, List.map_map]
      exact DpAll.app (Dp.sames (e5.trans e6) _ _ dg1) (Dp.sames e6 _ _ dg2)
    have lg : (goodsOf d).length ≤ 7 := by unfold goodsOf; rw [List.length_append, List.length_map, List.length_map, List.length_range, List.length_range]; omega
    have e36 := e4.trans (e5.trans e6)
    generalize L2.upd H5 pg (.lst (g1 ++ g2)) = H6 at *
    generalize g1 ++ g2 = gs at *
    have lgs : gs.length = (goodsOf d).length := by rw [DpAll.len dg6, List.length_map]
    refine ⟨(by show 0 ≤ sizeLine; decide), fun L hL => ?_⟩
    have e7 := same_upd (o := HO.lst []) hL
    have e37 := e36.trans e7
    have eH := e3.trans e37
    have hL0 : (L2.upd H6 L (.lst [])) L = some (.lst []) := upd_same
    have hab7 := e37 _ _ hab
    have hat7 := e37 _ _ hat
    have has7 := e37 _ _ has
    have hpg7 := e7 _ _ hpg6
    have hhp7 := eH _ _ hhp
    have dg7 := Dp.sames e7 _ _ dg6
    have hx7 := Dp.same eH _ _ hx
    have nab : ab ≠ L := ne_of_none (e36 _ _ hab) hL
    have nat : at' ≠ L := ne_of_none (e36 _ _ hat) hL
    have nas : as ≠ L := ne_of_none (e36 _ _ has) hL
    have npg : pg ≠ L := ne_of_none hpg6 hL
    have noldL : ∀ (b : Addr) o, H b = some o → b ≠ L := fun b o h => ne_of_none (e36 _ _ (e3 _ _ h)) hL
    have nhp : hp ≠ L := noldL _ _ hhp
    generalize L2.upd H6 L (.lst []) = H0 at *
    have nlf : ∀ {H' : Hp} {es : List Dd} {m : Nat}, Fx K L H0 H' es m → Nl H0 H' := fun fd => fd.bt.nl hL0
    -- hand by hand
    refine ⟨_, rfl, hp, rfl, ⟨_, SqL.of hhp7⟩, ?_⟩
    refine for_list (K := K) (a := hp) (xs := nV hs) (fun i σ H' => ∃ vh vb vi : Option V, σ = [some (.ref a), some (.ref hp), some (.ref ab), some (.ref at'), some (.ref as), some (.ref pg), some (.ref L), vh, vb, vi, none, none, none, none, none] ∧ Fx K L H0 H' ((hs.take i).flatMap (handPart d hs)) (i * 100))
      ⟨none, none, none, rfl, But.refl _ _, by simp, [], hL0, .nil⟩ (fun i σ H' _ ⟨_, _, _, _, fd⟩ => SqL.of (fd.bt _ _ hhp7 nhp)) ?_ ?_
    · rintro i y σ H7 hi ⟨vh, vb, vi, rfl, fd⟩
      obtain ⟨u, hui, rfl⟩ : ∃ u, hs[i]? = some u ∧ y = .int (u : Nat) := by
        unfold nV at hi
        rw [List.getElem?_map] at hi
        cases q : hs[i]? with
        | none => rw [q] at hi; cases hi
        | some u => rw [q] at hi; exact ⟨u, rfl, (Option.some.inj hi).symm⟩
      have hi' : i < hs.length := (List.getElem?_eq_some_iff.mp hui).1
      have hpre : (hs.take (i + 1)).flatMap (handPart d hs) = (hs.take i).flatMap (handPart d hs) ++ handPart d hs u := by
        rw [List.take_add_one, hui, List.flatMap_append]
        simp
      generalize (hs.take i).flatMap (handPart d hs) = pre at *
      -- box by box
      refine ⟨_, rfl, ab, rfl, ⟨_, SqL.of (fd.bt _ _ hab7 nab)⟩, ?_⟩
      refine for_list (K := K) (a := ab) (xs := rgV 0 (d.bs.length : Nat)) (fun j σ H' => ∃ vb vi : Option V, σ = [some (.ref a), some (.ref hp), some (.ref ab), some (.ref at'), some (.ref as), some (.ref pg), some (.ref L), some (.int (u : Nat)), vb, vi, none, none, none, none, none] ∧ Fx K L H0 H' (pre ++ (List.range j).flatMap (boxPart d u)) (i * 100 + j * 20))
        ⟨vb, vi, rfl, fd.more (by omega) (by simp)⟩ (fun j σ H' _ ⟨_, _, _, fd⟩ => SqL.of (fd.bt _ _ hab7 nab)) ?_ ?_
      · rintro j y σ H8 hj ⟨vb, vi, rfl, fd⟩
        obtain ⟨hj', rfl⟩ := rg_get hj
        obtain ⟨x0, hx0, lx0, _⟩ := fd.ext (Same.refl _)
        refine ⟨_, rfl, .inl ⟨rfl, _, SqL.of hx0⟩, _, rfl, _, rfl, (by show 3 ≤ sizeLine; decide), fun t1 ht1 => ?_⟩
        have f1 := same_upd (o := HO.tup [V.str ("break" : Str), .int (u : Nat), .int (j : Nat)]) ht1
        obtain ⟨x1, hx1, lx1, gx1⟩ := fd.ext f1
        refine ⟨L, x1, .ref t1, rfl, rfl, hx1, by rw [sizeLine_eq]; omega, ?_⟩
        have fd1 := gx1 [.ref t1] [.brk u j] 1 (Nat.le_refl _) (.cons (.tup (SqT.of upd_same) (.cons (.str _) (.cons (.int _) (.cons (.int _) .nil)))) .nil)
        generalize L2.upd (L2.upd H8 t1 (HO.tup [V.str ("break" : Str), .int (u : Nat), .int (j : Nat)])) L (.lst (x1 ++ [.ref t1])) = H9 at *
        -- seals
        obtain ⟨x2, hx2, lx2, _⟩ := fd1.ext (Same.refl _)
        refine ⟨_, rfl, .inl ⟨rfl, _, SqL.of hx2⟩, _, rfl, as, rfl, ⟨_, SqL.of (fd1.bt _ _ has7 nas)⟩, fun D3 hD3 => ?_⟩
        refine lc_fx (K := K) (List.range d.ss.length) (fun _ => true) (fun m => ddD (.lock u j m)) (fun m => noL_dd _) (by rw [rg_len, List.length_range]) (SqL.of (fd1.bt _ _ has7 nas)) (by rw [rg_len]; omega) hD3 (fun m x s H' N Y hm hs' e hN hY => ?_) (fun HA z1 eA hz1 dz1 => ?_)
        · obtain ⟨rfl, hm'⟩ := rgx _ _ _ _ hm hs'
          exact yes_lc ⟨_, rfl, _, rfl, _, rfl, (by show 4 ≤ sizeLine; decide), fun t ht => hY _ _ (same_upd ht) rfl (.tup (SqT.of upd_same) (.cons (.str _) (.cons (.int _) (.cons (.int _) (.cons (.int _) .nil)))))⟩
        rw [filter_tt] at dz1
        have lz1 : z1.length ≤ 3 := by have := DpAll.len dz1; rw [List.length_map, List.length_range] at this; omega
        obtain ⟨x3, hx3, lx3, gx3⟩ := fd1.ext eA
        refine ⟨L, D3, x3, z1, rfl, rfl, hx3, hz1, by rw [sizeLine_eq]; omega, ?_⟩
        have fd2 := gx3 z1 ((List.range d.ss.length).map fun m => Dd.lock u j m) 3 (by rw [List.length_map, List.length_range]; omega) (by rw [List.map_map]; exact dz1)
        generalize L2.upd HA L (.lst (x3 ++ z1)) = HB at *
        -- put
        have lf : ((goodsOf d).filter fun p => decide (p ≠ (Kd.box, j))).length ≤ 7 := by have := List.length_filter_le (fun p => decide (p ≠ (Kd.box, j))) (goodsOf d); omega
        obtain ⟨x4, hx4, lx4, _⟩ := fd2.ext (Same.refl _)
        refine ⟨_, rfl, .inl ⟨rfl, _, SqL.of hx4⟩, _, rfl, pg, rfl, ⟨_, SqL.of (fd2.bt _ _ hpg7 npg)⟩, fun D4 hD4 => ?_⟩
        have nlB := nlf fd2
        refine lc_fx (K := K) (goodsOf d) (fun p => decide (p ≠ (Kd.box, j))) (fun p => ddD (.put u p j)) (fun p => noL_dd _) lgs (SqL.of (fd2.bt _ _ hpg7 npg)) (by omega) hD4 (fun m x p H' N Y hm hp' e hN hY => ?_) (fun HC z2 eC hz2 dz2 => ?_)
        · have hp1 : Dp K H' x (itP p) := by
            obtain ⟨dd, q1, q2⟩ := DpAll.get (Dp.sames e _ _ (Dp.nls nlB _ _ (noLs_map itP (fun _ => rfl) _) dg7)) hm
            rw [List.getElem?_map, hp'] at q1
            obtain rfl := Option.some.inj q1
            exact q2
          refine ⟨_, rfl, _, rfl, (by show 2 ≤ sizeLine; decide), fun t ht => ?_⟩
          have ft := same_upd (o := HO.tup [V.str ("box" : Str), .int (j : Nat)]) ht
          refine ⟨itP p, itP (.box, j), Dp.same ft _ _ hp1, .tup (SqT.of upd_same) (.cons (.str _) (.cons (.int _) .nil)), shaped_it _, shaped_it _, _, rfl, ite_b _ (fun cne => ?_) (fun cne => hN _ ft ?_)⟩
          · rw [eqv_it] at cne
            refine ⟨_, rfl, _, rfl, _, rfl, (by show 4 ≤ sizeLine; decide), fun t2 ht2 => hY _ _ (ft.trans (same_upd ht2)) (by simpa using cne) (.tup (SqT.of upd_same) (.cons (.str _) (.cons (.int _) (.cons (Dp.same (ft.trans (same_upd ht2)) _ _ hp1) (.cons (.int _) .nil)))))⟩
          · rw [eqv_it] at cne
            simpa using cne
        obtain ⟨x5, hx5, lx5, gx5⟩ := fd2.ext eC
        have lz2 : z2.length ≤ 7 := by rw [DpAll.len dz2, List.length_map]; exact lf
        refine ⟨L, D4, x5, z2, rfl, rfl, hx5, hz2, by rw [sizeLine_eq]; omega, ?_⟩
        have fd3 := gx5 z2 (((goodsOf d).filter fun p => decide (p ≠ (Kd.box, j))).map fun p => Dd.put u p j) 7 (by rw [List.length_map]; exact lf) (by rw [List.map_map]; exact dz2)
        generalize L2.upd HC L (.lst (x5 ++ z2)) = HE at *
        -- take
        obtain ⟨x6, hx6, lx6, _⟩ := fd3.ext (Same.refl _)
        refine ⟨_, rfl, .inl ⟨rfl, _, SqL.of hx6⟩, _, rfl, pg, rfl, ⟨_, SqL.of (fd3.bt _ _ hpg7 npg)⟩, fun D5 hD5 => ?_⟩
        have nlE := nlf fd3
        refine lc_fx (K := K) (goodsOf d) (fun p => decide (p ≠ (Kd.box, j))) (fun p => ddD (.take u p j)) (fun p => noL_dd _) lgs (SqL.of (fd3.bt _ _ hpg7 npg)) (by omega) hD5 (fun m x p H' N Y hm hp' e hN hY => ?_) (fun HF z3 eF hz3 dz3 => ?_)
        · have hp1 : Dp K H' x (itP p) := by
            obtain ⟨dd, q1, q2⟩ := DpAll.get (Dp.sames e _ _ (Dp.nls nlE _ _ (noLs_map itP (fun _ => rfl) _) dg7)) hm
            rw [List.getElem?_map, hp'] at q1
            obtain rfl := Option.some.inj q1
            exact q2
          refine ⟨_, rfl, _, rfl, (by show 2 ≤ sizeLine; decide), fun t ht => ?_⟩
          have ft := same_upd (o := HO.tup [V.str ("box" : Str), .int (j : Nat)]) ht
          refine ⟨itP p, itP (.box, j), Dp.same ft _ _ hp1, .tup (SqT.of upd_same) (.cons (.str _) (.cons (.int _) .nil)), shaped_it _, shaped_it _, _, rfl, ite_b _ (fun cne => ?_) (fun cne => hN _ ft ?_)⟩
          · rw [eqv_it] at cne
            refine ⟨_, rfl, _, rfl, _, rfl, (by show 4 ≤ sizeLine; decide), fun t2 ht2 => hY _ _ (ft.trans (same_upd ht2)) (by simpa using cne) (.tup (SqT.of upd_same) (.cons (.str _) (.cons (.int _) (.cons (Dp.same (ft.trans (same_upd ht2)) _ _ hp1) (.cons (.int _) .nil)))))⟩
          · rw [eqv_it] at cne
            simpa using cne
        obtain ⟨x7, hx7', lx7, gx7⟩ := fd3.ext eF
        have lz3 : z3.length ≤ 7 := by rw [DpAll.len dz3, List.length_map]; exact lf
        refine ⟨L, D5, x7, z3, rfl, rfl, hx7', hz3, by rw [sizeLine_eq]; omega, ?_⟩
        have fd4 := gx7 z3 (((goodsOf d).filter fun p => decide (p ≠ (Kd.box, j))).map fun p => Dd.take u p j) 7 (by rw [List.length_map]; exact lf) (by rw [List.map_map]; exact dz3)
        exact ⟨_, _, rfl, fd4.more (by omega) (by rw [List.range_succ, List.flatMap_append]; simp [boxPart])⟩
      rintro σ H8 ⟨vb, vi, rfl, fd⟩
      rw [rg_len] at fd
      -- what is given
      refine ⟨_, rfl, _, rfl, as, rfl, ⟨_, SqL.of (fd.bt _ _ has7 nas)⟩, fun D6 hD6 => ?_⟩
      refine lc_fx (K := K) (List.range d.ss.length) (fun _ => true) (fun m => itP (Kd.sl, m)) (fun _ => rfl) (by rw [rg_len, List.length_range]) (SqL.of (fd.bt _ _ has7 nas)) (by rw [rg_len]; omega) hD6 (fun m x s H' N Y hm hs' e hN hY => ?_) (fun HA z1 eA hz1 dz1 => ?_)
      · obtain ⟨rfl, hm'⟩ := rgx _ _ _ _ hm hs'
        exact yes_lc ⟨_, rfl, (by show 2 ≤ sizeLine; decide), fun t ht => hY _ _ (same_upd ht) rfl (.tup (SqT.of upd_same) (.cons (.str _) (.cons (.int _) .nil)))⟩
      rw [filter_tt] at dz1
      have lz1 : z1.length ≤ 3 := by have := DpAll.len dz1; rw [List.length_map, List.length_range] at this; omega
      have hpgA := eA _ _ (fd.bt _ _ hpg7 npg)
      refine ⟨pg, D6, gs, z1, rfl, rfl, hpgA, hz1, by rw [sizeLine_eq]; omega, fun pj hpj => ?_⟩
      have fj := eA.trans (same_upd (o := HO.lst (gs ++ z1)) hpj)
      have npj : pj ≠ L := (ne_of_none (eA _ _ (fd.ext (Same.refl _)).choose_spec.1) hpj).symm
      have hpj0 : (L2.upd HA pj (.lst (gs ++ z1))) pj = some (.lst (gs ++ z1)) := upd_same
      have nl8 := nlf fd
      have dj : DpAll K (L2.upd HA pj (.lst (gs ++ z1))) (gs ++ z1) ((goodsOf d ++ sealsOf d).map itP) := by
        rw [List.map_append]
        refine DpAll.app (Dp.sames fj _ _ (Dp.nls nl8 _ _ (noLs_map itP (fun _ => rfl) _) dg7)) ?_
        unfold sealsOf
        rw [List.map_map]
        exact Dp.sames (same_upd hpj) _ _ dz1
      have btj : But L H0 (L2.upd HA pj (.lst (gs ++ z1))) := fd.bt.trans (But.same fj)
      have fdj : Fx K L H0 (L2.upd HA pj (.lst (gs ++ z1))) (pre ++ (List.range d.bs.length).flatMap (boxPart d u)) (i * 100 + d.bs.length * 20) := by
        obtain ⟨xs, a1, a2⟩ := fd.ex
        exact ⟨btj, fd.lm, xs, fj _ _ a1, Dp.sames fj _ _ a2⟩
      have lJ : (goodsOf d ++ sealsOf d).length ≤ 10 := by rw [List.length_append]; unfold sealsOf; rw [List.length_map, List.length_range]; omega
      generalize L2.upd HA pj (.lst (gs ++ z1)) = HJ at *
      generalize gs ++ z1 = js at *
      have ljs : js.length = (goodsOf d ++ sealsOf d).length := by rw [DpAll.len dj, List.length_map]
      refine ⟨pj, rfl, ⟨_, SqL.of hpj0⟩, ?_⟩
      refine for_list (K := K) (a := pj) (xs := js) (fun j σ H' => ∃ vi : Option V, σ = [some (.ref a), some (.ref hp), some (.ref ab), some (.ref at'), some (.ref as), some (.ref pg), some (.ref L), some (.int (u : Nat)), vb, vi, none, none, none, none, none] ∧ Fx K L H0 H' ((pre ++ (List.range d.bs.length).flatMap (boxPart d u)) ++ ((goodsOf d ++ sealsOf d).take j).flatMap (givePart hs u)) (i * 100 + d.bs.length * 20 + j * 4) ∧ But L HJ H')
        ⟨vi, rfl, fdj.more (by omega) (by simp), But.refl _ _⟩ (fun j σ H' _ ⟨_, _, _, bj⟩ => SqL.of (bj _ _ hpj0 npj)) ?_ ?_
      · rintro j y σ HK hj ⟨vi, rfl, fdk, bj⟩
        obtain ⟨xL, hxL, _⟩ := fdj.ex
        have nlJ : Nl HJ HK := bj.nl hxL
        obtain ⟨p, hpj'⟩ : ∃ p, (goodsOf d ++ sealsOf d)[j]? = some p := ⟨_, List.getElem?_eq_getElem (by have := (List.getElem?_eq_some_iff.mp hj).1; omega)⟩
        have hp0 : Dp K HK y (itP p) := by
          obtain ⟨dd, q1, q2⟩ := DpAll.get (Dp.nls nlJ _ _ (noLs_map itP (fun _ => rfl) _) dj) hj
          rw [List.getElem?_map, hpj'] at q1
          obtain rfl := Option.some.inj q1
          exact q2
        have lgv : (hs.filter fun o => decide (o ≠ u)).length ≤ 4 := by have := List.length_filter_le (fun o => decide (o ≠ u)) hs; omega
        obtain ⟨x2, hx2, lx2, _⟩ := fdk.ext (Same.refl _)
        refine ⟨_, rfl, .inl ⟨rfl, _, SqL.of hx2⟩, _, rfl, hp, rfl, ⟨_, SqL.of (fdk.bt _ _ hhp7 nhp)⟩, fun D7 hD7 => ?_⟩
        refine lc_fx (K := K) hs (fun o => decide (o ≠ u)) (fun o => ddD (.give u p o)) (fun o => noL_dd _) (nv_len hs) (SqL.of (fdk.bt _ _ hhp7 nhp)) (by rw [nv_len]; omega) hD7 (fun m x o H' N Y hm ho' e hN hY => ?_) (fun HA2 z2 eA2 hz2 dz2 => ?_)
        · obtain rfl : x = .int (o : Nat) := by
            unfold nV at hm
            rw [List.getElem?_map, ho'] at hm
            exact (Option.some.inj hm).symm
          have hp1 := Dp.same e _ _ hp0
          have edz : (!decide (V.int (o : Nat) = V.int (u : Nat))) = decide (o ≠ u) := by
            by_cases c : o = u
            · subst c; simp
            · have : ¬ (V.int (o : Nat) = V.int (u : Nat)) := fun z => c (by injection z with z; omega)
              simp [c, this]
          refine ⟨_, rfl, _, rfl, rfl, _, rfl, ite_b _ (fun cne => ?_) (fun cne => hN _ (Same.refl _) (by rw [← edz]; exact cne))⟩
          refine ⟨_, rfl, _, rfl, _, rfl, (by show 4 ≤ sizeLine; decide), fun t2 ht2 => hY _ _ (same_upd ht2) (by rw [← edz]; exact cne) (.tup (SqT.of upd_same) (.cons (.str _) (.cons (.int _) (.cons (Dp.same (same_upd ht2) _ _ hp1) (.cons (.int _) .nil)))))⟩
        have lz2 : z2.length ≤ 4 := by rw [DpAll.len dz2, List.length_map]; exact lgv
        obtain ⟨x3, hx3, lx3, gx3⟩ := fdk.ext eA2
        have j1 := (List.getElem?_eq_some_iff.mp hj).1
        refine ⟨L, D7, x3, z2, rfl, rfl, hx3, hz2, by rw [sizeLine_eq]; omega, ?_⟩
        have fd2 := gx3 z2 (givePart hs u p) 4 (by unfold givePart; rw [List.length_map]; exact lgv) (by unfold givePart; rw [List.map_map]; exact dz2)
        refine ⟨_, rfl, fd2.more (by omega) ?_, fun b o hb nb => ?_⟩
        · rw [List.take_add_one, hpj', List.flatMap_append, List.append_assoc]
          simp
        rw [upd_ne nb]
        exact eA2 _ _ (bj b o hb nb)
      · rintro σ HK ⟨vi, rfl, fdk, bj⟩
        rw [ljs, List.take_length] at fdk
        exact ⟨_, _, _, rfl, fdk.more (by omega) (by rw [hpre, handPart, List.append_assoc])⟩
    -- those that can be done, in order
    rintro σ H7 ⟨vh, vb, vi, rfl, fd⟩
    rw [nv_len, List.take_length] at fd
    obtain ⟨x8, hx8, dx8⟩ := fd.ex
    have lm8 := fd.lm
    have e8 : Same H H7 := fun b o h => fd.bt b o (eH b o h) (noldL b o h)
    have lx8 : x8.length = (rawD d hs).length := by rw [DpAll.len dx8, List.length_map]; rfl
    have lr8 : (rawD d hs).length ≤ 400 := by have : (rawD d hs).length ≤ hs.length * 100 := lm8; omega
    refine ⟨_, rfl, L, rfl, ⟨_, SqL.of hx8⟩, fun D9 hD9 => ?_⟩
    refine lc_fx (K := K) (rawD d hs) (fun e => decide (barOf d e = "")) ddD noL_dd lx8 (SqL.of hx8) (by omega) hD9 (fun m x ed H' N Y hm hed e hN hY => ?_) (fun H9 z9 e9 hz9 dz9 => ?_)
    · have he1 : Dp K H' x (ddD ed) := by
        obtain ⟨dd, q1, q2⟩ := DpAll.get (Dp.sames e _ _ dx8) hm
        rw [show (List.flatMap (handPart d hs) hs) = rawD d hs from rfl, List.getElem?_map, hed] at q1
        obtain rfl := Option.some.inj q1
        exact q2
      have kn := kn_in (mem_raw.mp (List.mem_of_getElem? hed))
      refine ⟨_, rfl, _, rfl, _, _, d, ed, rfl, Dp.same (e8.trans e) _ _ hx, he1, kn, fun H'' e'' => ⟨rfl, _, rfl, ?_⟩⟩
      rw [decS]
      refine ite_b _ (fun z => ⟨_, rfl, hY _ _ e'' z (Dp.same e'' _ _ he1)⟩) (fun z => hN _ e'' z)
    refine ⟨D9, z9, ((rawD d hs).filter fun e => decide (barOf d e = "")).map ddD, rfl, SqL.of hz9, dz9, fun q hq => ?_, fun q hq q' hq' => ?_, fun ys p hperm hp9 => ?_⟩
    · obtain ⟨e', _, rfl⟩ := List.mem_map.mp hq
      exact sd_dd e'
    · obtain ⟨e', _, rfl⟩ := List.mem_map.mp hq
      obtain ⟨f', _, rfl⟩ := List.mem_map.mp hq'
      exact tc_dd e' f'
    · have eL := e8.trans e9
      obtain ⟨es, he1, he2⟩ := perm_data hperm dz9
      refine k p ys es _ (eL.trans (same_upd hp9)) (same_none eL hp9) upd_same (Dp.sames (same_upd hp9) _ _ he2) ?_ fun e => ?_
      · rw [he1.length_eq]
        have := List.length_filter_le (fun e => decide (barOf d e = "")) (rawD d hs)
        omega
      · rw [he1.mem_iff, List.mem_filter, mem_raw]
        simp
def spDeedsXT (K : PySem.W.Frag) : Sp := fun vs H Q _ => ∃ (x : V) (hp : Addr) (d : Hs) (hs : List Nat), vs = [x, .ref hp] ∧ Dp K H x (stD d) ∧ SqT K H hp (nV hs) ∧ hs.length ≤ 4 ∧ (∀ u ∈ hs, (u : Int) < d.hands) ∧ d.hands ≤ 4 ∧ d.bs.length ≤ 3 ∧ d.ts.length ≤ 4 ∧ d.ss.length ≤ 3 ∧
  ∀ (p : Addr) (xs : List V) (es : List Dd) (H' : Hp), Same H H' → H p = none → H' p = some (.lst xs) → DpAll K H' xs (es.map ddD) → es.length ≤ 400 → (∀ e, e ∈ es ↔ InD d hs e ∧ barOf d e = "") → Q (.ref p) H'
theorem ok_deedsXT {f g : Addr} {fd fdg : FuncData} (F : Fun K "_law_deeds" "_law_deeds" sDeeds f fd) (B : Bt mg) (mS : mg "sorted" = none) (G : FnOk P w K mg base CX0 2 g fdg ["_law_state", "_law_deed"] (spBar K)) (mG : mg "_law_bar" = some (.ref g)) (kG : PySem.W.keepIn K (.ref g) = true) (bG : Binds K fdg ["_law_state", "_law_deed"] []) :
    FnOk P w K mg base CX0 3 f fd ["_law_state", "_law_hands_here"] (spDeedsXT K) := by
  refine F.ok scDeedsT (fun vs H Q E h => ?_) (fun cdv A outer s H vs Q E hr h => ?_)
  · obtain ⟨x, hp, d, hs, rfl, _⟩ := h
    rfl
  · obtain ⟨x, hp, d, hs, rfl, hx, hhp, hn, hub, hd4, lb, lt, ls, k⟩ := h
    have hu : (cxOf CX0 P w K mg base ["_law_state", "_law_hands_here", "_law_boxes", "_law_things", "_law_seals", "_law_goods", "_law_found", "_law_hand", "_law_box", "_law_item", "_law_row", "_law_number", "_law_seal", "_law_other", "_law_deed"] "_law_deeds" (defScope sDeeds) f cdv A outer s H E).nox.A.units + 64 < cLine := by have := hr.un; show (A.deeper _).units + 64 < cLine; omega
    have hu60 : (cxOf CX0 P w K mg base ["_law_state", "_law_hands_here", "_law_boxes", "_law_things", "_law_seals", "_law_goods", "_law_found", "_law_hand", "_law_box", "_law_item", "_law_row", "_law_number", "_law_seal", "_law_other", "_law_deed"] "_law_deeds" (defScope sDeeds) f cdv A outer s H E).nox.A.units + 60 < cLine := by omega
    have hr1 : Room 2 _ := hr
    refine ⟨_, (pss_cons (ps_asg (pe_lc (own := [("_law_row", 10)]) (g := gName 10) (tt := tYes) (te := tLstRg (tRg1 (tCB (fun xs H Q => ∃ p ys, xs = [V.ref p] ∧ (SqL K H p ys ∨ SqT K H p ys) ∧ Q (.int ys.length) H) (tCons (tVar 10) tNil)))) rfl scDeedsT.nd (pi_tup (pv 0)) (blkOk_by (own := [("_law_row", 10)]) (N := ["_law_state", "_law_hands_here", "_law_boxes", "_law_things", "_law_seals", "_law_goods", "_law_found", "_law_hand", "_law_box", "_law_item", "_law_row", "_law_number", "_law_seal", "_law_other", "_law_deed"]) (sc := defScope sDeeds) (by decide +kernel)) (fun _ _ _ _ _ => pg_name (i := 10) scDeedsT.nd rfl (.inl rfl)) (fun _ _ _ _ _ => pts_nil) (fun _ _ _ _ _ => pe_listRg rfl (by rfl) B.lst (prg_1 (by rfl) B.rng (pe_callB call_len_seq (by rfl) B.len PySem.boot_len (pa_cons (pv 10) pa_nil))))) (pg_lst rfl (pgs_cons (pg_name (i := 2) scDeedsT.nd rfl (.inl rfl)) (pgs_cons (pg_name (i := 3) scDeedsT.nd rfl (.inl rfl)) (pgs_cons (pg_name (i := 4) scDeedsT.nd rfl (.inl rfl)) pgs_nil)))))
      (pss_cons (ps_set (i := 5) scDeedsT.nd rfl (.inl rfl) (pe_op op_cat (pe_lc (own := [("_law_number", 11)]) (g := gName 11) (tt := tYes) (te := (tTup (tCons (tC (.str ("box" : Str))) (tCons (tVar 11) (tNil))))) rfl scDeedsT.nd (pi_list (pv 2)) (blkOk_by (own := [("_law_number", 11)]) (N := ["_law_state", "_law_hands_here", "_law_boxes", "_law_things", "_law_seals", "_law_goods", "_law_found", "_law_hand", "_law_box", "_law_item", "_law_row", "_law_number", "_law_seal", "_law_other", "_law_deed"]) (sc := defScope sDeeds) (by decide +kernel)) (fun _ _ _ _ _ => pg_name (i := 11) scDeedsT.nd rfl (.inl rfl)) (fun _ _ _ _ _ => pts_nil) (fun _ _ _ _ _ => (pe_tup (pa_cons pe_str (pa_cons (pv 11) (pa_nil)))))) (pe_lc (own := [("_law_number", 11)]) (g := gName 11) (tt := tYes) (te := (tTup (tCons (tC (.str ("thing" : Str))) (tCons (tVar 11) (tNil))))) rfl scDeedsT.nd (pi_list (pv 3)) (blkOk_by (own := [("_law_number", 11)]) (N := ["_law_state", "_law_hands_here", "_law_boxes", "_law_things", "_law_seals", "_law_goods", "_law_found", "_law_hand", "_law_box", "_law_item", "_law_row", "_law_number", "_law_seal", "_law_other", "_law_deed"]) (sc := defScope sDeeds) (by decide +kernel)) (fun _ _ _ _ _ => pg_name (i := 11) scDeedsT.nd rfl (.inl rfl)) (fun _ _ _ _ _ => pts_nil) (fun _ _ _ _ _ => (pe_tup (pa_cons pe_str (pa_cons (pv 11) (pa_nil))))))))
      (pss_cons (ps_set (i := 6) scDeedsT.nd rfl (.inl rfl) (pe_lst pa_nil))
      (pss_cons (ps_for PassesOwn.never rfl (pi_tup (pv 1)) (pg_name (i := 7) scDeedsT.nd rfl (.inr rfl)) (pss_cons (ps_for PassesOwn.never rfl (pi_list (pv 2)) (pg_name (i := 8) scDeedsT.nd rfl (.inr rfl)) (pss_cons (ps_expr (pe_bm PySem.F.plainAttrs_list PySem.F.slot_list_append PySem.F.type_list_append mt_append (pv 6) (pa_cons (pe_tup (pa_cons pe_str (pa_cons (pv 7) (pa_cons (pv 8) (pa_nil))))) pa_nil)))
      (pss_cons (ps_expr (pe_bm PySem.F.plainAttrs_list PySem.F.slot_list_extend PySem.F.type_list_extend mt_extend (pv 6) (pa_cons (pe_lc (own := [("_law_seal", 12)]) (g := gName 12) (tt := tYes) (te := (tTup (tCons (tC (.str ("seal" : Str))) (tCons (tVar 7) (tCons (tVar 8) (tCons (tVar 12) (tNil))))))) rfl scDeedsT.nd (pi_list (pv 4)) (blkOk_by (own := [("_law_seal", 12)]) (N := ["_law_state", "_law_hands_here", "_law_boxes", "_law_things", "_law_seals", "_law_goods", "_law_found", "_law_hand", "_law_box", "_law_item", "_law_row", "_law_number", "_law_seal", "_law_other", "_law_deed"]) (sc := defScope sDeeds) (by decide +kernel)) (fun _ _ _ _ _ => pg_name (i := 12) scDeedsT.nd rfl (.inl rfl)) (fun _ _ _ _ _ => pts_nil) (fun _ _ _ _ _ => (pe_tup (pa_cons pe_str (pa_cons (pv 7) (pa_cons (pv 8) (pa_cons (pv 12) (pa_nil)))))))) pa_nil)))
      (pss_cons (ps_expr (pe_bm PySem.F.plainAttrs_list PySem.F.slot_list_extend PySem.F.type_list_extend mt_extend (pv 6) (pa_cons (pe_lc (own := [("_law_item", 9)]) (g := gName 9) (tt := (tTest (tOp (rNeD K) (tVar 9) (tTup (tCons (tC (.str ("box" : Str))) (tCons (tVar 8) tNil)))))) (te := (tTup (tCons (tC (.str ("put" : Str))) (tCons (tVar 7) (tCons (tVar 9) (tCons (tVar 8) (tNil))))))) rfl scDeedsT.nd (pi_list (pv 5)) (blkOk_by (own := [("_law_item", 9)]) (N := ["_law_state", "_law_hands_here", "_law_boxes", "_law_things", "_law_seals", "_law_goods", "_law_found", "_law_hand", "_law_box", "_law_item", "_law_row", "_law_number", "_law_seal", "_law_other", "_law_deed"]) (sc := defScope sDeeds) (by decide +kernel)) (fun _ _ _ _ _ => pg_name (i := 9) scDeedsT.nd rfl (.inl rfl)) (fun _ _ _ _ _ => pts_one (pt_cmpR (op_neD hu) (pv 9) (pe_tup (pa_cons pe_str (pa_cons (pv 8) pa_nil))) (nomark _))) (fun _ _ _ _ _ => (pe_tup (pa_cons pe_str (pa_cons (pv 7) (pa_cons (pv 9) (pa_cons (pv 8) (pa_nil)))))))) pa_nil)))
      (pss_one (ps_expr (pe_bm PySem.F.plainAttrs_list PySem.F.slot_list_extend PySem.F.type_list_extend mt_extend (pv 6) (pa_cons (pe_lc (own := [("_law_item", 9)]) (g := gName 9) (tt := (tTest (tOp (rNeD K) (tVar 9) (tTup (tCons (tC (.str ("box" : Str))) (tCons (tVar 8) tNil)))))) (te := (tTup (tCons (tC (.str ("take" : Str))) (tCons (tVar 7) (tCons (tVar 9) (tCons (tVar 8) (tNil))))))) rfl scDeedsT.nd (pi_list (pv 5)) (blkOk_by (own := [("_law_item", 9)]) (N := ["_law_state", "_law_hands_here", "_law_boxes", "_law_things", "_law_seals", "_law_goods", "_law_found", "_law_hand", "_law_box", "_law_item", "_law_row", "_law_number", "_law_seal", "_law_other", "_law_deed"]) (sc := defScope sDeeds) (by decide +kernel)) (fun _ _ _ _ _ => pg_name (i := 9) scDeedsT.nd rfl (.inl rfl)) (fun _ _ _ _ _ => pts_one (pt_cmpR (op_neD hu) (pv 9) (pe_tup (pa_cons pe_str (pa_cons (pv 8) pa_nil))) (nomark _))) (fun _ _ _ _ _ => (pe_tup (pa_cons pe_str (pa_cons (pv 7) (pa_cons (pv 9) (pa_cons (pv 8) (pa_nil)))))))) pa_nil))))))))
      (pss_one (ps_for PassesOwn.never rfl (pi_list (pe_op op_cat (pv 5) (pe_lc (own := [("_law_seal", 12)]) (g := gName 12) (tt := tYes) (te := (tTup (tCons (tC (.str ("seal" : Str))) (tCons (tVar 12) (tNil))))) rfl scDeedsT.nd (pi_list (pv 4)) (blkOk_by (own := [("_law_seal", 12)]) (N := ["_law_state", "_law_hands_here", "_law_boxes", "_law_things", "_law_seals", "_law_goods", "_law_found", "_law_hand", "_law_box", "_law_item", "_law_row", "_law_number", "_law_seal", "_law_other", "_law_deed"]) (sc := defScope sDeeds) (by decide +kernel)) (fun _ _ _ _ _ => pg_name (i := 12) scDeedsT.nd rfl (.inl rfl)) (fun _ _ _ _ _ => pts_nil) (fun _ _ _ _ _ => (pe_tup (pa_cons pe_str (pa_cons (pv 12) (pa_nil)))))))) (pg_name (i := 9) scDeedsT.nd rfl (.inr rfl)) (pss_one (ps_expr (pe_bm PySem.F.plainAttrs_list PySem.F.slot_list_extend PySem.F.type_list_extend mt_extend (pv 6) (pa_cons (pe_lc (own := [("_law_other", 13)]) (g := gName 13) (tt := (tTest (tOp rNe (tVar 13) (tVar 7)))) (te := (tTup (tCons (tC (.str ("give" : Str))) (tCons (tVar 7) (tCons (tVar 9) (tCons (tVar 13) (tNil))))))) rfl scDeedsT.nd (pi_tup (pv 1)) (blkOk_by (own := [("_law_other", 13)]) (N := ["_law_state", "_law_hands_here", "_law_boxes", "_law_things", "_law_seals", "_law_goods", "_law_found", "_law_hand", "_law_box", "_law_item", "_law_row", "_law_number", "_law_seal", "_law_other", "_law_deed"]) (sc := defScope sDeeds) (by decide +kernel)) (fun _ _ _ _ _ => pg_name (i := 13) scDeedsT.nd rfl (.inl rfl)) (fun _ _ _ _ _ => pts_one (pt_cmpR op_ne (pv 13) (pv 7) (nomark _))) (fun _ _ _ _ _ => (pe_tup (pa_cons pe_str (pa_cons (pv 7) (pa_cons (pv 9) (pa_cons (pv 13) (pa_nil)))))))) pa_nil))))))))
      (pss_one (ps_ret (pe_callB (cr_sortD hu60) (by rfl) mS (by decide +kernel) (pa_cons (pe_lc (own := [("_law_deed", 14)]) (g := gName 14) (tt := (tTest (tOp rEq (tCall (spBar K) [] E0 (tCons (tVar 0) (tCons (tVar 14) tNil))) (tC (.str ("" : Str)))))) (te := tVar 14) rfl scDeedsT.nd (pi_list (pv 6)) (blkOk_by (own := [("_law_deed", 14)]) (N := ["_law_state", "_law_hands_here", "_law_boxes", "_law_things", "_law_seals", "_law_goods", "_law_found", "_law_hand", "_law_box", "_law_item", "_law_row", "_law_number", "_law_seal", "_law_other", "_law_deed"]) (sc := defScope sDeeds) (by decide +kernel)) (fun _ _ _ _ _ => pg_name (i := 14) scDeedsT.nd rfl (.inl rfl)) (fun _ _ _ _ _ => pts_one (pt_cmpR op_eq (pe_call G hr1 rfl mG kG bG .nil pass0 (pa_cons (pv 0) (pa_cons (pv 14) pa_nil))) pe_str (nomark _))) (fun _ _ _ _ _ => pv 14)) pa_nil)))))))), ?_⟩
    obtain ⟨a, v1, v2, v3, rfl, sa, d1, d2, d3⟩ := st_at hx
    have ilen : ∀ (j : Nat) (v : V), [v1, v2, v3][j]? = some v → ∃ l, (rows3 d)[j]? = some l ∧ Dp K H v (plsD l) := fun j v e => by
      match j, e with
      | 0, e => cases e; exact ⟨_, rfl, d1⟩
      | 1, e => cases e; exact ⟨_, rfl, d2⟩
      | 2, e => cases e; exact ⟨_, rfl, d3⟩
      | j + 3, e => simp at e
    have rlen : ∀ (j : Nat) (l : List Pl), (rows3 d)[j]? = some l → l.length ≤ 4 := fun j l e => by
      match j, e with
      | 0, e => cases e; omega
      | 1, e => cases e; omega
      | 2, e => cases e; omega
      | j + 3, e => simp [rows3] at e
    have rl4 : ∀ k, (rowOf d k).length ≤ 4 := fun k => by
      cases k
      · show d.bs.length ≤ 4; omega
      · show d.ts.length ≤ 4; omega
      · show d.ss.length ≤ 4; omega
    -- the numbers
    refine ⟨_, rfl, a, rfl, ⟨_, sa⟩, fun Dl hD => ?_⟩
    have e0 : ∀ (H' : Hp) (o : HO), Same H H' → Same H (L2.upd H' Dl o) := fun H' o e c u h => by rw [upd_ne (ne_of_none h hD)]; exact e c u h
    refine lc_tup (K := K) (a := a) (xs := [v1, v2, v3]) (fun i H' => Same H H' ∧ ∃ ls : List Addr, H' Dl = some (.lst (ls.map V.ref)) ∧ ls.length = i ∧ ∀ (j : Nat) b, ls[j]? = some b → b ≠ Dl ∧ ∃ l, (rows3 d)[j]? = some l ∧ H' b = some (.lst (rgV 0 (l.length : Nat)))) ⟨same_upd hD, [], upd_same, rfl, fun j b e => by simp at e⟩ (fun i H' _ ⟨e, _⟩ => SqT.same e sa) ?_ ?_
    · rintro i y H' hi ⟨e, ls, hls, ll, hall⟩
      obtain ⟨l, hl1, hl2⟩ := ilen i y hi
      obtain ⟨ar, xr, rfl, sr, dr, lr⟩ := pls_at hl2
      have hl4 := rlen i l hl1
      have i3 : i < 3 := (List.getElem?_eq_some_iff.mp hi).1
      refine ⟨wipe_one _ 10 _, yes_lc ?_⟩
      refine ⟨_, rfl, ar, xr, rfl, .inr (SqT.same e sr), _, rfl, RgOk.of_le (by omega) (by omega) (by omega) (by omega), fun q hq => ?_⟩
      have nq : q ≠ Dl := (ne_of_none hls hq).symm
      have f1 := same_upd (o := HO.lst (rgV 0 (xr.length : Nat))) hq
      have hls1 := f1 _ _ hls
      refine ⟨ls.map V.ref, hls1, by rw [sizeLine_eq, List.length_map]; omega, e0 _ _ (e.trans f1), ls ++ [q], ?_, by rw [List.length_append, ll]; rfl, fun j b hb => ?_⟩
      · rw [List.map_append]
        exact upd_same
      · by_cases c : j < ls.length
        · rw [List.getElem?_append_left c] at hb
          obtain ⟨g1, l', g2, g3⟩ := hall j b hb
          exact ⟨g1, l', g2, by rw [upd_ne g1]; exact f1 _ _ g3⟩
        · have ej : j = ls.length := by
            have := (List.getElem?_eq_some_iff.mp hb).1
            simp at this
            omega
          subst ej
          rw [List.getElem?_append_right (Nat.le_refl _), Nat.sub_self] at hb
          have ex : q = b := by simpa using hb
          subst ex
          exact ⟨nq, l, by rw [ll]; exact hl1, by rw [upd_ne nq, ← lr]; exact upd_same⟩
    rintro H3 ⟨e3, ls, hls, ll, hall⟩
    have ll : ls.length = 3 := ll
    obtain ⟨ab, at', as, rfl⟩ : ∃ x y z, ls = [x, y, z] := by
      match ls, ll with
      | [x, y, z], _ => exact ⟨x, y, z, rfl⟩
    obtain ⟨_, l1, q1, hab⟩ := hall 0 ab rfl
    obtain ⟨_, l2, q2, hat⟩ := hall 1 at' rfl
    obtain ⟨_, l3, q3, has⟩ := hall 2 as rfl
    cases q1
    cases q2
    cases q3
    refine ⟨Dl, _, rfl, SqL.of hls, rfl, _, _, rfl, _, _, rfl, _, _, rfl, rfl, ?_⟩
    -- boxes and things
    have rgx : ∀ (n i : Nat) (x : V) (s : Nat), (rgV 0 (n : Int))[i]? = some x → (List.range n)[i]? = some s → x = .int (s : Nat) ∧ s < n := fun n i x s h1 h2 => by
      obtain ⟨hi, rfl⟩ := rg_get h1
      rw [List.getElem?_range hi] at h2
      obtain rfl := Option.some.inj h2
      exact ⟨rfl, hi⟩
    refine ⟨_, rfl, ab, rfl, ⟨_, SqL.of hab⟩, fun D1 hD1 => ?_⟩
    refine lc_fx (K := K) (List.range d.bs.length) (fun _ => true) (fun i => itP (Kd.box, i)) (fun _ => rfl) (by rw [rg_len, List.length_range]) (SqL.of hab) (by rw [rg_len]; omega) hD1 (fun i x s H' N Y hi hs' e hN hY => ?_) (fun H4 g1 e4 hg1 dg1 => ?_)
    · obtain ⟨rfl, hi'⟩ := rgx _ _ _ _ hi hs'
      exact yes_lc ⟨_, rfl, (by show 2 ≤ sizeLine; decide), fun t ht => hY _ _ (same_upd ht) rfl (.tup (SqT.of upd_same) (.cons (.str _) (.cons (.int _) .nil)))⟩
    refine ⟨_, rfl, at', rfl, ⟨_, SqL.of (e4 _ _ hat)⟩, fun D2 hD2 => ?_⟩
    refine lc_fx (K := K) (List.range d.ts.length) (fun _ => true) (fun i => itP (Kd.thing, i)) (fun _ => rfl) (by rw [rg_len, List.length_range]) (SqL.of (e4 _ _ hat)) (by rw [rg_len]; omega) hD2 (fun i x s H' N Y hi hs' e hN hY => ?_) (fun H5 g2 e5 hg2 dg2 => ?_)
    · obtain ⟨rfl, hi'⟩ := rgx _ _ _ _ hi hs'
      exact yes_lc ⟨_, rfl, (by show 2 ≤ sizeLine; decide), fun t ht => hY _ _ (same_upd ht) rfl (.tup (SqT.of upd_same) (.cons (.str _) (.cons (.int _) .nil)))⟩
    rw [filter_tt] at dg1 dg2
    have lg1 : g1.length ≤ 3 := by have := DpAll.len dg1; rw [List.length_map, List.length_range] at this; omega
    have lg2 : g2.length ≤ 4 := by have := DpAll.len dg2; rw [List.length_map, List.length_range] at this; omega
    refine ⟨D1, D2, g1, g2, rfl, rfl, e5 _ _ hg1, hg2, by rw [sizeLine_eq]; omega, fun pg hpg => ?_⟩
    have e6 := same_upd (o := HO.lst (g1 ++ g2)) hpg
    have hpg6 : (L2.upd H5 pg (.lst (g1 ++ g2))) pg = some (.lst (g1 ++ g2)) := upd_same
    have dg6 : DpAll K (L2.upd H5 pg (.lst (g1 ++ g2))) (g1 ++ g2) ((goodsOf d).map itP) := by
      unfold goodsOf
      rw [List.map_append, List.map_map, List.map_map]
      exact DpAll.app (Dp.sames (e5.trans e6) _ _ dg1) (Dp.sames e6 _ _ dg2)
    have lg : (goodsOf d).length ≤ 7 := by unfold goodsOf; rw [List.length_append, List.length_map, List.length_map, List.length_range, List.length_range]; omega
    have e36 := e4.trans (e5.trans e6)
    generalize L2.upd H5 pg (.lst (g1 ++ g2)) = H6 at *
    generalize g1 ++ g2 = gs at *
    have lgs : gs.length = (goodsOf d).length := by rw [DpAll.len dg6, List.length_map]
    refine ⟨(by show 0 ≤ sizeLine; decide), fun L hL => ?_⟩
    have e7 := same_upd (o := HO.lst []) hL
    have e37 := e36.trans e7
    have eH := e3.trans e37
    have hL0 : (L2.upd H6 L (.lst [])) L = some (.lst []) := upd_same
    have hab7 := e37 _ _ hab
    have hat7 := e37 _ _ hat
    have has7 := e37 _ _ has
    have hpg7 := e7 _ _ hpg6
    have hhp7 := SqT.same eH hhp
    have dg7 := Dp.sames e7 _ _ dg6
    have hx7 := Dp.same eH _ _ hx
    have nab : ab ≠ L := ne_of_none (e36 _ _ hab) hL
    have nat : at' ≠ L := ne_of_none (e36 _ _ hat) hL
    have nas : as ≠ L := ne_of_none (e36 _ _ has) hL
    have npg : pg ≠ L := ne_of_none hpg6 hL
    have noldL : ∀ (b : Addr) o, H b = some o → b ≠ L := fun b o h => ne_of_none (e36 _ _ (e3 _ _ h)) hL
    generalize L2.upd H6 L (.lst []) = H0 at *
    have nlf : ∀ {H' : Hp} {es : List Dd} {m : Nat}, Fx K L H0 H' es m → Nl H0 H' := fun fd => fd.bt.nl hL0
    -- hand by hand
    refine ⟨_, rfl, hp, rfl, ⟨_, hhp7⟩, ?_⟩
    refine for_tup (K := K) (a := hp) (xs := nV hs) (fun i σ H' => ∃ vh vb vi : Option V, σ = [some (.ref a), some (.ref hp), some (.ref ab), some (.ref at'), some (.ref as), some (.ref pg), some (.ref L), vh, vb, vi, none, none, none, none, none] ∧ Fx K L H0 H' ((hs.take i).flatMap (handPart d hs)) (i * 100))
      ⟨none, none, none, rfl, But.refl _ _, by simp, [], hL0, .nil⟩ (fun i σ H' _ ⟨_, _, _, _, fd⟩ => SqT.nl (nlf fd) hhp7) ?_ ?_
    · rintro i y σ H7 hi ⟨vh, vb, vi, rfl, fd⟩
      obtain ⟨u, hui, rfl⟩ : ∃ u, hs[i]? = some u ∧ y = .int (u : Nat) := by
        unfold nV at hi
        rw [List.getElem?_map] at hi
        cases q : hs[i]? with
        | none => rw [q] at hi; cases hi
        | some u => rw [q] at hi; exact ⟨u, rfl, (Option.some.inj hi).symm⟩
      have hi' : i < hs.length := (List.getElem?_eq_some_iff.mp hui).1
      have hpre : (hs.take (i + 1)).flatMap (handPart d hs) = (hs.take i).flatMap (handPart d hs) ++ handPart d hs u := by
        rw [List.take_add_one, hui, List.flatMap_append]
        simp
      generalize (hs.take i).flatMap (handPart d hs) = pre at *
      -- box by box
      refine ⟨_, rfl, ab, rfl, ⟨_, SqL.of (fd.bt _ _ hab7 nab)⟩, ?_⟩
      refine for_list (K := K) (a := ab) (xs := rgV 0 (d.bs.length : Nat)) (fun j σ H' => ∃ vb vi : Option V, σ = [some (.ref a), some (.ref hp), some (.ref ab), some (.ref at'), some (.ref as), some (.ref pg), some (.ref L), some (.int (u : Nat)), vb, vi, none, none, none, none, none] ∧ Fx K L H0 H' (pre ++ (List.range j).flatMap (boxPart d u)) (i * 100 + j * 20))
        ⟨vb, vi, rfl, fd.more (by omega) (by simp)⟩ (fun j σ H' _ ⟨_, _, _, fd⟩ => SqL.of (fd.bt _ _ hab7 nab)) ?_ ?_
      · rintro j y σ H8 hj ⟨vb, vi, rfl, fd⟩
        obtain ⟨hj', rfl⟩ := rg_get hj
        obtain ⟨x0, hx0, lx0, _⟩ := fd.ext (Same.refl _)
        refine ⟨_, rfl, .inl ⟨rfl, _, SqL.of hx0⟩, _, rfl, _, rfl, (by show 3 ≤ sizeLine; decide), fun t1 ht1 => ?_⟩
        have f1 := same_upd (o := HO.tup [V.str ("break" : Str), .int (u : Nat), .int (j : Nat)]) ht1
        obtain ⟨x1, hx1, lx1, gx1⟩ := fd.ext f1
        refine ⟨L, x1, .ref t1, rfl, rfl, hx1, by rw [sizeLine_eq]; omega, ?_⟩
        have fd1 := gx1 [.ref t1] [.brk u j] 1 (Nat.le_refl _) (.cons (.tup (SqT.of upd_same) (.cons (.str _) (.cons (.int _) (.cons (.int _) .nil)))) .nil)
        generalize L2.upd (L2.upd H8 t1 (HO.tup [V.str ("break" : Str), .int (u : Nat), .int (j : Nat)])) L (.lst (x1 ++ [.ref t1])) = H9 at *
        -- seals
        obtain ⟨x2, hx2, lx2, _⟩ := fd1.ext (Same.refl _)
        refine ⟨_, rfl, .inl ⟨rfl, _, SqL.of hx2⟩, _, rfl, as, rfl, ⟨_, SqL.of (fd1.bt _ _ has7 nas)⟩, fun D3 hD3 => ?_⟩
        refine lc_fx (K := K) (List.range d.ss.length) (fun _ => true) (fun m => ddD (.lock u j m)) (fun m => noL_dd _) (by rw [rg_len, List.length_range]) (SqL.of (fd1.bt _ _ has7 nas)) (by rw [rg_len]; omega) hD3 (fun m x s H' N Y hm hs' e hN hY => ?_) (fun HA z1 eA hz1 dz1 => ?_)
        · obtain ⟨rfl, hm'⟩ := rgx _ _ _ _ hm hs'
          exact yes_lc ⟨_, rfl, _, rfl, _, rfl, (by show 4 ≤ sizeLine; decide), fun t ht => hY _ _ (same_upd ht) rfl (.tup (SqT.of upd_same) (.cons (.str _) (.cons (.int _) (.cons (.int _) (.cons (.int _) .nil)))))⟩
        rw [filter_tt] at dz1
        have lz1 : z1.length ≤ 3 := by have := DpAll.len dz1; rw [List.length_map, List.length_range] at this; omega
        obtain ⟨x3, hx3, lx3, gx3⟩ := fd1.ext eA
        refine ⟨L, D3, x3, z1, rfl, rfl, hx3, hz1, by rw [sizeLine_eq]; omega, ?_⟩
        have fd2 := gx3 z1 ((List.range d.ss.length).map fun m => Dd.lock u j m) 3 (by rw [List.length_map, List.length_range]; omega) (by rw [List.map_map]; exact dz1)
        generalize L2.upd HA L (.lst (x3 ++ z1)) = HB at *
        -- put
        have lf : ((goodsOf d).filter fun p => decide (p ≠ (Kd.box, j))).length ≤ 7 := by have := List.length_filter_le (fun p => decide (p ≠ (Kd.box, j))) (goodsOf d); omega
        obtain ⟨x4, hx4, lx4, _⟩ := fd2.ext (Same.refl _)
        refine ⟨_, rfl, .inl ⟨rfl, _, SqL.of hx4⟩, _, rfl, pg, rfl, ⟨_, SqL.of (fd2.bt _ _ hpg7 npg)⟩, fun D4 hD4 => ?_⟩
        have nlB := nlf fd2
        refine lc_fx (K := K) (goodsOf d) (fun p => decide (p ≠ (Kd.box, j))) (fun p => ddD (.put u p j)) (fun p => noL_dd _) lgs (SqL.of (fd2.bt _ _ hpg7 npg)) (by omega) hD4 (fun m x p H' N Y hm hp' e hN hY => ?_) (fun HC z2 eC hz2 dz2 => ?_)
        · have hp1 : Dp K H' x (itP p) := by
            obtain ⟨dd, q1, q2⟩ := DpAll.get (Dp.sames e _ _ (Dp.nls nlB _ _ (noLs_map itP (fun _ => rfl) _) dg7)) hm
            rw [List.getElem?_map, hp'] at q1
            obtain rfl := Option.some.inj q1
            exact q2
          refine ⟨_, rfl, _, rfl, (by show 2 ≤ sizeLine; decide), fun t ht => ?_⟩
          have ft := same_upd (o := HO.tup [V.str ("box" : Str), .int (j : Nat)]) ht
          refine ⟨itP p, itP (.box, j), Dp.same ft _ _ hp1, .tup (SqT.of upd_same) (.cons (.str _) (.cons (.int _) .nil)), shaped_it _, shaped_it _, _, rfl, ite_b _ (fun cne => ?_) (fun cne => hN _ ft ?_)⟩
          · rw [eqv_it] at cne
            refine ⟨_, rfl, _, rfl, _, rfl, (by show 4 ≤ sizeLine; decide), fun t2 ht2 => hY _ _ (ft.trans (same_upd ht2)) (by simpa using cne) (.tup (SqT.of upd_same) (.cons (.str _) (.cons (.int _) (.cons (Dp.same (ft.trans (same_upd ht2)) _ _ hp1) (.cons (.int _) .nil)))))⟩
          · rw [eqv_it] at cne
            simpa using cne
        obtain ⟨x5, hx5, lx5, gx5⟩ := fd2.ext eC
        have lz2 : z2.length ≤ 7 := by rw [DpAll.len dz2, List.length_map]; exact lf
        refine ⟨L, D4, x5, z2, rfl, rfl, hx5, hz2, by rw [sizeLine_eq]; omega, ?_⟩
        have fd3 := gx5 z2 (((goodsOf d).filter fun p => decide (p ≠ (Kd.box, j))).map fun p => Dd.put u p j) 7 (by rw [List.length_map]; exact lf) (by rw [List.map_map]; exact dz2)
        generalize L2.upd HC L (.lst (x5 ++ z2)) = HE at *
        -- take
        obtain ⟨x6, hx6, lx6, _⟩ := fd3.ext (Same.refl _)
        refine ⟨_, rfl, .inl ⟨rfl, _, SqL.of hx6⟩, _, rfl, pg, rfl, ⟨_, SqL.of (fd3.bt _ _ hpg7 npg)⟩, fun D5 hD5 => ?_⟩
        have nlE := nlf fd3
        refine lc_fx (K := K) (goodsOf d) (fun p => decide (p ≠ (Kd.box, j))) (fun p => ddD (.take u p j)) (fun p => noL_dd _) lgs (SqL.of (fd3.bt _ _ hpg7 npg)) (by omega) hD5 (fun m x p H' N Y hm hp' e hN hY => ?_) (fun HF z3 eF hz3 dz3 => ?_)
        · have hp1 : Dp K H' x (itP p) := by
            obtain ⟨dd, q1, q2⟩ := DpAll.get (Dp.sames e _ _ (Dp.nls nlE _ _ (noLs_map itP (fun _ => rfl) _) dg7)) hm
            rw [List.getElem?_map, hp'] at q1
            obtain rfl := Option.some.inj q1
            exact q2
          refine ⟨_, rfl, _, rfl, (by show 2 ≤ sizeLine; decide), fun t ht => ?_⟩
          have ft := same_upd (o := HO.tup [V.str ("box" : Str), .int (j : Nat)]) ht
          refine ⟨itP p, itP (.box, j), Dp.same ft _ _ hp1, .tup (SqT.of upd_same) (.cons (.str _) (.cons (.int _) .nil)), shaped_it _, shaped_it _, _, rfl, ite_b _ (fun cne => ?_) (fun cne => hN _ ft ?_)⟩
          · rw [eqv_it] at cne
            refine ⟨_, rfl, _, rfl, _, rfl, (by show 4 ≤ sizeLine; decide), fun t2 ht2 => hY _ _ (ft.trans (same_upd ht2)) (by simpa using cne) (.tup (SqT.of upd_same) (.cons (.str _) (.cons (.int _) (.cons (Dp.same (ft.trans (same_upd ht2)) _ _ hp1) (.cons (.int _) .nil)))))⟩
          · rw [eqv_it] at cne
            simpa using cne
        obtain ⟨x7, hx7', lx7, gx7⟩ := fd3.ext eF
        have lz3 : z3.length ≤ 7 := by rw [DpAll.len dz3, List.length_map]; exact lf
        refine ⟨L, D5, x7, z3, rfl, rfl, hx7', hz3, by rw [sizeLine_eq]; omega, ?_⟩
        have fd4 := gx7 z3 (((goodsOf d).filter fun p => decide (p ≠ (Kd.box, j))).map fun p => Dd.take u p j) 7 (by rw [List.length_map]; exact lf) (by rw [List.map_map]; exact dz3)
        exact ⟨_, _, rfl, fd4.more (by omega) (by rw [List.range_succ, List.flatMap_append]; simp [boxPart])⟩
      rintro σ H8 ⟨vb, vi, rfl, fd⟩
      rw [rg_len] at fd
      -- what is given
      refine ⟨_, rfl, _, rfl, as, rfl, ⟨_, SqL.of (fd.bt _ _ has7 nas)⟩, fun D6 hD6 => ?_⟩
      refine lc_fx (K := K) (List.range d.ss.length) (fun _ => true) (fun m => itP (Kd.sl, m)) (fun _ => rfl) (by rw [rg_len, List.length_range]) (SqL.of (fd.bt _ _ has7 nas)) (by rw [rg_len]; omega) hD6 (fun m x s H' N Y hm hs' e hN hY => ?_) (fun HA z1 eA hz1 dz1 => ?_)
      · obtain ⟨rfl, hm'⟩ := rgx _ _ _ _ hm hs'
        exact yes_lc ⟨_, rfl, (by show 2 ≤ sizeLine; decide), fun t ht => hY _ _ (same_upd ht) rfl (.tup (SqT.of upd_same) (.cons (.str _) (.cons (.int _) .nil)))⟩
      rw [filter_tt] at dz1
      have lz1 : z1.length ≤ 3 := by have := DpAll.len dz1; rw [List.length_map, List.length_range] at this; omega
      have hpgA := eA _ _ (fd.bt _ _ hpg7 npg)
      refine ⟨pg, D6, gs, z1, rfl, rfl, hpgA, hz1, by rw [sizeLine_eq]; omega, fun pj hpj => ?_⟩
      have fj := eA.trans (same_upd (o := HO.lst (gs ++ z1)) hpj)
      have npj : pj ≠ L := (ne_of_none (eA _ _ (fd.ext (Same.refl _)).choose_spec.1) hpj).symm
      have hpj0 : (L2.upd HA pj (.lst (gs ++ z1))) pj = some (.lst (gs ++ z1)) := upd_same
      have nl8 := nlf fd
      have dj : DpAll K (L2.upd HA pj (.lst (gs ++ z1))) (gs ++ z1) ((goodsOf d ++ sealsOf d).map itP) := by
        rw [List.map_append]
        refine DpAll.app (Dp.sames fj _ _ (Dp.nls nl8 _ _ (noLs_map itP (fun _ => rfl) _) dg7)) ?_
        unfold sealsOf
        rw [List.map_map]
        exact Dp.sames (same_upd hpj) _ _ dz1
      have btj : But L H0 (L2.upd HA pj (.lst (gs ++ z1))) := fd.bt.trans (But.same fj)
      have fdj : Fx K L H0 (L2.upd HA pj (.lst (gs ++ z1))) (pre ++ (List.range d.bs.length).flatMap (boxPart d u)) (i * 100 + d.bs.length * 20) := by
        obtain ⟨xs, a1, a2⟩ := fd.ex
        exact ⟨btj, fd.lm, xs, fj _ _ a1, Dp.sames fj _ _ a2⟩
      have lJ : (goodsOf d ++ sealsOf d).length ≤ 10 := by rw [List.length_append]; unfold sealsOf; rw [List.length_map, List.length_range]; omega
      generalize L2.upd HA pj (.lst (gs ++ z1)) = HJ at *
      generalize gs ++ z1 = js at *
      have ljs : js.length = (goodsOf d ++ sealsOf d).length := by rw [DpAll.len dj, List.length_map]
      refine ⟨pj, rfl, ⟨_, SqL.of hpj0⟩, ?_⟩
      refine for_list (K := K) (a := pj) (xs := js) (fun j σ H' => ∃ vi : Option V, σ = [some (.ref a), some (.ref hp), some (.ref ab), some (.ref at'), some (.ref as), some (.ref pg), some (.ref L), some (.int (u : Nat)), vb, vi, none, none, none, none, none] ∧ Fx K L H0 H' ((pre ++ (List.range d.bs.length).flatMap (boxPart d u)) ++ ((goodsOf d ++ sealsOf d).take j).flatMap (givePart hs u)) (i * 100 + d.bs.length * 20 + j * 4) ∧ But L HJ H')
        ⟨vi, rfl, fdj.more (by omega) (by simp), But.refl _ _⟩ (fun j σ H' _ ⟨_, _, _, bj⟩ => SqL.of (bj _ _ hpj0 npj)) ?_ ?_
      · rintro j y σ HK hj ⟨vi, rfl, fdk, bj⟩
        obtain ⟨xL, hxL, _⟩ := fdj.ex
        have nlJ : Nl HJ HK := bj.nl hxL
        obtain ⟨p, hpj'⟩ : ∃ p, (goodsOf d ++ sealsOf d)[j]? = some p := ⟨_, List.getElem?_eq_getElem (by have := (List.getElem?_eq_some_iff.mp hj).1; omega)⟩
        have hp0 : Dp K HK y (itP p) := by
          obtain ⟨dd, q1, q2⟩ := DpAll.get (Dp.nls nlJ _ _ (noLs_map itP (fun _ => rfl) _) dj) hj
          rw [List.getElem?_map, hpj'] at q1
          obtain rfl := Option.some.inj q1
          exact q2
        have lgv : (hs.filter fun o => decide (o ≠ u)).length ≤ 4 := by have := List.length_filter_le (fun o => decide (o ≠ u)) hs; omega
        obtain ⟨x2, hx2, lx2, _⟩ := fdk.ext (Same.refl _)
        refine ⟨_, rfl, .inl ⟨rfl, _, SqL.of hx2⟩, _, rfl, hp, rfl, ⟨_, SqT.nl (nlf fdk) hhp7⟩, fun D7 hD7 => ?_⟩
        refine lc_fxT (K := K) hs (fun o => decide (o ≠ u)) (fun o => ddD (.give u p o)) (fun o => noL_dd _) (nv_len hs) (SqT.nl (nlf fdk) hhp7) (by rw [nv_len]; omega) hD7 (fun m x o H' N Y hm ho' e hN hY => ?_) (fun HA2 z2 eA2 hz2 dz2 => ?_)
        · obtain rfl : x = .int (o : Nat) := by
            unfold nV at hm
            rw [List.getElem?_map, ho'] at hm
            exact (Option.some.inj hm).symm
          have hp1 := Dp.same e _ _ hp0
          have edz : (!decide (V.int (o : Nat) = V.int (u : Nat))) = decide (o ≠ u) := by
            by_cases c : o = u
            · subst c; simp
            · have : ¬ (V.int (o : Nat) = V.int (u : Nat)) := fun z => c (by injection z with z; omega)
              simp [c, this]
          refine ⟨_, rfl, _, rfl, rfl, _, rfl, ite_b _ (fun cne => ?_) (fun cne => hN _ (Same.refl _) (by rw [← edz]; exact cne))⟩
          refine ⟨_, rfl, _, rfl, _, rfl, (by show 4 ≤ sizeLine; decide), fun t2 ht2 => hY _ _ (same_upd ht2) (by rw [← edz]; exact cne) (.tup (SqT.of upd_same) (.cons (.str _) (.cons (.int _) (.cons (Dp.same (same_upd ht2) _ _ hp1) (.cons (.int _) .nil)))))⟩
        have lz2 : z2.length ≤ 4 := by rw [DpAll.len dz2, List.length_map]; exact lgv
        obtain ⟨x3, hx3, lx3, gx3⟩ := fdk.ext eA2
        have j1 := (List.getElem?_eq_some_iff.mp hj).1
        refine ⟨L, D7, x3, z2, rfl, rfl, hx3, hz2, by rw [sizeLine_eq]; omega, ?_⟩
        have fd2 := gx3 z2 (givePart hs u p) 4 (by unfold givePart; rw [List.length_map]; exact lgv) (by unfold givePart; rw [List.map_map]; exact dz2)
        refine ⟨_, rfl, fd2.more (by omega) ?_, fun b o hb nb => ?_⟩
        · rw [List.take_add_one, hpj', List.flatMap_append, List.append_assoc]
          simp
        rw [upd_ne nb]
        exact eA2 _ _ (bj b o hb nb)
      · rintro σ HK ⟨vi, rfl, fdk, bj⟩
        rw [ljs, List.take_length] at fdk
        exact ⟨_, _, _, rfl, fdk.more (by omega) (by rw [hpre, handPart, List.append_assoc])⟩
    -- those that can be done, in order
    rintro σ H7 ⟨vh, vb, vi, rfl, fd⟩
    rw [nv_len, List.take_length] at fd
    obtain ⟨x8, hx8, dx8⟩ := fd.ex
    have lm8 := fd.lm
    have e8 : Same H H7 := fun b o h => fd.bt b o (eH b o h) (noldL b o h)
    have lx8 : x8.length = (rawD d hs).length := by rw [DpAll.len dx8, List.length_map]; rfl
    have lr8 : (rawD d hs).length ≤ 400 := by have : (rawD d hs).length ≤ hs.length * 100 := lm8; omega
    refine ⟨_, rfl, L, rfl, ⟨_, SqL.of hx8⟩, fun D9 hD9 => ?_⟩
    refine lc_fx (K := K) (rawD d hs) (fun e => decide (barOf d e = "")) ddD noL_dd lx8 (SqL.of hx8) (by omega) hD9 (fun m x ed H' N Y hm hed e hN hY => ?_) (fun H9 z9 e9 hz9 dz9 => ?_)
    · have he1 : Dp K H' x (ddD ed) := by
        obtain ⟨dd, q1, q2⟩ := DpAll.get (Dp.sames e _ _ dx8) hm
        rw [show (List.flatMap (handPart d hs) hs) = rawD d hs from rfl, List.getElem?_map, hed] at q1
        obtain rfl := Option.some.inj q1
        exact q2
      have kn := kn_in (mem_raw.mp (List.mem_of_getElem? hed))
      refine ⟨_, rfl, _, rfl, _, _, d, ed, rfl, Dp.same (e8.trans e) _ _ hx, he1, kn, fun H'' e'' => ⟨rfl, _, rfl, ?_⟩⟩
      rw [decS]
      refine ite_b _ (fun z => ⟨_, rfl, hY _ _ e'' z (Dp.same e'' _ _ he1)⟩) (fun z => hN _ e'' z)
    refine ⟨D9, z9, ((rawD d hs).filter fun e => decide (barOf d e = "")).map ddD, rfl, SqL.of hz9, dz9, fun q hq => ?_, fun q hq q' hq' => ?_, fun ys p hperm hp9 => ?_⟩
    · obtain ⟨e', _, rfl⟩ := List.mem_map.mp hq
      exact sd_dd e'
    · obtain ⟨e', _, rfl⟩ := List.mem_map.mp hq
      obtain ⟨f', _, rfl⟩ := List.mem_map.mp hq'
      exact tc_dd e' f'
    · have eL := e8.trans e9
      obtain ⟨es, he1, he2⟩ := perm_data hperm dz9
      refine k p ys es _ (eL.trans (same_upd hp9)) (same_none eL hp9) upd_same (Dp.sames (same_upd hp9) _ _ he2) ?_ fun e => ?_
      · rw [he1.length_eq]
        have := List.length_filter_le (fun e => decide (barOf d e = "")) (rawD d hs)
        omega
      · rw [he1.mem_iff, List.mem_filter, mem_raw]
        simp
end
end Kw

set_option Elab.async false
set_option linter.all false
set_option maxRecDepth 100000
set_option maxHeartbeats 4000000
namespace Kw
open PySem PySem.Spec PyProof.Rows L2
abbrev sFF : Stmt := top 47
abbrev sSS : Stmt := top 48
abbrev sSR : Stmt := top 49
/-! ### the state behind a row -/
theorem bar_names {d : Hs} {e : Dd} {z : Str} (h : barOf d e = z) (n : z ≠ "") : z = "NotHeld" ∨ z = "IsSealed" ∨ z = "NotSealed" ∨ z = "NotInside" := by
  subst h
  revert n
  unfold barOf
  cases e <;> dsimp only <;> (repeat' split) <;> intro n <;> first | exact absurd rfl n | exact .inl rfl | exact .inr (.inl rfl) | exact .inr (.inr (.inl rfl)) | exact .inr (.inr (.inr rfl))
structure CaughtB (K : PySem.W.Frag) (ce : Str → Addr) (CW : Addr) : Prop where
  z : ∀ z : Str, (z = "NotHeld" ∨ z = "IsSealed" ∨ z = "NotSealed" ∨ z = "NotInside") → PySem.W.exmOne K (.ref (ce z)) (.ref CW) = some true
def stepR (d0 d : Hs) : Rw → Option Hs
  | .gap _ => none
  | .deed e => if unkOf d0 e = "" ∧ barOf d e = "" then some (nextOf d e) else none
  | .sight g => if isS d g = true then some d else none
def OptSt (K : PySem.W.Frag) (H : Hp) (v : V) : Option Hs → Prop
  | none => v = .non
  | some d => Dp K H v (stD d)
/-- a row that is read in a state -/
def RdR (d : Hs) : Rw → Prop
  | .gap _ => False
  | .deed e => Sm e
  | .sight g => depS g < 2 ∧ KnS d g
section
variable {P : Program} {w : World} {K : PySem.W.Frag} {mg : Str → Option Value} {base : Heap}
def spSR (K : PySem.W.Frag) (C : Addr) : Sp := fun vs H Q _ => ∃ (h : Addr) (v y : V) (d0 d : Hs) (r : Rw), vs = [.ref h, v, y] ∧ HouseAt K C H h d0 ∧ Dp K H v (stD d) ∧ Dp K H y (rwD r) ∧ Shp d0 d ∧ Ls d ∧ RdR d r ∧ ∀ v' H', Same H H' → OptSt K H' v' (stepR d0 d r) → Q v' H'
theorem scSR : FnScope ["house", "state", "row"] ["house", "state", "row"] (defScope sSR) := ⟨rfl, rfl, rfl, by decide +kernel, rfl, by decide +kernel, by decide +kernel⟩
theorem ok_sr {f gT gD gB C X CW aD : Addr} {fd fdT fdD fdB : FuncData} {ce : Str → Addr} (F : Fun K "state_behind_row" "state_behind_row" sSR f fd) (W : WordsF K mg aD) (mW : mg "WatchError" = some (.ref CW)) (Ct : Caught K ce X CW) (Cb : CaughtB K ce CW) (IT : OnceF P w K mg base "is_true" 3 ["state", "sight"] (spIs K 2) gT fdT)
    (ND : OnceY P w K mg base "need_deed" 5 ["house", "deed"] (spNDeed K C ce) gD fdD) (SB : OnceY P w K mg base "state_behind" 4 ["state", "deed"] (spBehind K ce) gB fdB) :
    FnOk P w K mg base CX0 6 f fd ["house", "state", "row"] (spSR K C) := by
  refine F.ok scSR (fun vs H Q E h => ?_) (fun cdv A outer s H vs Q E hr h => ?_)
  · obtain ⟨h, v, y, d0, d, r, rfl, _⟩ := h
    rfl
  · obtain ⟨h, v, y, d0, d, r, rfl, hh, hv, hy, shp, ls, rd, k⟩ := h
    have hr3 : Room 3 _ := hr.mono (by decide)
    have hr4 : Room 4 _ := hr.mono (by decide)
    have hr5 : Room 5 _ := hr
    refine ⟨_, (pss_cons (ps_if (pt_cmpR op_notIn_seq (pe_ix ix_tup (pv 2) pe_int (fun _ _ => rfl)) (pe_glob (v := .ref aD) rfl W.m rfl) (by rfl)) (pss_one (ps_ret (pe_ifExp (pt_val (pe_call IT.G hr3 rfl IT.m IT.k IT.b .nil pass0 (pa_cons (pv 1) (pa_cons (pv 2) pa_nil)))) (pv 1) pe_non))) pss_nil) (pss_one (ps_try_only rfl rfl ⟨rfl, by decide, .inl mW⟩ takes0 (fun W pn xe tk _ => pss_cons (ps_expr (pe_callS ND.G hr5 rfl ND.m ND.k ND.b (fun σ => passAt tk σ) (pa_cons (pv 0) (pa_cons (pv 2) pa_nil)))) (pss_one (ps_ret (pe_callS SB.G hr4 rfl SB.m SB.k SB.b (fun σ => passAt tk σ) (pa_cons (pv 1) (pa_cons (pv 2) pa_nil)))))) (fun a oe cls d pn _ _ => pss_one (ps_ret pe_non))))), ?_⟩
    cases r with
    | gap zs => exact rd.elim
    | deed e =>
      have sm : Sm e := rd
      obtain ⟨yd, vs, rfl, sy, dvs⟩ := dd_at hy
      refine ⟨_, rfl, yd, _, 0, _, rfl, rfl, sy, atI_nat (j := 0) rfl, aD, _, rfl, .inr (W.s H), rfl, rfl, _, rfl, ?_⟩
      refine iteFe (by cases e <;> (simp only [Dd.word]; decide +kernel)) ?_
      refine ⟨_, rfl, _, rfl, h, _, e, d0, rfl, hh, hy, sm, fun z z1 z2 H1 e1 => ?_, fun u0 H1 e1 => ?_⟩
      · have hne : ¬ (unkOf d0 e = "" ∧ barOf d e = "") := fun q => z2 (z1.symm.trans q.1)
        refine ⟨true, Ct.z z (unk_names5 z1 z2), fun _ a ha => ?_, fun q => nomatch q⟩
        refine k .non H1 e1 ?_
        rw [show stepR d0 d (.deed e) = none from if_neg hne]
        rfl
      · have kn := unk_kn ((unk_shp shp e).symm.trans u0)
        refine ⟨_, rfl, _, rfl, v, _, d, e, rfl, Dp.same e1 _ _ hv, Dp.same e1 _ _ hy, kn, sm, ls, fun z z1 z2 H2 e2 => ?_, fun b0 v' H2 e2 hv' => ?_⟩
        · have hne : ¬ (unkOf d0 e = "" ∧ barOf d e = "") := fun q => z2 (z1.symm.trans q.2)
          refine ⟨true, Cb.z z (bar_names z1 z2), fun _ a ha => ?_, fun q => nomatch q⟩
          refine k .non H2 (e1.trans e2) ?_
          rw [show stepR d0 d (.deed e) = none from if_neg hne]
          rfl
        · refine k v' H2 (e1.trans e2) ?_
          rw [show stepR d0 d (.deed e) = some (nextOf d e) from if_pos ⟨u0, b0⟩]
          exact hv'
    | sight g =>
      obtain ⟨yd, vs, rfl, sy, dvs⟩ := sg_at hy
      refine ⟨_, rfl, yd, _, 0, _, rfl, rfl, sy, atI_nat (j := 0) rfl, aD, _, rfl, .inr (W.s H), rfl, rfl, _, rfl, ?_⟩
      refine iteTe (by cases g <;> (simp only [sgW]; decide +kernel)) ?_
      refine ⟨_, rfl, _, rfl, v, _, d, g, rfl, rd.1, hv, hy, rd.2, ls, fun H1 e1 => ⟨_, rfl, ?_⟩⟩
      refine ite_b _ (fun c => ⟨_, rfl, k v H1 e1 ?_⟩) (fun c => k .non H1 e1 ?_)
      · rw [show stepR d0 d (.sight g) = some d from if_pos c]
        exact Dp.same e1 _ _ hv
      · rw [show stepR d0 d (.sight g) = none from if_neg (by rw [c]; decide)]
        rfl
/-! ### the state behind a secret deed -/
def giveOk (zs : List Int) : Dd → Prop
  | .give _ _ o => ((o : Nat) : Int) ∈ zs
  | _ => True
instance (zs : List Int) (e : Dd) : Decidable (giveOk zs e) := by cases e <;> (unfold giveOk; infer_instance)
def stepS (d0 d : Hs) (zs : List Int) (e : Dd) : Option Hs := if ((e.hand : Nat) : Int) ∈ zs ∧ giveOk zs e then stepR d0 d (.deed e) else none
def spSS (K : PySem.W.Frag) (C : Addr) : Sp := fun vs H Q _ => ∃ (h t : Addr) (v y : V) (zs : List Int) (d0 d : Hs) (e : Dd), vs = [.ref h, v, .ref t, y] ∧ HouseAt K C H h d0 ∧ Dp K H v (stD d) ∧ SqT K H t (zs.map V.int) ∧ Dp K H y (ddD e) ∧ Shp d0 d ∧ Ls d ∧ Sm e ∧ ∀ v' H', Same H H' → OptSt K H' v' (stepS d0 d zs e) → Q v' H'
theorem scSS : FnScope ["house", "state", "hands", "deed"] ["house", "state", "hands", "deed"] (defScope sSS) := ⟨rfl, rfl, rfl, by decide +kernel, rfl, by decide +kernel, by decide +kernel⟩
theorem dd_deedw (e : Dd) : inV (.str e.word) [V.str ("give" : Str), .str ("put" : Str), .str ("take" : Str), .str ("seal" : Str), .str ("break" : Str)] = true := by cases e <;> (simp only [Dd.word]; decide +kernel)
theorem ok_ss {f gR C aD : Addr} {fd fdR : FuncData} (F : Fun K "state_behind_secret" "state_behind_secret" sSS f fd) (W : WordsF K mg aD) (SR : OnceF P w K mg base "state_behind_row" 6 ["house", "state", "row"] (spSR K C) gR fdR) :
    FnOk P w K mg base CX0 7 f fd ["house", "state", "hands", "deed"] (spSS K C) := by
  refine F.ok scSS (fun vs H Q E h => ?_) (fun cdv A outer s H vs Q E hr h => ?_)
  · obtain ⟨h, t, v, y, zs, d0, d, e, rfl, _⟩ := h
    rfl
  · obtain ⟨h, t, v, y, zs, d0, d, e, rfl, hh, hv, ht, hy, shp, ls, sm, k⟩ := h
    have hr6 : Room 6 _ := hr
    refine ⟨_, (pss_cons (ps_if (PW.pt (pw_or (pt_cmpR op_notIn_seq (pe_ix ix_tup (pv 3) pe_int (fun _ _ => rfl)) (pe_glob (v := .ref aD) rfl W.m rfl) (by rfl)) (pw_or1 (pt_cmpR op_notIn_seq (pe_ix ix_tup (pv 3) pe_int (fun _ _ => rfl)) (pv 2) (by rfl))))) (pss_one (ps_ret pe_non)) pss_nil) (pss_cons (ps_if (PW.pt (pw_and (pt_cmpR op_eq (pe_ix ix_tup (pv 3) pe_int (fun _ _ => rfl)) pe_str (nomark _)) (pw_and1 (pt_cmpR op_notIn_seq (pe_ix ix_tup (pv 3) pe_int (fun _ _ => rfl)) (pv 2) (by rfl))))) (pss_one (ps_ret pe_non)) pss_nil) (pss_one (ps_ret (pe_call SR.G hr6 rfl SR.m SR.k SR.b .nil pass0 (pa_cons (pv 0) (pa_cons (pv 1) (pa_cons (pv 3) pa_nil)))))))), ?_⟩
    obtain ⟨yd, vs, rfl, sy, dvs⟩ := dd_at hy
    refine ⟨_, rfl, yd, _, 0, _, rfl, rfl, sy, atI_nat (j := 0) rfl, aD, _, rfl, .inr (W.s H), rfl, rfl, _, rfl, ?_⟩
    rw [dd_deedw]
    refine iteF ⟨_, rfl, yd, _, 1, _, rfl, rfl, sy, atI_nat (j := 1) rfl, _, rfl, t, _, rfl, .inr ht, rfl, flat_ints zs, _, rfl, ?_⟩
    rw [inV_ints]
    by_cases c1 : ((e.hand : Nat) : Int) ∈ zs
    · rw [decide_eq_true c1]
      refine iteF ?_
      have fin : stepS d0 d zs e = stepR d0 d (.deed e) → tRet (tCall (spSR K C) [] E0 (tCons (tVar 0) (tCons (tVar 1) (tCons (tVar 3) tNil)))) { nx := fun x H' => Q V.non H', rt := Q } (L2.start ["house", "state", "hands", "deed"] [V.ref h, v, .ref t, .ref yd]) H := fun es => ⟨_, rfl, _, rfl, _, rfl, h, v, _, d0, d, .deed e, rfl, hh, hv, hy, shp, ls, sm, fun v' H' e' o => k v' H' e' (by rw [es]; exact o)⟩
      refine ⟨_, rfl, yd, _, 0, _, rfl, rfl, sy, atI_nat (j := 0) rfl, rfl, _, rfl, ?_⟩
      rw [decS]
      cases e with
      | give h' p o =>
        cases dvs with
        | cons d1 r =>
        cases r with
        | cons d2 r =>
        cases r
        cases d2
        refine iteTe (by simp only [Dd.word]; decide +kernel) ⟨_, rfl, yd, _, 3, _, rfl, rfl, sy, atI_nat (j := 3) rfl, _, rfl, t, _, rfl, .inr ht, rfl, flat_ints zs, _, rfl, ?_⟩
        rw [inV_ints]
        by_cases c2 : ((o : Nat) : Int) ∈ zs
        · rw [decide_eq_true c2]
          exact iteF (fin (if_pos ⟨c1, c2⟩))
        · rw [decide_eq_false c2]
          refine iteT (k .non H (Same.refl _) ?_)
          rw [show stepS d0 d zs (.give h' p o) = none from if_neg fun q => c2 q.2]
          rfl
      | put h' p b => exact iteFe (decide_eq_false (by simp only [Dd.word]; decide +kernel)) (fin (if_pos ⟨c1, trivial⟩))
      | take h' p b => exact iteFe (decide_eq_false (by simp only [Dd.word]; decide +kernel)) (fin (if_pos ⟨c1, trivial⟩))
      | lock h' b s' => exact iteFe (decide_eq_false (by simp only [Dd.word]; decide +kernel)) (fin (if_pos ⟨c1, trivial⟩))
      | brk h' b => exact iteFe (decide_eq_false (by simp only [Dd.word]; decide +kernel)) (fin (if_pos ⟨c1, trivial⟩))
    · rw [decide_eq_false c1]
      refine iteT (k .non H (Same.refl _) ?_)
      rw [show stepS d0 d zs e = none from if_neg fun q => c1 q.1]
      rfl
end
end Kw

set_option Elab.async false
set_option linter.all false
set_option maxRecDepth 100000
set_option maxHeartbeats 4000000
namespace Kw
open PySem PySem.Spec PyProof.Rows L2
/-! ### first_fault -/
def runS (d0 : Hs) (zs : List Int) : Hs → List Dd → Nat → Except Nat Hs
  | d, [], _ => .ok d
  | d, e :: es, k => match stepS d0 d zs e with
    | none => .error k
    | some d' => runS d0 zs d' es (k + 1)
def faultOf (d0 : Hs) : Hs → List Rw → List (List Dd) → Nat → Option (Nat × Int)
  | _, [], _, _ => none
  | d, .gap zs :: rs, c :: cs, i => match runS d0 zs d c 0 with
    | .error k => some (i, (k : Int))
    | .ok d' => faultOf d0 d' rs cs (i + 1)
  | _, .gap _ :: _, [], _ => none
  | d, .deed e :: rs, cs, i => match stepR d0 d (.deed e) with
    | none => some (i, -1)
    | some d' => faultOf d0 d' rs cs (i + 1)
  | d, .sight g :: rs, cs, i => match stepR d0 d (.sight g) with
    | none => some (i, -1)
    | some d' => faultOf d0 d' rs cs (i + 1)
def nGaps (rs : List Rw) : Nat := (rs.filter isGap).length
theorem gapIx_len (rs : List Rw) : (gapIx rs).length = nGaps rs := by
  have h : ∀ i, i ≤ rs.length → ((List.range i).filter fun i => (rs[i]?.map isGap).getD false).length = ((rs.take i).filter isGap).length := fun i => by
    induction i with
    | zero => intro _; rfl
    | succ i ih =>
      intro hi
      have hr : rs[i]? = some rs[i] := List.getElem?_eq_getElem (by omega)
      rw [gapIx_succ hr, List.length_append, ih (by omega), List.take_add_one, hr, List.filter_append, List.length_append]
      cases c : isGap rs[i] <;> simp [c]
  have := h rs.length (Nat.le_refl _)
  rw [List.take_length] at this
  exact this
theorem nGaps_take {rs : List Rw} {i : Nat} {r : Rw} (h : rs[i]? = some r) : nGaps (rs.take (i + 1)) = nGaps (rs.take i) + (if isGap r = true then 1 else 0) := by
  unfold nGaps
  rw [List.take_add_one, h, List.filter_append, List.length_append]
  cases c : isGap r <;> simp [c]
theorem nGaps_le (rs : List Rw) (i : Nat) : nGaps (rs.take i) ≤ nGaps rs := by
  unfold nGaps
  exact ((List.take_sublist i rs).filter isGap).length_le
theorem step_shp {d0 d d' : Hs} {r : Rw} (h : stepR d0 d r = some d') : Shp d d' := by
  cases r with
  | gap zs => cases h
  | deed e =>
    change (if unkOf d0 e = "" ∧ barOf d e = "" then some (nextOf d e) else none) = some d' at h
    split at h
    · cases h; exact Shp.next d e
    · cases h
  | sight g =>
    change (if isS d g = true then some d else none) = some d' at h
    split at h
    · cases h; exact Shp.refl d
    · cases h
theorem stepS_R {d0 d : Hs} {zs : List Int} {e : Dd} {d' : Hs} (h : stepS d0 d zs e = some d') : stepR d0 d (.deed e) = some d' := by
  unfold stepS at h
  split at h
  · exact h
  · cases h
def coD (c : List Dd) : PyData := .list (c.map ddD)
def OptFt (K : PySem.W.Frag) (H : Hp) (v : V) : Option (Nat × Int) → Prop
  | none => v = .non
  | some (i, k) => Dp K H v (.tuple [.int (i : Nat), .int k])
theorem OptSt.same {K : PySem.W.Frag} {H H' : Hp} {v : V} {o : Option Hs} (e : Same H H') (h : OptSt K H v o) : OptSt K H' v o := by
  cases o with
  | none => exact h
  | some d => exact Dp.same e _ _ h
section
variable {P : Program} {w : World} {K : PySem.W.Frag} {mg : Str → Option Value} {base : Heap}
theorem co_at {H : Hp} {v : V} {c : List Dd} (h : Dp K H v (coD c)) : ∃ a xs, v = .ref a ∧ SqL K H a xs ∧ DpAll K H xs (c.map ddD) := by
  cases h with
  | lst hs ha => exact ⟨_, _, rfl, hs, ha⟩
theorem gapT_at {H : Hp} {v : V} {zs : List Int} (h : Dp K H v (rwD (.gap zs))) : ∃ a t, v = .ref a ∧ SqT K H a [.str "gap", .ref t] ∧ SqT K H t (zs.map V.int) := by
  cases h with
  | tup hs ha =>
    cases ha with
    | cons d1 r =>
    cases r with
    | cons d2 r =>
    cases r
    cases d1
    cases d2 with
    | tup st hz =>
    have ez := ints_at hz
    subst ez
    exact ⟨_, _, rfl, hs, st⟩
def spFF (K : PySem.W.Frag) (C CL X : Addr) : Sp := fun vs H Q E => ∃ (g h cp : Addr) (d : Hs) (rs : List Rw) (xs : List V) (cs : List (List Dd)), vs = [.ref g, .ref cp] ∧ LogAt K C CL H g h d rs ∧ HouseF K C H h d ∧ Ls d ∧ SqL K H cp xs ∧ DpAll K H xs (cs.map coD) ∧ rs.length ≤ 100 ∧ (∀ r ∈ rs, RwOk d r) ∧ (∀ c ∈ cs, c.length ≤ 100 ∧ ∀ e ∈ c, Sm e) ∧
  (cs.length ≠ nGaps rs → Rp X H E) ∧ (cs.length = nGaps rs → ∀ v H', Same H H' → OptFt K H' v (faultOf d d rs cs 0) → Q v H')
theorem scFF : FnScope ["log", "course", "state", "used", "index", "row", "number", "deed"] ["log", "course"] (defScope sFF) := ⟨rfl, rfl, rfl, by decide +kernel, rfl, by decide +kernel, by decide +kernel⟩
theorem ok_ff {f gR gS pG gG C CL X : Addr} {fd fdR fdS fdG : FuncData} (F : Fun K "first_fault" "first_fault" sFF f fd) (B : Bt mg) (hc : HouseC K C) (LC : LogC K CL) (X1 : PErr K mg "InvalidCourse" X) (SR : OnceF P w K mg base "state_behind_row" 6 ["house", "state", "row"] (spSR K C) gR fdR) (SS : OnceF P w K mg base "state_behind_secret" 7 ["house", "state", "hands", "deed"] (spSS K C) gS fdS)
    (Pr : PropOf K CL "gaps" pG gG) (GG : FnOk P w K mg base CX0 1 gG fdG ["self"] (spLGaps K C CL)) (bG : Binds K fdG ["self"] []) :
    FnOk P w K mg base (L2.CX P w) 8 f fd ["log", "course"] (spFF K C CL X) := by
  refine F.okX scFF (fun vs H Q E h => ?_) (fun cdv A outer s H vs Q E hr h => ?_)
  · obtain ⟨g, h, cp, d, rs, xs, cs, rfl, _⟩ := h
    rfl
  · obtain ⟨g, h, cp, d, rs, xs, cs, rfl, la, hF, ls, hcp, dcs, lrs, okr, okc, kE, kQ⟩ := h
    have hr2 : Room 2 _ := hr.mono (by decide)
    have hr6 : Room 6 _ := hr.mono (by decide)
    have hr7 : Room 7 _ := hr
    have tk : Takes (cxOf (L2.CX P w) P w K mg base ["log", "course", "state", "used", "index", "row", "number", "deed"] "first_fault" (defScope sFF) f cdv A outer s H E) (fun cls d _ H => E cls d H) := takes_of rfl rfl rfl rfl
    refine ⟨_, (pss_cons (ps_if (pt_cmpR op_ne (pe_callB call_len_seq (by rfl) B.len PySem.boot_len (pa_cons (pv 1) pa_nil)) (pe_callB call_len_seq (by rfl) B.len PySem.boot_len (pa_cons (pe_prop (pv 0) LC.cl Pr GG hr2 bG .nil pass0 rfl) pa_nil)) (nomark _)) (pss_one (ps_raise rfl tk (pmk_own PySem.F.excBase_ValueError X1.ex X1.mg X1.kp (raises_own X1.sb X1.ty) rfl))) pss_nil) (pss_cons (ps_set (i := 2) scFF.nd rfl (.inl rfl) (pe_fld (pe_fld (pv 0) rfl) rfl)) (pss_cons (ps_set (i := 3) scFF.nd rfl (.inl rfl) pe_int) (pss_cons (ps_for (passes_of rfl) rfl (pi_enumE (by rfl) B.enu (pa_cons (pe_fld (pv 0) rfl) pa_nil)) (pg_tup (by rfl) (pgs_cons (pg_name (i := 4) scFF.nd rfl (.inl rfl)) (pgs_cons (pg_name (i := 5) scFF.nd rfl (.inl rfl)) pgs_nil))) (pss_one (ps_if (pt_cmpR op_eq (pe_ix ix_tup (pv 5) pe_int (fun _ _ => rfl)) pe_str (nomark _)) (pss_cons (ps_for (passes_of rfl) rfl (pi_enumE (by rfl) B.enu (pa_cons (pe_ix ix_list (pv 1) (pv 3) (fun _ _ => rfl)) pa_nil)) (pg_tup (by rfl) (pgs_cons (pg_name (i := 6) scFF.nd rfl (.inl rfl)) (pgs_cons (pg_name (i := 7) scFF.nd rfl (.inl rfl)) pgs_nil))) (pss_cons (ps_set (i := 2) scFF.nd rfl (.inl rfl) (pe_call SS.G hr7 rfl SS.m SS.k SS.b .nil pass0 (pa_cons (pe_fld (pv 0) rfl) (pa_cons (pv 2) (pa_cons (pe_ix ix_tup (pv 5) pe_int (fun _ _ => rfl)) (pa_cons (pv 7) pa_nil)))))) (pss_one (ps_if (pt_cmpR op_isN (pv 2) pe_non (nomark _)) (pss_one (ps_ret (pe_tup (pa_cons (pv 4) (pa_cons (pv 6) pa_nil))))) pss_nil)))) (pss_one (ps_aug (i := 3) scFF.nd rfl (.inl rfl) pe_int ip_add))) (pss_cons (ps_set (i := 2) scFF.nd rfl (.inl rfl) (pe_call SR.G hr6 rfl SR.m SR.k SR.b .nil pass0 (pa_cons (pe_fld (pv 0) rfl) (pa_cons (pv 2) (pa_cons (pv 5) pa_nil))))) (pss_one (ps_if (pt_cmpR op_isN (pv 2) pe_non (nomark _)) (pss_one (ps_ret (pe_tup (pa_cons (pv 4) (pa_cons (pe_un un_neg pe_int) pa_nil))))) pss_nil)))))) (pss_one (ps_ret pe_non)))))), ?_⟩
    have l5 := sizeLine_eq
    obtain ⟨dx, fs, t, ys, h0, h1, h2, h3, h4, h5⟩ := id la.ex
    obtain ⟨dh, vb, vt, vs', vst, q0, stf⟩ := id hF
    have ly : ys.length = rs.length := rows_len h5
    have lx : xs.length = cs.length := by rw [DpAll.len dcs, List.length_map]
    refine ⟨_, rfl, cp, _, rfl, .inl hcp, _, rfl, g, dx, fs, rfl, h0, g, h, d, rs, rfl, la, by omega, fun p H1 e1 np hp => ?_⟩
    refine ⟨p, _, rfl, .inl (SqL.of hp), rfl, _, rfl, ?_⟩
    rw [nv_len, gapIx_len, lx]
    by_cases hl : cs.length = nGaps rs
    case neg => exact iteTe (by rw [decZ, decide_eq_false (by omega)]; rfl) ((kE hl) H1 e1)
    refine iteFe (by rw [decZ, decide_eq_true (by omega)]; rfl) ?_
    have k := kQ hl
    refine ⟨_, rfl, g, CL, dx, _, _, rfl, e1 _ _ h0, LC.cl, LC.nH, h1, h, C, dh, _, _, rfl, e1 _ _ q0, hc.cl, hc.nSt, fs_state _ _ _ _ _, ?_⟩
    refine ⟨_, rfl, g, CL, dx, _, _, rfl, e1 _ _ h0, LC.cl, LC.nR, h2, t, ys, rfl, .inl ⟨SqT.same e1 h4, ?_⟩⟩
    refine for_enumT (K := K) (a := t) (xs := ys) (fun i σ H' => ∃ (v : V) (dc : Hs) (u4 u5 u6 u7 : Option V), σ = [some (.ref g), some (.ref cp), some v, some (.int (nGaps (rs.take i) : Nat)), u4, u5, u6, u7] ∧ Same H H' ∧ Dp K H' v (stD dc) ∧ Shp d dc ∧ faultOf d d rs cs 0 = faultOf d dc (rs.drop i) (cs.drop (nGaps (rs.take i))) i) ⟨vst, d, none, none, none, none, rfl, e1, Dp.same e1 _ _ stf.dp, Shp.refl d, rfl⟩ (fun i σ H' _ ⟨_, _, _, _, _, _, _, e, _⟩ => SqT.same e h4) ?_ ?_
    · rintro i y σ H2 T hi ⟨v, dc, u4, u5, u6, u7, rfl, e2, hv, shp, ef⟩ hT
      have f1 := same_upd (o := HO.tup [.int (i : Nat), y]) hT
      have e3 := e2.trans f1
      refine ⟨T, _, rfl, SqT.of upd_same, rfl, _, _, rfl, _, _, rfl, rfl, ?_⟩
      have hv1 := Dp.same f1 _ _ hv
      generalize L2.upd H2 T (.tup [.int (i : Nat), y]) = H3 at *
      obtain ⟨dd, hd1, hd2⟩ := DpAll.get h5 hi
      rw [List.getElem?_map] at hd1
      cases hz : rs[i]? with
      | none => rw [hz] at hd1; cases hd1
      | some r =>
        rw [hz] at hd1
        obtain rfl : rwD r = dd := Option.some.inj hd1
        obtain ⟨li, hri⟩ := List.getElem?_eq_some_iff.mp hz
        have rok := okr r (List.mem_of_getElem? hz)
        have hy := Dp.same e3 _ _ hd2
        have edrop : rs.drop i = r :: rs.drop (i + 1) := by rw [List.drop_eq_getElem_cons li, hri]
        have ng := nGaps_take hz
        rw [edrop] at ef
        cases r with
        | gap zs =>
          obtain ⟨ay, tz, rfl, sy, stz⟩ := gapT_at hy
          refine ⟨_, rfl, ay, _, 0, _, rfl, rfl, sy, atI_nat (j := 0) rfl, rfl, _, rfl, iteTe (decide_eq_true rfl) ?_⟩
          have ng' : nGaps (rs.take (i + 1)) = nGaps (rs.take i) + 1 := ng
          have nle := nGaps_le rs (i + 1)
          generalize hu : nGaps (rs.take i) = un at *
          obtain ⟨c, hcu⟩ : ∃ c, cs[un]? = some c := ⟨_, List.getElem?_eq_getElem (by omega)⟩
          obtain ⟨lu, hcu'⟩ := List.getElem?_eq_some_iff.mp hcu
          have ecs : cs.drop un = c :: cs.drop (un + 1) := by rw [List.drop_eq_getElem_cons lu, hcu']
          obtain ⟨lc, okd⟩ := okc c (List.mem_of_getElem? hcu)
          obtain ⟨cv, hcv, dcv⟩ := DpAll.at2 dcs (i := un) (d := coD c) (by rw [List.getElem?_map, hcu]; rfl)
          obtain ⟨ac, zs', rfl, sac, dac⟩ := co_at dcv
          rw [ecs] at ef
          have ef' : faultOf d d rs cs 0 = (match runS d zs dc c 0 with | .error k => some (i, (k : Int)) | .ok d' => faultOf d d' (rs.drop (i + 1)) (cs.drop (un + 1)) (i + 1)) := ef
          have lz' : zs'.length = c.length := by rw [DpAll.len dac, List.length_map]
          refine ⟨_, rfl, _, rfl, cp, _, _, .ref ac, rfl, rfl, sqL_same e3 hcp, atI_nat hcv, ac, zs', rfl, .inr ⟨sqL_same e3 sac, ?_⟩⟩
          refine for_enumL (K := K) (a := ac) (xs := zs') (fun j σ H' => ∃ (v : V) (dj : Hs) (w6 w7 : Option V), σ = [some (.ref g), some (.ref cp), some v, some (.int (un : Nat)), some (.int (i : Nat)), some (.ref ay), w6, w7] ∧ Same H H' ∧ Dp K H' v (stD dj) ∧ Shp d dj ∧ runS d zs dc c 0 = runS d zs dj (c.drop j) j) ⟨v, dc, u6, u7, rfl, e3, hv1, shp, rfl⟩ (fun j σ H' _ ⟨_, _, _, _, _, e, _⟩ => sqL_same e sac) ?_ ?_
          · rintro j z σ H4 T2 hj ⟨vj, dj, w6, w7, rfl, e4, hvj, shj, ej⟩ hT2
            have f2 := same_upd (o := HO.tup [.int (j : Nat), z]) hT2
            have e5 := e4.trans f2
            refine ⟨T2, _, rfl, SqT.of upd_same, rfl, _, _, rfl, _, _, rfl, rfl, ?_⟩
            have hvj1 := Dp.same f2 _ _ hvj
            generalize L2.upd H4 T2 (.tup [.int (j : Nat), z]) = H5 at *
            obtain ⟨dd2, hd3, hd4⟩ := DpAll.get dac hj
            rw [List.getElem?_map] at hd3
            cases hw : c[j]? with
            | none => rw [hw] at hd3; cases hd3
            | some e =>
              rw [hw] at hd3
              obtain rfl : ddD e = dd2 := Option.some.inj hd3
              obtain ⟨lj, hej⟩ := List.getElem?_eq_some_iff.mp hw
              rw [show c.drop j = e :: c.drop (j + 1) by rw [List.drop_eq_getElem_cons lj, hej]] at ej
              obtain ⟨dxx, hxx⟩ : ∃ x, x = dx := ⟨_, rfl⟩
              obtain ⟨ay2, tz2, eay, sy2, stz2⟩ := gapT_at (Dp.same (e5) _ _ hd2)
              cases eay
              refine ⟨_, rfl, g, CL, dx, _, _, rfl, e5 _ _ h0, LC.cl, LC.nH, h1, _, rfl, _, rfl, ay, _, 1, _, rfl, rfl, sy2, atI_nat (j := 1) rfl, _, rfl, h, tz2, vj, z, zs, d, dj, e, rfl, la.hh.nl (nl_same e5), hvj1, stz2, Dp.same e5 _ _ hd4, shj, Shp.ls shj ls, okd e (List.mem_of_getElem? hw), fun v' H6 e6 os => ?_⟩
              have e56 := e5.trans e6
              cases hst : stepS d dj zs e with
              | none =>
                rw [hst] at os
                obtain rfl : v' = .non := os
                have er : runS d zs dc c 0 = .error j := by rw [ej, runS, hst]
                rw [er] at ef'
                refine ⟨_, rfl, rfl, _, rfl, iteTe (by rfl) ⟨_, rfl, _, rfl, (by show 2 ≤ sizeLine; decide), fun tr htr => ?_⟩⟩
                refine k (.ref tr) _ (e56.trans (same_upd htr)) ?_
                rw [ef']
                exact .tup (SqT.of upd_same) (.cons (.int _) (.cons (.int _) .nil))
              | some d' =>
                rw [hst] at os
                have os' : Dp K H6 v' (stD d') := os
                have er : runS d zs dc c 0 = runS d zs d' (c.drop (j + 1)) (j + 1) := by rw [ej, runS, hst]
                obtain ⟨av, _, _, _, rfl, _⟩ := st_at os'
                refine ⟨_, rfl, rfl, _, rfl, iteFe (by rfl) ?_⟩
                exact ⟨_, d', _, _, rfl, e56, os', shj.trans (step_shp (stepS_R hst)), er⟩
          · rintro σ H4 ⟨vj, dj, w6, w7, rfl, e4, hvj, shj, ej⟩
            rw [lz', List.drop_length] at ej
            rw [show runS d zs dc c 0 = .ok dj from ej] at ef'
            refine ⟨_, rfl, _, _, rfl, rfl, ?_⟩
            refine ⟨vj, dj, _, _, _, _, by rw [ng']; rfl, e4, hvj, shj, ?_⟩
            rw [ng']
            exact ef'
        | deed e =>
          obtain ⟨yd, vs2, rfl, sy, dvs⟩ := dd_at hy
          refine ⟨_, rfl, yd, _, 0, _, rfl, rfl, sy, atI_nat (j := 0) rfl, rfl, _, rfl, iteFe (by rw [decS]; exact decide_eq_false (by cases e <;> (simp only [Dd.word]; decide +kernel))) ?_⟩
          have ng' : nGaps (rs.take (i + 1)) = nGaps (rs.take i) := ng
          refine ⟨_, rfl, g, CL, dx, _, _, rfl, e3 _ _ h0, LC.cl, LC.nH, h1, _, rfl, _, rfl, h, v, _, d, dc, .deed e, rfl, la.hh.nl (nl_same e3), hv1, hy, shp, Shp.ls shp ls, rok.2, fun v' H6 e6 os => ?_⟩
          have e56 := e3.trans e6
          cases hst : stepR d dc (.deed e) with
          | none =>
            rw [hst] at os
            obtain rfl : v' = .non := os
            have ef' : faultOf d d rs cs 0 = some (i, -1) := by rw [ef, faultOf, hst]
            refine ⟨_, rfl, rfl, _, rfl, iteTe (by rfl) ⟨_, rfl, 1, rfl, (by show 2 ≤ sizeLine; decide), fun tr htr => ?_⟩⟩
            refine k (.ref tr) _ (e56.trans (same_upd htr)) ?_
            rw [ef']
            exact .tup (SqT.of upd_same) (.cons (.int _) (.cons (.int _) .nil))
          | some d' =>
            rw [hst] at os
            have os' : Dp K H6 v' (stD d') := os
            obtain ⟨av, _, _, _, rfl, _⟩ := st_at os'
            refine ⟨_, rfl, rfl, _, rfl, iteFe (by rfl) ?_⟩
            refine ⟨_, d', _, _, _, _, by rw [ng']; rfl, e56, os', shp.trans (step_shp hst), ?_⟩
            rw [ng', ef, faultOf, hst]
        | sight gg =>
          obtain ⟨yd, vs2, rfl, sy, dvs⟩ := sg_at hy
          refine ⟨_, rfl, yd, _, 0, _, rfl, rfl, sy, atI_nat (j := 0) rfl, rfl, _, rfl, iteFe (by rw [decS]; exact decide_eq_false (by cases gg <;> (simp only [sgW]; decide +kernel))) ?_⟩
          have ng' : nGaps (rs.take (i + 1)) = nGaps (rs.take i) := ng
          have u0 : unkS dc gg = "" := (unkS_shp shp gg).symm.trans rok.1
          refine ⟨_, rfl, g, CL, dx, _, _, rfl, e3 _ _ h0, LC.cl, LC.nH, h1, _, rfl, _, rfl, h, v, _, d, dc, .sight gg, rfl, la.hh.nl (nl_same e3), hv1, hy, shp, Shp.ls shp ls, ⟨rok.2.2, unk_knS rok.2.1 u0⟩, fun v' H6 e6 os => ?_⟩
          have e56 := e3.trans e6
          cases hst : stepR d dc (.sight gg) with
          | none =>
            rw [hst] at os
            obtain rfl : v' = .non := os
            have ef' : faultOf d d rs cs 0 = some (i, -1) := by rw [ef, faultOf, hst]
            refine ⟨_, rfl, rfl, _, rfl, iteTe (by rfl) ⟨_, rfl, 1, rfl, (by show 2 ≤ sizeLine; decide), fun tr htr => ?_⟩⟩
            refine k (.ref tr) _ (e56.trans (same_upd htr)) ?_
            rw [ef']
            exact .tup (SqT.of upd_same) (.cons (.int _) (.cons (.int _) .nil))
          | some d' =>
            rw [hst] at os
            have os' : Dp K H6 v' (stD d') := os
            obtain ⟨av, _, _, _, rfl, _⟩ := st_at os'
            refine ⟨_, rfl, rfl, _, rfl, iteFe (by rfl) ?_⟩
            refine ⟨_, d', _, _, _, _, by rw [ng']; rfl, e56, os', shp.trans (step_shp hst), ?_⟩
            rw [ng', ef, faultOf, hst]
    · rintro σ H2 ⟨v, dc, u4, u5, u6, u7, rfl, e2, hv, shp, ef⟩
      rw [ly, List.drop_length] at ef
      exact k .non H2 e2 (by rw [ef]; rfl)
end
end Kw

set_option Elab.async false
set_option linter.all false
set_option maxRecDepth 100000
set_option maxHeartbeats 4000000
/-! Dicts whose keys are tuples of any depth. -/
namespace Kw
open PySem PySem.Spec PyProof.Rows L2
mutual
def keyOf : PyData → NestedKey
  | .int i => .num i
  | .str x => .text x
  | .tuple ds => .tup (keysOf ds)
  | _ => .none
def keysOf : List PyData → List NestedKey
  | [] => []
  | d :: ds => keyOf d :: keysOf ds
end
mutual
def keyable : PyData → Bool
  | .int _ => true
  | .str _ => true
  | .tuple ds => keyables ds
  | _ => false
def keyables : List PyData → Bool
  | [] => true
  | d :: ds => keyable d && keyables ds
end
section
variable {X : Cx} {pins : List (Addr × Obj)} {σ : L2.St} {H : Hp} {s : Shared}
mutual
theorem Dp.nested (I : L2.Inv X pins σ H s) : ∀ (d : PyData) (v : V) (u : Value), keyable d = true → Dp X.K H v d → RelV v u → NestedIs s.heap (keyOf d) u
  | .int i, _, _, _, h, r => by
    cases h
    obtain ⟨t, rfl⟩ := r
    exact NestedIs.int i t
  | .str x, _, _, _, h, r => by
    cases h
    obtain ⟨t, rfl⟩ := r
    exact NestedIs.text x t
  | .tuple ds, _, _, k, h, r => by
    cases h with
    | tup hs ha =>
      cases r
      obtain ⟨its, rv, ⟨o, ho, hc, n, hd⟩, _⟩ := I.tuple hs
      rw [keyOf]
      exact NestedIs.tup ho hc hd (by simpa using Dp.nestedAll I ds _ its k ha rv)
  | .none, _, _, k, _, _ => by cases k
  | .bool _, _, _, k, _, _ => by cases k
  | .list _, _, _, k, _, _ => by cases k
  | .dict _, _, _, k, _, _ => by cases k
theorem Dp.nestedAll (I : L2.Inv X pins σ H s) : ∀ (ds : List PyData) (vs : List V) (us : List Value), keyables ds = true → DpAll X.K H vs ds → Vals vs us → NestedAll s.heap (keysOf ds) us
  | [], _, _, _, h, r => by
    cases h
    cases r
    exact NestedAll.nil
  | d :: ds, _, _, k, h, r => by
    cases h with
    | cons h1 h2 =>
      cases r with
      | cons r1 r2 =>
        rw [keyables, Bool.and_eq_true] at k
        rw [keysOf]
        exact NestedAll.cons (Dp.nested I d _ _ k.1 h1 r1) (Dp.nestedAll I ds _ _ k.2 h2 r2)
end
end
/-! ### the dict -/
abbrev KVs := List (NestedKey × Addr × V)
def DKR (kvs : KVs) (xs : List (NestedKey × Addr × Value)) : Prop := Paired (fun p q => p.1 = q.1 ∧ p.2.1 = q.2.1 ∧ RelV p.2.2 q.2.2) kvs xs
def DXok (P : Program) (w : World) (a : Addr) (kvs : KVs) (h : Heap) : Prop := kvs.length ≤ sizeLine ∧ (a == sysModules) = false ∧ ∃ xs, DKR kvs xs ∧ ∃ o es ep, h.get? a = some o ∧ o.ExactDict ∧ o.data = .dict es ep ∧ es.toList = xs.map (entryOfKey (nestedKind P w)) ∧ (xs.map (·.1)).Nodup
/-- a dict with such keys, each with the place of its own tuple -/
def DX (P : Program) (w : World) (a : Addr) (kvs : KVs) : HO := .ext (DXok P w a kvs)
theorem DXok.stay {P : Program} {w : World} {a : Addr} {kvs : KVs} {h1 h2 : Heap} (x : DXok P w a kvs h1) (k : ∀ o, h1.get? a = some o → h2.get? a = some o) : DXok P w a kvs h2 := by
  obtain ⟨z, hd, xs, r, o, es, ep, e, c⟩ := x
  exact ⟨z, hd, xs, r, o, es, ep, k _ e, c⟩
theorem dx_ok {P : Program} {w : World} {H : Hp} {a : Addr} {kvs : KVs} {h : Heap} (x : DXok P w a kvs h) : ObjOk P w H h a (DX P w a kvs) := by
  refine ⟨x, ?_, fun h1 h2 y k => y.stay k⟩
  obtain ⟨_, _, _, _, o, _, _, e, _⟩ := x
  exact ⟨o, e⟩
def kvAt (kvs : KVs) (k : NestedKey) : Option V := (kvs.find? fun x => decide (x.1 = k)).map (·.2.2)
/-- the keys' tuples stand -/
def KeysAt (K : PySem.W.Frag) (H : Hp) (kvs : KVs) : Prop := ∀ x ∈ kvs, ∃ d, keyable d = true ∧ (keyOf d).depth ≤ 8 ∧ keyOf d = x.1 ∧ Dp K H (.ref x.2.1) d
theorem DKR.at {kvs : KVs} {xs : List (NestedKey × Addr × Value)} (r : DKR kvs xs) (k : NestedKey) : (kvAt kvs k = none ∧ atKey xs k = none) ∨ ∃ v p, kvAt kvs k = some v ∧ atKey xs k = some p ∧ RelV v p.2 := by
  unfold DKR at r
  induction r with
  | nil => exact .inl ⟨rfl, rfl⟩
  | @cons p q kvs xs h t ih =>
    obtain ⟨e1, e2, e3⟩ := h
    by_cases c : p.1 = k
    · exact .inr ⟨p.2.2, q.2, by simp [kvAt, c], by simp [atKey, ← e1, c], e3⟩
    · have c2 : ¬ q.1 = k := fun z => c (e1.trans z)
      rcases ih with ⟨h1, h2⟩ | ⟨v, z, h1, h2, h3⟩
      · refine .inl ⟨?_, ?_⟩
        · simpa [kvAt, List.find?_cons, c] using h1
        · simpa [atKey, List.find?_cons, c2] using h2
      · refine .inr ⟨v, z, ?_, ?_, h3⟩
        · simpa [kvAt, List.find?_cons, c] using h1
        · simpa [atKey, List.find?_cons, c2] using h2
theorem DKR.keys {kvs : KVs} {xs : List (NestedKey × Addr × Value)} (r : DKR kvs xs) : ∀ y ∈ xs, ∃ x ∈ kvs, x.1 = y.1 ∧ x.2.1 = y.2.1 := by
  unfold DKR at r
  induction r with
  | nil => intro y hy; cases hy
  | @cons p q kvs xs h t ih =>
    intro y hy
    rcases List.mem_cons.mp hy with rfl | hy
    · exact ⟨p, List.mem_cons_self, h.1, h.2.1⟩
    · obtain ⟨x, hx, e⟩ := ih y hy
      exact ⟨x, List.mem_cons_of_mem _ hx, e⟩
theorem DKR.len {kvs : KVs} {xs : List (NestedKey × Addr × Value)} (r : DKR kvs xs) : xs.length = kvs.length := (Paired.length r).symm
section
variable {X : Cx} {pins : List (Addr × Obj)} {σ : L2.St} {H : Hp} {s : Shared} {a b : Addr} {kvs : KVs}
theorem dx_of (I : L2.Inv X pins σ H s) (e : H a = some (DX X.prog X.w a kvs)) (ks : KeysAt X.K H kvs) : kvs.length ≤ sizeLine ∧ (a == sysModules) = false ∧ ∃ xs, DKR kvs xs ∧ s.heap.DictOfH (nestedKind X.prog X.w) a xs := by
  obtain ⟨⟨z, hd, xs, r, o, es, ep, h1, h2, h3, h4, h5⟩, _⟩ := I.hok a _ e
  refine ⟨z, hd, xs, r, o, es, ep, h1, h2, h3, h4, fun y hy => ?_, h5⟩
  obtain ⟨x, hx, e1, e2⟩ := r.keys y hy
  obtain ⟨d, kd, dep, ek, dp⟩ := ks x hx
  rw [← e1, ← e2, ← ek]
  exact ⟨Dp.nested I d _ _ kd dp rfl, dep⟩
theorem key_is (I : L2.Inv X pins σ H s) {d : PyData} (kd : keyable d = true) (dep : (keyOf d).depth ≤ 8) (dp : Dp X.K H (.ref b) d) : (nestedKind X.prog X.w).is s.heap (keyOf d) b := ⟨Dp.nested I d _ _ kd dp rfl, dep⟩
end
section
variable {X : Cx}
/-- {y: v} -/
def tDispX (K : PySem.W.Frag) (P : Program) (w : World) (tk tv : TE) : TE := fun σ H Q => ∀ p, H p = none → tk σ (L2.upd H p (DX P w p [])) fun y H1 => tv σ H1 fun v H2 => ∃ (b : Addr) (d : PyData), y = .ref b ∧ H2 p = some (DX P w p []) ∧ keyable d = true ∧ (keyOf d).depth ≤ 8 ∧ Dp K H2 (.ref b) d ∧ Q (.ref p) (L2.upd H2 p (DX P w p [(keyOf d, b, v)]))
variable {o i value : Expr} {pos pos' : Pos} {td ty tv tk : TE}
theorem dx_write {pins : List (Addr × Obj)} {σ : L2.St} {H : Hp} {s : Shared} {a : Addr} {kvs kvs' : KVs} {xs' : List (NestedKey × Addr × Value)} {h' : Heap} {t : Nat} (I : L2.Inv X pins σ H s) (e : H a = some (DX X.prog X.w a kvs)) (hd : (a == sysModules) = false) (r : DKR kvs' xs') (z : kvs'.length ≤ sizeLine) (hm : h'.DictOfH (nestedKind X.prog X.w) a xs') (hs : Heap.SameBut a s.heap h') : L2.Inv X pins σ (L2.upd H a (DX X.prog X.w a kvs')) { s with heap := h', toks := t } := by
  obtain ⟨q, es, ep, hq, h2, h3, h4, _, h5⟩ := hm
  exact d_write I (by rw [e]; exact True.intro) hs ⟨q, hq⟩ (dx_ok ⟨z, hd, xs', r, q, es, ep, hq, h2, h3, h4, h5⟩)
theorem pe_dispX {k v : Expr} (hu : X.A.units + 8 < cLine) (hk : PE X k tk) (hv : PE X v tv) : PE X (.Dict [some k] [v] pos) (tDispX X.K X.prog X.w tk tv) := by
  refine ⟨fun pins s σ H Q I q => ?_⟩
  have hn := I.hok.fresh (Nat.le_refl s.heap.objs.size)
  have hsm : (s.heap.objs.size == sysModules) = false := beq_eq_false_iff_ne.mpr (Ne.symm (Nat.ne_of_lt I.big))
  have I1 := I.laid (a := s.heap.objs.size) (o := DX X.prog X.w s.heap.objs.size []) (h' := s.heap.push { cls := .type "dict", data := .dict #[] }) (t' := s.toks) (fun _ _ q => Heap.get?_push_of_some _ q) (Nat.le_refl _)
    (dx_ok ⟨Nat.zero_le _, hsm, [], .nil, _, #[], 0, Heap.get?_push_size _ rfl, ⟨rfl, rfl, rfl⟩, rfl, rfl, List.nodup_nil⟩)
  have shape : (evalEachOpt [some k] X.env).zip ((evalEach [v] X.env).map fun v => do let x ← v; standAt pos; pure x) = (pairTrees [some k] [v] X.env pos).map fun p => (some p.1, p.2) := zip_pairTrees [some k] [v] X.env pos rfl rfl
  rw [arm_eval_Dict, shape, dictDisplay_pairs _ (by simp [pairTrees]) (by simp [pairTrees])]
  refine wpAny_bind (wpAny_standAt (wpAny_bind (wpAny_subDictH (knd := nestedKind X.prog X.w) (Q := fun d s' => wpAny (model X.prog X.w) X.A (pure (Value.ref d)) (EP X pins σ Q) X.xe s') hu (by simp [pairTrees]) ?_)))
  refine pairTrees_cons_walk (thn (hk.run pins _ σ _ _ I1 (q _ hn)) fun u s1 ⟨y, H1, I2, ry, q1⟩ => thn (hv.run pins s1 σ H1 _ I2 q1) fun u2 s2 ⟨v', H2, I3, rv, b, d, ey, e, kd, dep, dp, q2⟩ => pairTrees_nil_walk ?_)
  subst ey
  obtain rfl : u = Value.ref b := ry
  obtain ⟨z, hd, xs, rr, hm⟩ := dx_of I3 e (fun x hx => nomatch hx)
  cases rr
  refine ⟨[(keyOf d, b, u2)], ⟨rfl, rfl, key_is I3 kd dep dp, trivial⟩, hm, fun h' tk hk' hs' => wpAny_pure ⟨.ref _, _, ?_, rfl, q2⟩⟩
  have e2 : storedAllH [] [(keyOf d, b, u2)] = [(keyOf d, b, u2)] := rfl
  rw [e2] at hk'
  exact dx_write I3 e hd (.cons ⟨rfl, rfl, rv⟩ .nil) (by rw [sizeLine_eq]; simp) hk' hs'
end
end Kw


set_option Elab.async false
set_option linter.all false
set_option maxRecDepth 100000
set_option maxHeartbeats 4000000
/-! Dicts whose keys are tuples of any depth: a walk, dict(pairs), list(dict). -/
namespace Kw
open PySem PySem.Spec PyProof.Rows L2
def kRefs (kvs : KVs) : List V := kvs.map fun x => V.ref x.2.1
section
variable {X : Cx} {pins : List (Addr × Obj)} {σ : L2.St} {H : Hp} {s : Shared} {d : Addr} {o : Obj}
theorem rd_dx {kvs : KVs} (I : L2.Inv X pins σ H s) (h : Rd H d (DX X.prog X.w d kvs)) : DXok X.prog X.w d kvs s.heap := by
  have x := h.ok I.hok
  exact x.1
theorem ent_dx {a : Addr} {kvs : KVs} {h : Heap} (x : DXok X.prog X.w a kvs h) : ∃ o es ep, h.get? a = some o ∧ o.ExactDict ∧ o.data = .dict es ep ∧ es.size = kvs.length ∧ ∀ (i : Nat) (k : NestedKey) (b : Addr) (v : V), kvs[i]? = some (k, b, v) → ∃ en : DictEntry, es[i]? = some en ∧ en.key = .ref b := by
  obtain ⟨z, hd, xs, r, o, es, ep, ho, hx, hdt, he, _⟩ := x
  refine ⟨o, es, ep, ho, hx, hdt, ?_, fun i k b v e => ?_⟩
  · have l1 : es.size = xs.length := size_of_entries he
    have l2 := r.len
    omega
  · obtain ⟨y, hy, e1, e2, _⟩ := paired_get r e
    have q := entry_at he i
    rw [hy] at q
    exact ⟨_, q, by rw [show b = y.2.1 from e2]; rfl⟩
theorem Inv.frzX {kvs : KVs} (I : L2.Inv X pins σ H s) (h : H d = some (.frz o (DX X.prog X.w d kvs))) :
    (d == sysModules) = false ∧ s.heap.get? d = some o ∧ o.ExactDict ∧ ∃ (es : Array DictEntry) (ep : Nat), o.data = .dict es ep ∧ es.size = kvs.length ∧
      ∀ (i : Nat) (k : NestedKey) (b : Addr) (v : V), kvs[i]? = some (k, b, v) → ∃ en : DictEntry, es[i]? = some en ∧ en.key = .ref b := by
  obtain ⟨hd, x⟩ := I.hok d _ h
  have x' : DXok X.prog X.w d kvs s.heap := x.1
  obtain ⟨o', es, ep, ho, hx, hdt, hsz, ent⟩ := ent_dx x'
  rw [hd] at ho
  cases ho
  exact ⟨x'.2.1, hd, hx, es, ep, hdt, hsz, ent⟩
end
/-- the keys of the locked dict at d: the key's own tuple -/
def ItkX (P : Program) (w : World) (d : Addr) (o : Obj) (kvs : KVs) : L2.It :=
  ⟨fun i H => H d = some (.frz o (DX P w d kvs)) ∧ i < kvs.length, fun i H x H' => H' = H ∧ ∃ (k : NestedKey) (b : Addr) (v : V), kvs[i]? = some (k, b, v) ∧ x = .ref b, fun i H => H d = some (.frz o (DX P w d kvs)) ∧ kvs.length ≤ i⟩
section
variable {P : Program} {w : World} {K : PySem.W.Frag} {tg : Expr} {d : Addr} {o : Obj} {es : Array DictEntry} {ep : Nat}
theorem turn_keysX {kvs : KVs} (it : Addr) (hod : o.data = .dict es ep) : Turn P w K tg (ItkX P w d o kvs) [it] it (fun i h => h.IsKeyIter it d i kvs.length ep) where
  mem := by simp
  obj := fun i h st b hb => by
    have e : b = it := by simpa using hb
    subst e
    obtain ⟨oi, e, c, dd⟩ := st
    exact ⟨oi, e, fun v z => by rw [dd] at z; cases z⟩
  keep := fun i h h' st k => st.at fun oi e => k it (by simp) oi e
  item := by
    intro X hP hw hK hc i pins s σ H E I hf st hg
    subst hP hw hK
    obtain ⟨hd, hi⟩ := hg
    obtain ⟨f0, f1, f2, f3, f4, f5⟩ := hf it (by simp)
    obtain ⟨hs, hgd, hx, es', ep', hdt, hsz, ent⟩ := Inv.frzX I hd
    obtain ⟨rfl, rfl⟩ := dict_ep hod hdt
    obtain ⟨⟨k, b, v⟩, hkv⟩ : ∃ p, kvs[i]? = some p := ⟨kvs[i], List.getElem?_eq_getElem hi⟩
    obtain ⟨en, hen, hkey⟩ := ent i k b v hkv
    refine next_key_item st hgd hdt hsz hen fun h' st' sb => ?_
    have I1 : Inv X pins σ H { s with heap := h' } := I.turned (t' := s.toks) (fun b ob hb e => (sb.2 b hb).trans e) f0 f1 f3 f4 f5
    obtain ⟨oi, e, c, dd⟩ := id st'
    exact ⟨en.key, rfl, go_of (s := { s with heap := h' }) e c dd (by decide) ⟨.ref b, H, I1, hkey, ⟨rfl, k, b, v, hkv, rfl⟩, st', fun b hb => (hf b hb).1⟩⟩
  done := by
    intro X hP hw hK hc i pins s σ H E I hf st hg
    subst hP hw hK
    obtain ⟨hd, hi⟩ := hg
    obtain ⟨f0, f1, f2, f3, f4, f5⟩ := hf it (by simp)
    obtain ⟨hs, hgd, hx, es', ep', hdt, hsz, ent⟩ := Inv.frzX I hd
    obtain ⟨rfl, rfl⟩ := dict_ep hod hdt
    exact next_key_end (I.ok.hd hc) st hgd hdt hsz hi fun h' eb => ⟨rfl, I.turned (t' := s.toks) (fun b ob hb e => eb b ob hb e) f0 f1 f3 f4 f5⟩
  self := fun A i s Q E st h => by
    refine wpAny_pyIter_slot st.typeIs F.slot_dict_keyiterator_iter (wpAny_call_entry F.slot_dict_keyiterator_iter st.typeIs F.entry_dict_keyiterator_iter ?_ (F.args_dict_keyiterator_iter_1 _))
    show wpAny _ _ (ret (.ref it)) _ _ s
    exact wpAny_pure ⟨_, rfl, "dict_keyiterator", _, st.typeIs, F.slot_dict_keyiterator_next.lookup, h⟩
end
def iKeysX (P : Program) (w : World) (td : TE) : TI := fun σ H R => td σ H fun x H1 => ∃ (d : Addr) (o : Obj) (kvs : KVs), x = .ref d ∧ H1 d = some (.frz o (DX P w d kvs)) ∧ R (ItkX P w d o kvs) H1
section
variable {X : Cx} {tg e k v : Expr} {td tk tv : TE} {pos : Pos}
theorem pi_keysX (he : PE X e td) : PI X tg e (iKeysX X.prog X.w td) := by
  refine ⟨fun pins s σ H R I h => ?_⟩
  refine thn (he.run pins s σ H _ I h) fun u s1 ⟨x, H1, I1, rx, d, o, kvs, ex, hd, q⟩ => ?_
  subst ex
  obtain rfl : u = Value.ref d := rx
  obtain ⟨hs, hgd, hx, es, ep, hdt, hsz, ent⟩ := Inv.frzX I1 hd
  refine iter_keys hs hgd hx hdt (pi_one (tk := s1.toks) I1 _ (turn_keysX _ hdt) ⟨_, Heap.get?_push_size _ rfl, rfl, ?_⟩ q)
  rw [hsz] <;> rfl
/-- the object that e made stays locked from now on -/
def tFrzE (t : TE) : TE := fun σ H Q => t σ H fun x H' => ∃ (p : Addr) (u : HO), x = .ref p ∧ H' p = some u ∧ Mut (some u) ∧ ∀ od, Q (.ref p) (L2.upd H' p (.frz od u))
theorem pe_frz {t : TE} (h : PE X e t) : PE X e (tFrzE t) := by
  refine ⟨fun pins s σ H Q I q => ?_⟩
  refine thn (h.run pins s σ H _ I q) fun u s1 ⟨x, H1, I1, rx, p, u', ex, hu', mu, q1⟩ => ?_
  obtain ⟨od, I2⟩ := Inv.lock I1 hu' mu
  exact ⟨x, _, I2, rx, by rw [ex]; exact q1 od⟩
theorem stAll1 {xs : List (NestedKey × Addr × Value)} (h : xs.length ≤ 1) : storedAllH [] xs = xs := by
  cases xs with
  | nil => rfl
  | cons x xs =>
    cases xs with
    | nil =>
      unfold storedAllH storedH
      simp [atKey]
    | cons _ _ => simp at h
/-- dict(l), l a list of at most one pair -/
theorem call_dictX1 (hc : X.calm = true) (hu : X.A.units + 10 < cLine) : CallR X (.type "dict") (fun xs H Q => ∃ (a : Addr) (ps : List Addr) (kvs : KVs), xs = [.ref a] ∧ SqL X.K H a (ps.map V.ref) ∧ Paired (fun p kv => SqT X.K H p [.ref kv.2.1, kv.2.2]) ps kvs ∧ kvs.length ≤ 1 ∧ KeysAt X.K H kvs ∧
    ∀ p, H p = none → Q (.ref p) (L2.upd H p (DX X.prog X.w p kvs))) := by
  intro pins s σ H xs us Q I r q
  obtain ⟨a, ps, kvs, ex, hq, hp, hl1, ks, q⟩ := q
  subst ex
  obtain ⟨u, eu, rx⟩ := vals1 r
  subst eu
  cases rx
  obtain ⟨its, rv, pl, hz⟩ := I.list hq
  have ei := refs_at rv
  subst ei
  obtain ⟨o, n, ho, hcl, hd, hdat⟩ := pl
  have hm : (s.heap.objs.size == sysModules) = false := beq_eq_false_iff_ne.mpr (Nat.ne_of_gt I.big)
  obtain ⟨xs, rr, hpr, hkx⟩ : ∃ xs : List (NestedKey × Addr × Value), DKR kvs xs ∧ PairItems s.heap (ps.map Value.ref).toArray (fun j => ps[j]?.getD 0) (xs.map fun x => (Value.ref x.2.1, x.2.2)) ∧ ∀ x ∈ xs, (nestedKind X.prog X.w).is s.heap x.1 x.2.1 := by
    cases hp with
    | nil => exact ⟨[], .nil, ⟨rfl, fun j k v e => by simp at e⟩, fun x hx => nomatch hx⟩
    | @cons p kv ps' kvs' h1 t =>
      have : kvs' = [] := by
        cases kvs' with
        | nil => rfl
        | cons _ _ => simp at hl1
      subst this
      cases t
      obtain ⟨tits, trv, tt, _⟩ := I.tuple h1
      obtain ⟨u, y, ei, ru, ry⟩ := vals2 trv
      subst ei
      obtain rfl : u = Value.ref kv.2.1 := ru
      obtain ⟨d, kd, dep, ek, dp⟩ := ks kv List.mem_cons_self
      refine ⟨[(kv.1, kv.2.1, y)], .cons ⟨rfl, rfl, ry⟩ .nil, ⟨rfl, fun j k v e => ?_⟩, fun x hx => ?_⟩
      · cases j with
        | zero =>
          have e' : (Value.ref kv.2.1, y) = (k, v) := Option.some.inj e
          cases e'
          exact ⟨rfl, .inl tt⟩
        | succ j => simp at e
      · obtain rfl := List.mem_singleton.mp hx
        refine ⟨?_, by rw [← ek]; exact dep⟩
        show NestedIs s.heap kv.1 (Value.ref kv.2.1)
        rw [← ek]
        exact Dp.nested I d _ _ kd dp rfl
  have lx : xs.length ≤ 1 := by rw [rr.len]; exact hl1
  refine call_dict_pairsH (knd := nestedKind X.prog X.w) (ps := xs) (PairArg.list a _ _ _) (I.ok.hd hc) (show X.A.in1.in1.units + 8 < cLine by show X.A.units + 1 + 1 + 8 < cLine; omega) ⟨⟨o, n, ho, hcl, hd, hdat⟩, hpr⟩ ?_ ?_ ?_ ?_
  · refine ⟨by simp, fun i key v h => ?_⟩
    rw [PairRel, List.getElem?_map] at h
    cases hx : xs[i]? with
    | none => rw [hx] at h; cases h
    | some x =>
      rw [hx] at h
      cases h
      exact ⟨x.1, x.2.1, rfl, rfl⟩
  · intro h' hk x hx
    exact (nestedKind_stays (prog := X.prog) (w := X.w)).stays (fun b o vs n e _ => hk b o (Nat.ne_of_lt (Heap.lt_size e)) (fun z => nomatch z) e) (hkx x hx)
  · rw [List.length_map, sizeLine_eq]; omega
  · intro h' tk hd' hk
    rw [stAll1 lx] at hd'
    obtain ⟨o', es, ep, h1, h2, h3, h4, _, h5⟩ := hd'
    exact ⟨.ref s.heap.objs.size, _, I.laid (t' := tk) (fun b u e => hk b u (fun z => nomatch z) e) (Nat.le_refl _) (dx_ok ⟨by rw [sizeLine_eq]; omega, hm, xs, rr, o', es, ep, h1, h2, h3, h4, h5⟩), rfl, q _ (I.hok.fresh (Nat.le_refl _))⟩
/-- list(d) -/
theorem call_listX (hc : X.calm = true) : CallR X (.type "list") (fun xs H Q => ∃ (d : Addr) (kvs : KVs), xs = [V.ref d] ∧ Rd H d (DX X.prog X.w d kvs) ∧ ∀ p, H p = none → Q (.ref p) (L2.upd H p (.lst (kRefs kvs)))) := by
  intro pins s σ H xs us Q I r h
  obtain ⟨d, kvs, rfl, hd, q⟩ := h
  obtain ⟨u, rfl, rx⟩ := r.one
  cases rx
  have x := rd_dx I hd
  obtain ⟨o, es, ep, ho, hx, hdt, hsz, ent⟩ := ent_dx x
  have z := x.1
  refine PySem.W.kdl_call (kdl_raw x.2.1 hx hdt) (I.ok.hd hc) ho (by omega) fun h' tk acc' c' kp e it => ?_
  have ea : acc'.toList = kvs.map fun x => Value.ref x.2.1 := by
    have hl : acc'.toList.length = kvs.length := by rw [Array.length_toList, it.1]; exact hsz
    apply List.ext_getElem?
    intro j
    rw [List.getElem?_map]
    cases hj : acc'.toList[j]? with
    | none =>
      have h1 := List.getElem?_eq_none_iff.mp hj
      rw [List.getElem?_eq_none (by omega)]
      rfl
    | some v =>
      obtain ⟨en, hen, hv⟩ := it.2 j v (by rw [← Array.getElem?_toList]; exact hj)
      have h2 : j < kvs.length := by
        have := (List.getElem?_eq_some_iff.mp hj).1
        omega
      obtain ⟨⟨k, b, y⟩, hb⟩ : ∃ p, kvs[j]? = some p := ⟨kvs[j], List.getElem?_eq_getElem h2⟩
      obtain ⟨en', h3, h4⟩ := ent j k b y hb
      rw [hen] at h3
      cases h3
      rw [hb, hv, h4]
      rfl
  have rv : Vals (kRefs kvs) acc'.toList := by
    rw [ea]
    unfold kRefs
    have := vals_refs (kvs.map fun x => x.2.1)
    rw [List.map_map, List.map_map] at this
    exact this
  have hz : (kRefs kvs).length ≤ sizeLine := by unfold kRefs; rw [List.length_map]; exact z
  refine ⟨.ref s.heap.objs.size, _, I.laid (t' := tk) (o := .lst (kRefs kvs)) kp (Nat.le_refl _) ?_, rfl, q _ (I.hok.fresh (Nat.le_refl _))⟩
  exact ⟨hz, acc'.toList, c', rv, by rw [Array.toArray_toList]; exact e⟩
end
end Kw

set_option Elab.async false
set_option linter.all false
set_option maxRecDepth 100000
set_option maxHeartbeats 4000000
namespace Kw
open PySem PySem.Spec PyProof.Rows L2
abbrev sKnown : Stmt := top 83
/-! ### deeds are told apart -/
noncomputable instance decDd : DecidableEq Dd := fun _ _ => Classical.propDecidable _
theorem ib (a b : Nat) : (((a : Nat) : Int) == ((b : Nat) : Int)) = decide (a = b) := by
  by_cases h : a = b
  · subst h; simp
  · have h2 : ¬ (a : Int) = (b : Int) := by omega
    simp [h, h2]
theorem eqv_dd (e f : Dd) : PyData.eqv (ddD e) (ddD f) = decide (e = f) := by
  have w0 : (("give" : Str) == "put") = false := by decide +kernel
  have w1 : (("give" : Str) == "take") = false := by decide +kernel
  have w2 : (("give" : Str) == "seal") = false := by decide +kernel
  have w3 : (("give" : Str) == "break") = false := by decide +kernel
  have w4 : (("put" : Str) == "give") = false := by decide +kernel
  have w5 : (("put" : Str) == "take") = false := by decide +kernel
  have w6 : (("put" : Str) == "seal") = false := by decide +kernel
  have w7 : (("put" : Str) == "break") = false := by decide +kernel
  have w8 : (("take" : Str) == "give") = false := by decide +kernel
  have w9 : (("take" : Str) == "put") = false := by decide +kernel
  have w10 : (("take" : Str) == "seal") = false := by decide +kernel
  have w11 : (("take" : Str) == "break") = false := by decide +kernel
  have w12 : (("seal" : Str) == "give") = false := by decide +kernel
  have w13 : (("seal" : Str) == "put") = false := by decide +kernel
  have w14 : (("seal" : Str) == "take") = false := by decide +kernel
  have w15 : (("seal" : Str) == "break") = false := by decide +kernel
  have w16 : (("break" : Str) == "give") = false := by decide +kernel
  have w17 : (("break" : Str) == "put") = false := by decide +kernel
  have w18 : (("break" : Str) == "take") = false := by decide +kernel
  have w19 : (("break" : Str) == "seal") = false := by decide +kernel
  cases e <;> cases f <;> simp [ddD, Dd.word, Dd.hand, Dd.tail, PyData.eqv, PyData.eqvAll, eqv_it, ib, w0, w1, w2, w3, w4, w5, w6, w7, w8, w9, w10, w11, w12, w13, w14, w15, w16, w17, w18, w19] <;> simp only [Bool.decide_and]
theorem any_dd (e : Dd) (l : List Dd) : ((l.map ddD).any fun z => PyData.eqv z (ddD e)) = decide (e ∈ l) := by
  induction l with
  | nil => simp
  | cons a l ih =>
    rw [List.map_cons, List.any_cons, ih, eqv_dd]
    by_cases h1 : a = e <;> by_cases h2 : e ∈ l <;> simp [h1, h2, eq_comm]
    · intro h3; exact h1 h3.symm
theorem shaped_dd1 (e : Dd) : SeqAt.shaped (ddD e) = true := by
  have h := sd_dd e
  simp [SeqAt.shaped, h.lay]
  exact Nat.le_trans h.dep (by decide)
/-- what a house knows of a deed -/
def knB (d : Hs) : Dd → Bool
  | .give h p o => decide (((h : Nat) : Int) < d.hands) && (decide (inH d p) && decide (((o : Nat) : Int) < d.hands))
  | .put h p b => decide (((h : Nat) : Int) < d.hands) && (decide (inH d p) && decide (b < d.bs.length))
  | .take h p b => decide (((h : Nat) : Int) < d.hands) && (decide (inH d p) && decide (b < d.bs.length))
  | .lock h b s => decide (((h : Nat) : Int) < d.hands) && (decide (b < d.bs.length) && decide (s < d.ss.length))
  | .brk h b => decide (((h : Nat) : Int) < d.hands) && decide (b < d.bs.length)
theorem step_law {d0 d : Hs} {hs : List Nat} {e : Dd} (shp : Shp d0 d) : (knB d0 e = true ∧ InD d hs e ∧ barOf d e = "") ↔ ((((e.hand : Nat) : Int) ∈ hs.map fun u => ((u : Nat) : Int)) ∧ giveOk (hs.map fun u => ((u : Nat) : Int)) e) ∧ (unkOf d0 e = "" ∧ barOf d e = "") := by
  have m : ∀ n : Nat, ((n : Int) ∈ hs.map fun u => ((u : Nat) : Int)) ↔ n ∈ hs := fun n => by
    rw [List.mem_map]
    exact ⟨fun ⟨u, h1, h2⟩ => by rw [show n = u by omega]; exact h1, fun h => ⟨n, h, rfl⟩⟩
  have hh := shp.h
  have hb : d0.bs.length = d.bs.length := shp.r .box
  have hs' : d0.ss.length = d.ss.length := shp.r .sl
  have hp : ∀ p : It, inH d0 p ↔ inH d p := fun p => by unfold inH; rw [shp.r p.1]
  have n1 := ne_e1
  have n2 := ne_e2
  have n3 := ne_e3
  have n4 := ne_e4
  have n5 := ne_e5
  cases e with
  | give h p o =>
    have e1 := m h
    have e2 := m o
    have e3 := hp p
    simp only [knB, InD, unkOf, giveOk, Dd.hand, Bool.and_eq_true, decide_eq_true_eq]
    rw [e1, e2]
    generalize barOf d (.give h p o) = z
    grind
  | put h p b =>
    have e1 := m h
    have e3 := hp p
    simp only [knB, InD, unkOf, giveOk, Dd.hand, Bool.and_eq_true, decide_eq_true_eq]
    rw [e1]
    generalize barOf d (.put h p b) = z
    grind
  | take h p b =>
    have e1 := m h
    have e3 := hp p
    simp only [knB, InD, unkOf, giveOk, Dd.hand, Bool.and_eq_true, decide_eq_true_eq]
    rw [e1]
    generalize barOf d (.take h p b) = z
    grind
  | lock h b s =>
    have e1 := m h
    simp only [knB, InD, unkOf, giveOk, Dd.hand, Bool.and_eq_true, decide_eq_true_eq]
    rw [e1]
    generalize barOf d (.lock h b s) = z
    grind
  | brk h b =>
    have e1 := m h
    simp only [knB, InD, unkOf, giveOk, Dd.hand, Bool.and_eq_true, decide_eq_true_eq]
    rw [e1]
    generalize barOf d (.brk h b) = z
    grind
section
variable {P : Program} {w : World} {K : PySem.W.Frag} {mg : Str → Option Value} {base : Heap}
def spKnB (K : PySem.W.Frag) (C : Addr) : Sp := fun vs H Q _ => ∃ (h : Addr) (y : V) (d : Hs) (e : Dd), vs = [.ref h, y] ∧ HouseAt K C H h d ∧ Dp K H y (ddD e) ∧ ∀ H', Same H H' → Q (.bl (knB d e)) H'
theorem scKnown : FnScope ["_law_house_here", "_law_deed"] ["_law_house_here", "_law_deed"] (defScope sKnown) := ⟨rfl, rfl, rfl, by decide +kernel, rfl, by decide +kernel, by decide +kernel⟩
theorem ok_known {f g C : Addr} {fd fdg : FuncData} (F : Fun K "_law_known" "_law_known" sKnown f fd) (B : Bt mg) (T : HouseC K C) (N : HasF P w K mg base C g fdg) :
    FnOk P w K mg base CX0 3 f fd ["_law_house_here", "_law_deed"] (spKnB K C) := by
  refine F.ok scKnown (fun vs H Q E h => ?_) (fun cdv A outer s H vs Q E hr h => ?_)
  · obtain ⟨h, y, d, e, rfl, _⟩ := h
    rfl
  · obtain ⟨h, y, d, e, rfl, hh, hy, k⟩ := h
    have hr2 : Room 2 _ := hr
    refine ⟨_, (pss_cons (ps_if (PW.pt (pw_or (pt_cmpR op_ge (pe_ix ix_tup (pv 1) pe_int (fun _ _ => rfl)) (pe_fld (pv 0) rfl) (nomark _)) (pw_or1 (PW.pt (pw_and (pt_cmpR op_in_seq (pe_ix ix_tup (pv 1) pe_int (fun _ _ => rfl)) (pe_tup (pa_cons pe_str (pa_cons pe_str pa_nil))) (by rfl)) (pw_and1 (pt_cmpR op_ge (pe_ix ix_tup (pv 1) pe_int (fun _ _ => rfl)) (pe_callB call_len_seq (by rfl) B.len PySem.boot_len (pa_cons (pe_fld (pv 0) rfl) pa_nil)) (nomark _)))))))) (pss_one (ps_ret pe_bl)) pss_nil) (pss_cons (ps_if (pt_cmpR op_eq (pe_ix ix_tup (pv 1) pe_int (fun _ _ => rfl)) pe_str (nomark _)) (pss_one (ps_ret (pe_cmpR op_lt (pe_ix ix_tup (pv 1) pe_int (fun _ _ => rfl)) (pe_callB call_len_seq (by rfl) B.len PySem.boot_len (pa_cons (pe_fld (pv 0) rfl) pa_nil)) (nomark _)))) pss_nil) (pss_one (ps_ret (pe_or (pe_cmpR op_eq (pe_ix ix_tup (pv 1) pe_int (fun _ _ => rfl)) pe_str (nomark _)) (pe_one (pe_and (pe_cmpR (op_inOwn N.G N.f N.i hr2 N.b pass0) (pe_ix ix_tup (pv 1) pe_int (fun _ _ => rfl)) (pv 0) (by rfl)) (pe_one (pe_cmpR op_lt (pe_ix ix_tup (pv 1) pe_int (fun _ _ => rfl)) (pe_ifExp (pt_cmpR op_eq (pe_ix ix_tup (pv 1) pe_int (fun _ _ => rfl)) pe_str (nomark _)) (pe_fld (pv 0) rfl) (pe_callB call_len_seq (by rfl) B.len PySem.boot_len (pa_cons (pe_fld (pv 0) rfl) pa_nil))) (nomark _)))))))))), ?_⟩
    obtain ⟨dx, vb, vt, vs, vst, g0, g1, g2, g3, g4⟩ := hh.ex
    obtain ⟨ab, xb, rfl, qb, db, lb⟩ := pls_at g1
    obtain ⟨as, xs, rfl, qs, ds, ls⟩ := pls_at g3
    obtain ⟨yd, vs, rfl, sy, dvs⟩ := dd_at hy
    refine ⟨_, rfl, yd, _, 1, _, rfl, rfl, sy, atI_nat (j := 1) rfl, _, rfl, h, C, dx, _, _, rfl, g0, T.cl, T.nH, fs_hands _ _ _ _ _, _, _, rfl, rfl, _, rfl, ?_⟩
    have lb' : xb.length = d.bs.length := lb
    have ls' : xs.length = d.ss.length := ls
    refine ite_b _ (fun c1 => iteT ?_) (fun c1 => ?_)
    · have c1 := of_decide_eq_true c1
      have : knB d e = false := by
        cases e <;> simp only [knB, Dd.hand] at * <;> rw [decide_eq_false (by omega)] <;> rfl
      have kk := k H (Same.refl _)
      rw [this] at kk
      exact kk
    have c1 := of_decide_eq_false c1
    refine ⟨_, rfl, yd, _, 0, _, rfl, rfl, sy, atI_nat (j := 0) rfl, (by show 2 ≤ sizeLine; decide), fun t ht => ?_⟩
    have f1 := same_upd (o := HO.tup [V.str ("break" : Str), .str ("seal" : Str)]) ht
    refine ⟨t, [.str ("break" : Str), .str ("seal" : Str)], rfl, .inr (SqT.of upd_same), rfl, rfl, _, rfl, ?_⟩
    generalize L2.upd H t (.tup [V.str ("break" : Str), .str ("seal" : Str)]) = H1 at *
    have hh1 := hh.nl (nl_same f1)
    have sy1 := SqT.same f1 sy
    have qb1 := SqT.same f1 qb
    have qs1 := SqT.same f1 qs
    have g1' := f1 _ _ g0
    have dvs1 := Dp.sames f1 _ _ dvs
    have kk := k H1 f1
    have R0 : ∀ Q', Q' (V.str e.word) H1 → tOp (rIxT K) (tVar 1) (tC (.int 0)) (L2.start ["_law_house_here", "_law_deed"] [V.ref h, V.ref yd]) H1 Q' := fun Q' q => ⟨_, rfl, yd, _, 0, _, rfl, rfl, sy1, atI_nat (j := 0) rfl, q⟩
    cases e with
    | brk hd b =>
      cases dvs1 with
      | cons d1 r =>
      cases r
      cases d1
      dsimp only [Dd.word, Dd.hand] at *
      refine iteTe (by decide +kernel) ⟨_, rfl, yd, _, 2, _, rfl, rfl, sy1, atI_nat (j := 2) rfl, _, rfl, h, C, dx, _, _, rfl, g1', T.cl, T.nB, fs_boxes _ _ _ _ _, ab, xb, rfl, .inr qb1, _, _, rfl, rfl, _, rfl, ?_⟩
      refine ite_b _ (fun c2 => ?_) (fun c2 => ?_)
      · have c2 := of_decide_eq_true c2
        rw [show knB d (.brk hd b) = false by simp only [knB]; rw [decide_eq_false (show ¬ b < d.bs.length by omega), Bool.and_false]] at kk
        exact kk
      · have c2 := of_decide_eq_false c2
        rw [show knB d (.brk hd b) = true by simp only [knB]; rw [decide_eq_true (show b < d.bs.length by omega), decide_eq_true (by omega)]; rfl] at kk
        refine ⟨_, rfl, yd, _, 0, _, rfl, rfl, sy1, atI_nat (j := 0) rfl, rfl, _, rfl, iteFe (by decide +kernel) ?_⟩
        exact ⟨_, rfl, yd, _, 0, _, rfl, rfl, sy1, atI_nat (j := 0) rfl, rfl, _, rfl, iteTe (by decide +kernel) kk⟩
    | lock hd b s =>
      cases dvs1 with
      | cons d1 r =>
      cases r with
      | cons d2 r =>
      cases r
      cases d1
      cases d2
      dsimp only [Dd.word, Dd.hand] at *
      refine iteTe (by decide +kernel) ⟨_, rfl, yd, _, 2, _, rfl, rfl, sy1, atI_nat (j := 2) rfl, _, rfl, h, C, dx, _, _, rfl, g1', T.cl, T.nB, fs_boxes _ _ _ _ _, ab, xb, rfl, .inr qb1, _, _, rfl, rfl, _, rfl, ?_⟩
      refine ite_b _ (fun c2 => ?_) (fun c2 => ?_)
      · have c2 := of_decide_eq_true c2
        rw [show knB d (.lock hd b s) = false by simp only [knB]; rw [decide_eq_false (show ¬ b < d.bs.length by omega), Bool.false_and, Bool.and_false]] at kk
        exact kk
      · have c2 := of_decide_eq_false c2
        refine ⟨_, rfl, yd, _, 0, _, rfl, rfl, sy1, atI_nat (j := 0) rfl, rfl, _, rfl, iteTe (by decide +kernel) ?_⟩
        refine ⟨_, rfl, yd, _, 3, _, rfl, rfl, sy1, atI_nat (j := 3) rfl, _, rfl, h, C, dx, _, _, rfl, g1', T.cl, T.nS, fs_seals _ _ _ _ _, as, xs, rfl, .inr qs1, _, _, rfl, rfl, ?_⟩
        rw [show knB d (.lock hd b s) = decide (((s : Nat) : Int) < (xs.length : Nat)) by
          simp only [knB]
          rw [decide_eq_true (show b < d.bs.length by omega), decide_eq_true (show ((hd : Nat) : Int) < d.hands by omega), Bool.true_and, Bool.true_and]
          exact decide_eq_decide.mpr (by omega)] at kk
        exact kk
    | give hd p o =>
      cases dvs1 with
      | cons d1 r =>
      cases r with
      | cons d2 r =>
      cases r
      cases d2
      obtain ⟨ip, rfl, sp⟩ := it_at d1
      dsimp only [Dd.word, Dd.hand] at *
      refine iteFe (by decide +kernel) ?_
      refine ⟨_, rfl, yd, _, 0, _, rfl, rfl, sy1, atI_nat (j := 0) rfl, rfl, _, rfl, iteFe (by decide +kernel) ?_⟩
      refine ⟨_, rfl, yd, _, 0, _, rfl, rfl, sy1, atI_nat (j := 0) rfl, rfl, _, rfl, iteFe (by decide +kernel) ?_⟩
      refine ⟨_, rfl, yd, _, 2, _, rfl, rfl, sy1, atI_nat (j := 2) rfl, _, rfl, h, dx, _, rfl, g1', h, ip, d, p.1.str, (p.2 : Nat), rfl, hh1, sp, _, rfl, _, rfl, ?_⟩
      rw [has_it]
      refine ite_b _ (fun c2 => ?_) (fun c2 => ?_)
      · refine ⟨_, rfl, yd, _, 3, _, rfl, rfl, sy1, atI_nat (j := 3) rfl, _, rfl, yd, _, 0, _, rfl, rfl, sy1, atI_nat (j := 0) rfl, rfl, _, rfl, iteTe (by decide +kernel) ?_⟩
        refine ⟨_, rfl, h, C, dx, _, _, rfl, g1', T.cl, T.nH, fs_hands _ _ _ _ _, _, _, rfl, rfl, ?_⟩
        rw [show knB d (.give hd p o) = decide (((o : Nat) : Int) < d.hands) by
          simp only [knB]
          rw [c2, decide_eq_true (show ((hd : Nat) : Int) < d.hands by omega), Bool.true_and, Bool.true_and]] at kk
        exact kk
      · rw [show knB d (.give hd p o) = false by simp only [knB]; rw [c2, Bool.false_and, Bool.and_false]] at kk
        exact kk
    | put hd p b =>
      cases dvs1 with
      | cons d1 r =>
      cases r with
      | cons d2 r =>
      cases r
      cases d2
      obtain ⟨ip, rfl, sp⟩ := it_at d1
      dsimp only [Dd.word, Dd.hand] at *
      refine iteFe (by decide +kernel) ?_
      refine ⟨_, rfl, yd, _, 0, _, rfl, rfl, sy1, atI_nat (j := 0) rfl, rfl, _, rfl, iteFe (by decide +kernel) ?_⟩
      refine ⟨_, rfl, yd, _, 0, _, rfl, rfl, sy1, atI_nat (j := 0) rfl, rfl, _, rfl, iteFe (by decide +kernel) ?_⟩
      refine ⟨_, rfl, yd, _, 2, _, rfl, rfl, sy1, atI_nat (j := 2) rfl, _, rfl, h, dx, _, rfl, g1', h, ip, d, p.1.str, (p.2 : Nat), rfl, hh1, sp, _, rfl, _, rfl, ?_⟩
      rw [has_it]
      refine ite_b _ (fun c2 => ?_) (fun c2 => ?_)
      · refine ⟨_, rfl, yd, _, 3, _, rfl, rfl, sy1, atI_nat (j := 3) rfl, _, rfl, yd, _, 0, _, rfl, rfl, sy1, atI_nat (j := 0) rfl, rfl, _, rfl, iteFe (by decide +kernel) ?_⟩
        refine ⟨_, rfl, h, C, dx, _, _, rfl, g1', T.cl, T.nB, fs_boxes _ _ _ _ _, ab, xb, rfl, .inr qb1, _, _, rfl, rfl, ?_⟩
        rw [show knB d (.put hd p b) = decide (((b : Nat) : Int) < (xb.length : Nat)) by
          simp only [knB]
          rw [c2, decide_eq_true (show ((hd : Nat) : Int) < d.hands by omega), Bool.true_and, Bool.true_and]
          exact decide_eq_decide.mpr (by omega)] at kk
        exact kk
      · rw [show knB d (.put hd p b) = false by simp only [knB]; rw [c2, Bool.false_and, Bool.and_false]] at kk
        exact kk
    | take hd p b =>
      cases dvs1 with
      | cons d1 r =>
      cases r with
      | cons d2 r =>
      cases r
      cases d2
      obtain ⟨ip, rfl, sp⟩ := it_at d1
      dsimp only [Dd.word, Dd.hand] at *
      refine iteFe (by decide +kernel) ?_
      refine ⟨_, rfl, yd, _, 0, _, rfl, rfl, sy1, atI_nat (j := 0) rfl, rfl, _, rfl, iteFe (by decide +kernel) ?_⟩
      refine ⟨_, rfl, yd, _, 0, _, rfl, rfl, sy1, atI_nat (j := 0) rfl, rfl, _, rfl, iteFe (by decide +kernel) ?_⟩
      refine ⟨_, rfl, yd, _, 2, _, rfl, rfl, sy1, atI_nat (j := 2) rfl, _, rfl, h, dx, _, rfl, g1', h, ip, d, p.1.str, (p.2 : Nat), rfl, hh1, sp, _, rfl, _, rfl, ?_⟩
      rw [has_it]
      refine ite_b _ (fun c2 => ?_) (fun c2 => ?_)
      · refine ⟨_, rfl, yd, _, 3, _, rfl, rfl, sy1, atI_nat (j := 3) rfl, _, rfl, yd, _, 0, _, rfl, rfl, sy1, atI_nat (j := 0) rfl, rfl, _, rfl, iteFe (by decide +kernel) ?_⟩
        refine ⟨_, rfl, h, C, dx, _, _, rfl, g1', T.cl, T.nB, fs_boxes _ _ _ _ _, ab, xb, rfl, .inr qb1, _, _, rfl, rfl, ?_⟩
        rw [show knB d (.take hd p b) = decide (((b : Nat) : Int) < (xb.length : Nat)) by
          simp only [knB]
          rw [c2, decide_eq_true (show ((hd : Nat) : Int) < d.hands by omega), Bool.true_and, Bool.true_and]
          exact decide_eq_decide.mpr (by omega)] at kk
        exact kk
      · rw [show knB d (.take hd p b) = false by simp only [knB]; rw [c2, Bool.false_and, Bool.and_false]] at kk
        exact kk
end
end Kw

set_option Elab.async false
set_option linter.all false
set_option maxRecDepth 100000
set_option maxHeartbeats 4000000
namespace Kw
open PySem PySem.Spec PyProof.Rows L2
abbrev sBeh : Stmt := top 81
/-! ### the state as a key -/
theorem keyable_pls : ∀ l : List Pl, keyables (l.map plD) = true
  | [] => rfl
  | q :: l => by
    show (keyable (plD q) && keyables (l.map plD)) = true
    rw [keyable_pls l]
    rfl
theorem keyable_st (d : Hs) : keyable (stD d) = true := by
  simp [stD, plsD, keyable, keyables, keyable_pls]
theorem depth_pls' : ∀ l : List Pl, NestedKey.depthAll (keysOf (l.map plD)) ≤ 1
  | [] => Nat.zero_le _
  | q :: l => by
    have := depth_pls' l
    show max (NestedKey.depth (keyOf (plD q))) (NestedKey.depthAll (keysOf (l.map plD))) ≤ 1
    have h : NestedKey.depth (keyOf (plD q)) = 1 := by simp [plD, keyOf, keysOf, NestedKey.depth, NestedKey.depthAll]
    omega
theorem depth_st' (d : Hs) : (keyOf (stD d)).depth ≤ 8 := by
  have h1 := depth_pls' d.bs
  have h2 := depth_pls' d.ts
  have h3 := depth_pls' d.ss
  simp only [stD, plsD, keyOf, keysOf, NestedKey.depth, NestedKey.depthAll]
  omega
/-- a comprehension over a dict of one key -/
theorem lc_dx1 {P : Program} {w : World} {a b D : Addr} {o : Obj} {k : NestedKey} {v : V} {j : Nat} {σ : L2.St} {H1 : Hp} {tt : TT} {te : TE} {Qd : Hp → Prop} (hd : H1 a = some (.frz o (DX P w a [(k, b, v)]))) (hD : H1 D = none)
    (hs : ∀ (H : Hp) (N : Hp → Prop) (Y : V → Hp → Prop), Same H1 H → (∀ H', Same H H' → Qd H' → N H') → (∀ y H', Same H H' → Qd (L2.upd H' D (.lst [y])) → Y y H') → H D = some (.lst []) → tt ((wipe σ [j]).set j (some (.ref b))) H fun bb H3 => if bb = true then te ((wipe σ [j]).set j (some (.ref b))) H3 Y else N H3) :
    ∃ W : Nat → Nat → Hp → Prop, (∃ m, W 0 m (L2.upd H1 D (.lst []))) ∧ ∀ i m H, W i m H →
      ((ItkX P w a o [(k, b, v)]).stop i H ∧ Qd H) ∨ ((ItkX P w a o [(k, b, v)]).go i H ∧ ∃ Nx : Hp → Prop, (∀ H', Nx H' → ∃ m', m' < m ∧ W (i + 1) m' H') ∧ ∀ x H', (ItkX P w a o [(k, b, v)]).yld i H x H' → gName j x (wipe σ [j]) H' fun σ2 H2 => wipe σ2 [j] = wipe σ [j] ∧ tt σ2 H2 fun b H3 =>
        if b = true then te σ2 H3 fun y H4 => ∃ acc, H4 D = some (.lst acc) ∧ acc.length < sizeLine ∧ Nx (L2.upd H4 D (.lst (acc ++ [y]))) else Nx H3) := by
  have ne : a ≠ D := fun z => by subst z; rw [hd] at hD; cases hD
  have hda : (L2.upd H1 D (.lst [])) a = some (.frz o (DX P w a [(k, b, v)])) := by rw [upd_ne ne]; exact hd
  refine ⟨fun i m H => (i = 0 ∧ m = 1 ∧ H = L2.upd H1 D (.lst [])) ∨ (i = 1 ∧ m = 0 ∧ H a = some (.frz o (DX P w a [(k, b, v)])) ∧ Qd H), ⟨1, .inl ⟨rfl, rfl, rfl⟩⟩, ?_⟩
  rintro i m H (⟨rfl, rfl, rfl⟩ | ⟨rfl, rfl, ha, q⟩)
  · refine .inr ⟨⟨hda, Nat.zero_lt_one⟩, fun H => H a = some (.frz o (DX P w a [(k, b, v)])) ∧ Qd H, fun H' p => ⟨0, by omega, .inr ⟨rfl, rfl, p.1, p.2⟩⟩, ?_⟩
    rintro x H' ⟨rfl, k', b', v', hk, rfl⟩
    cases hk
    refine ⟨wipe_one _ j _, hs _ _ _ (same_upd hD) (fun H' e q => ⟨e _ _ hda, q⟩) (fun y H' e q => ⟨[], e _ _ upd_same, by rw [sizeLine_eq]; decide, by rw [upd_ne ne]; exact e _ _ hda, q⟩) upd_same⟩
  · exact .inl ⟨⟨ha, Nat.le_refl _⟩, q⟩
section
variable {P : Program} {w : World} {K : PySem.W.Frag} {mg : Str → Option Value} {base : Heap}
def stepB (d : Hs) : Rw → Option Hs
  | .gap _ => none
  | .deed e => if barOf d e = "" then some (nextOf d e) else none
  | .sight g => if isS d g = true then some d else none
def OptK (K : PySem.W.Frag) (H : Hp) (kvs : KVs) : Option Hs → Prop
  | none => kvs = []
  | some d => ∃ b, kvs = [(keyOf (stD d), b, .bl true)] ∧ StF K H (.ref b) d
def RdB (d : Hs) : Rw → Prop
  | .gap _ => False
  | .deed e => Kn d e
  | .sight g => depS g < 2 ∧ KnS d g
def spBeh (P : Program) (w : World) (K : PySem.W.Frag) : Sp := fun vs H Q _ => ∃ (D b : Addr) (od : Obj) (y : V) (d : Hs) (r : Rw), vs = [.ref D, y] ∧ H D = some (.frz od (DX P w D [(keyOf (stD d), b, .bl true)])) ∧ StF K H (.ref b) d ∧ Dp K H y (rwD r) ∧ Ls d ∧ RdB d r ∧
  ∀ (p : Addr) (kvs : KVs) H', Same H H' → H' p = some (DX P w p kvs) → OptK K H' kvs (stepB d r) → Q (.ref p) H'
theorem scBeh : FnScope ["_law_states", "_law_row", "_law_state"] ["_law_states", "_law_row"] (defScope sBeh) := ⟨rfl, rfl, rfl, by decide +kernel, rfl, by decide +kernel, by decide +kernel⟩
theorem stF_ref {H : Hp} {v : V} {d : Hs} (h : StF K H v d) : ∃ a, v = .ref a := by
  obtain ⟨a, _, _, _, rfl, _⟩ := st_at h.dp
  exact ⟨a, rfl⟩
theorem ok_beh {f gN gB gI : Addr} {fd fdN fdB fdI : FuncData} (F : Fun K "_law_behind" "_law_behind" sBeh f fd) (mD : mg "dict" = none)
    (NX : OnceF P w K mg base "_law_next" 2 ["_law_state", "_law_deed"] (spNext K) gN fdN) (BR : OnceF P w K mg base "_law_bar" 2 ["_law_state", "_law_deed"] (spBar K) gB fdB) (IS : OnceF P w K mg base "_law_is" 3 ["_law_state", "_law_sight_here"] (spIs K 2) gI fdI) :
    FnOk P w K mg base CX0 4 f fd ["_law_states", "_law_row"] (spBeh P w K) := by
  refine F.ok scBeh (fun vs H Q E h => ?_) (fun cdv A outer s H vs Q E hr h => ?_)
  · obtain ⟨D, b, od, y, d, r, rfl, _⟩ := h
    rfl
  · obtain ⟨D, b, od, y, d, r, rfl, hD, hst, hy, ls, rd, k⟩ := h
    have hr2 : Room 2 _ := hr.mono (by decide)
    have hr3 : Room 3 _ := hr
    have hu : (cxOf CX0 P w K mg base ["_law_states", "_law_row", "_law_state"] "_law_behind" (defScope sBeh) f cdv A outer s H E).nox.A.units + 10 < cLine := by have := hr.un; show (A.deeper _).units + 10 < cLine; omega
    refine ⟨_, (pss_cons (ps_if (pt_cmpR op_eq (pe_ix ix_tup (pv 1) pe_int (fun _ _ => rfl)) pe_str (nomark _)) (pss_one ps_never) pss_nil) (pss_cons (ps_if (pt_cmpR op_in_seq (pe_ix ix_tup (pv 1) pe_int (fun _ _ => rfl)) (pe_tup (pa_cons pe_str (pa_cons pe_str (pa_cons pe_str (pa_cons pe_str (pa_cons pe_str pa_nil)))))) (by rfl)) (pss_one (ps_ret (pe_callTy (call_dictX1 rfl hu) (by rfl) mD (by decide +kernel) (pa_cons (pe_lc (own := [("_law_state", 2)]) (g := gName 2) (tt := (tTest (tOp rEq (tCall (spBar K) [] E0 (tCons (tVar 2) (tCons (tVar 1) tNil))) (tC (.str ("" : Str)))))) (te := (tTup (tCons (tCall (spNext K) [] E0 (tCons (tVar 2) (tCons (tVar 1) tNil))) (tCons (tC (.bl true)) tNil)))) rfl scBeh.nd (pi_keysX (pv 0)) (blkOk_by (own := [("_law_state", 2)]) (N := ["_law_states", "_law_row", "_law_state"]) (sc := defScope sBeh) (by decide +kernel)) (fun _ _ _ _ _ => pg_name (i := 2) scBeh.nd rfl (.inl rfl)) (fun _ _ _ _ _ => pts_one ((pt_cmpR op_eq (pe_call BR.G hr2 rfl BR.m BR.k BR.b .nil pass0 (pa_cons (pv 2) (pa_cons (pv 1) pa_nil))) pe_str (nomark _)))) (fun _ _ _ _ _ => (pe_tup (pa_cons (pe_call NX.G hr2 rfl NX.m NX.k NX.b .nil pass0 (pa_cons (pv 2) (pa_cons (pv 1) pa_nil))) (pa_cons pe_bl pa_nil))))) pa_nil)))) pss_nil) (pss_one (ps_ret (pe_callTy (call_dictX1 rfl hu) (by rfl) mD (by decide +kernel) (pa_cons (pe_lc (own := [("_law_state", 2)]) (g := gName 2) (tt := (tTest (tCall (spIs K 2) [] E0 (tCons (tVar 2) (tCons (tVar 1) tNil))))) (te := (tTup (tCons (tVar 2) (tCons (tC (.bl true)) tNil)))) rfl scBeh.nd (pi_keysX (pv 0)) (blkOk_by (own := [("_law_state", 2)]) (N := ["_law_states", "_law_row", "_law_state"]) (sc := defScope sBeh) (by decide +kernel)) (fun _ _ _ _ _ => pg_name (i := 2) scBeh.nd rfl (.inl rfl)) (fun _ _ _ _ _ => pts_one (pt_val (pe_call IS.G hr3 rfl IS.m IS.k IS.b .nil pass0 (pa_cons (pv 2) (pa_cons (pv 1) pa_nil))))) (fun _ _ _ _ _ => (pe_tup (pa_cons (pv 2) (pa_cons pe_bl pa_nil))))) pa_nil)))))), ?_⟩
    have fin : ∀ (L : Addr) (kvs : KVs) (Ts : List Addr) (H1 : Hp), Same H H1 → H1 L = some (.lst (Ts.map V.ref)) → Paired (fun p kv => SqT K H1 p [.ref kv.2.1, kv.2.2]) Ts kvs → OptK K H1 kvs (stepB d r) → ∃ (a : Addr) (ps : List Addr) (kvs : KVs), [V.ref L] = [.ref a] ∧ SqL K H1 a (ps.map V.ref) ∧ Paired (fun p kv => SqT K H1 p [.ref kv.2.1, kv.2.2]) ps kvs ∧ kvs.length ≤ 1 ∧ KeysAt K H1 kvs ∧
        ∀ p, H1 p = none → Q (.ref p) (L2.upd H1 p (DX P w p kvs)) := fun L kvs Ts H1 e1 hL hp ok => by
      refine ⟨L, Ts, kvs, rfl, SqL.of hL, hp, ?_, ?_, fun p hp' => k p kvs _ (e1.trans (same_upd hp')) upd_same ?_⟩
      · cases ho : stepB d r with
        | none => rw [ho] at ok; rw [show kvs = [] from ok]; decide
        | some d' => rw [ho] at ok; obtain ⟨b', rfl, _⟩ := ok; exact Nat.le_refl _
      · cases ho : stepB d r with
        | none => rw [ho] at ok; rw [show kvs = [] from ok]; intro x hx; cases hx
        | some d' =>
          rw [ho] at ok
          obtain ⟨b', rfl, hb⟩ := ok
          intro x hx
          rw [List.mem_singleton.mp hx]
          exact ⟨stD d', keyable_st d', depth_st' d', rfl, hb.dp⟩
      · cases ho : stepB d r with
        | none => rw [ho] at ok; exact ok
        | some d' =>
          rw [ho] at ok
          obtain ⟨b', e, hb⟩ := ok
          exact ⟨b', e, hb.same (same_upd hp')⟩
    have kd : keyable (stD d) = true := keyable_st d
    cases r with
    | gap zs => exact rd.elim
    | deed e =>
      have kn : Kn d e := rd
      obtain ⟨yd, vs, rfl, sy, dvs⟩ := dd_at hy
      refine ⟨_, rfl, yd, _, 0, _, rfl, rfl, sy, atI_nat (j := 0) rfl, rfl, _, rfl, iteFe (by rw [decS]; exact decide_eq_false (by cases e <;> (simp only [Dd.word]; decide +kernel))) ?_⟩
      refine ⟨_, rfl, yd, _, 0, _, rfl, rfl, sy, atI_nat (j := 0) rfl, (by show 5 ≤ sizeLine; decide), fun t ht => ?_⟩
      have f1 := same_upd (o := HO.tup [V.str ("break" : Str), .str ("give" : Str), .str ("put" : Str), .str ("seal" : Str), .str ("take" : Str)]) ht
      refine ⟨t, _, rfl, .inr (SqT.of upd_same), rfl, rfl, _, rfl, iteTe (by cases e <;> (simp only [Dd.word]; decide +kernel)) ?_⟩
      generalize L2.upd H t (.tup [V.str ("break" : Str), .str ("give" : Str), .str ("put" : Str), .str ("seal" : Str), .str ("take" : Str)]) = H1 at *
      refine ⟨_, rfl, D, od, _, rfl, f1 _ _ hD, fun L hL => lc_dx1 (f1 _ _ hD) hL (fun H2 N Y e2 kN kY hL2 => ?_)⟩
      have e12 := f1.trans e2
      refine ⟨_, rfl, _, rfl, .ref b, .ref yd, d, e, rfl, Dp.same e12 _ _ hst.dp, Dp.same e12 _ _ hy, kn, fun H3 e3 => ⟨rfl, _, rfl, ?_⟩⟩
      have e13 := e12.trans e3
      rw [decS]
      by_cases c : barOf d e = ""
      · rw [decide_eq_true c]
        refine iteT ⟨_, rfl, _, rfl, .ref b, .ref yd, d, e, rfl, hst.same e13, Dp.same e13 _ _ hy, kn, c, fun v' H4 e4 st4 => ⟨(by show 2 ≤ sizeLine; decide), fun T hT => ?_⟩⟩
        obtain ⟨b', rfl⟩ := stF_ref st4
        have f5 := same_upd (o := HO.tup [V.ref b', .bl true]) hT
        have e25 := (e3.trans e4).trans f5
        refine kY (.ref T) _ e25 ?_
        have nTL : T ≠ L := fun z => by subst z; rw [e4 _ _ (e3 _ _ hL2)] at hT; cases hT
        have hL5 := e25 _ _ hL2
        have kl := nl_updL (ys := [V.ref T]) hL5
        have e15 := e12.trans e25
        exact fin L [(keyOf (stD (nextOf d e)), b', .bl true)] [T] _ (fun c u h => by rw [upd_ne (ne_of_none (f1 _ _ h) hL)]; exact e15 _ _ h) upd_same (.cons (SqT.nl kl (SqT.of upd_same)) .nil) (by
          rw [show stepB d (.deed e) = some (nextOf d e) from if_pos c]
          exact ⟨b', rfl, (st4.same f5).nl kl⟩)
      · rw [decide_eq_false c]
        refine iteF (kN H3 e3 ?_)
        exact fin L [] [] H3 e13 (e3 _ _ hL2) .nil (by rw [show stepB d (.deed e) = none from if_neg c]; rfl)
    | sight g =>
      obtain ⟨yd, vs, rfl, sy, dvs⟩ := sg_at hy
      refine ⟨_, rfl, yd, _, 0, _, rfl, rfl, sy, atI_nat (j := 0) rfl, rfl, _, rfl, iteFe (by rw [decS]; exact decide_eq_false (by cases g <;> (simp only [sgW]; decide +kernel))) ?_⟩
      refine ⟨_, rfl, yd, _, 0, _, rfl, rfl, sy, atI_nat (j := 0) rfl, (by show 5 ≤ sizeLine; decide), fun t ht => ?_⟩
      have f1 := same_upd (o := HO.tup [V.str ("break" : Str), .str ("give" : Str), .str ("put" : Str), .str ("seal" : Str), .str ("take" : Str)]) ht
      refine ⟨t, _, rfl, .inr (SqT.of upd_same), rfl, rfl, _, rfl, iteFe (by cases g <;> (simp only [sgW]; decide +kernel)) ?_⟩
      generalize L2.upd H t (.tup [V.str ("break" : Str), .str ("give" : Str), .str ("put" : Str), .str ("seal" : Str), .str ("take" : Str)]) = H1 at *
      refine ⟨_, rfl, D, od, _, rfl, f1 _ _ hD, fun L hL => lc_dx1 (f1 _ _ hD) hL (fun H2 N Y e2 kN kY hL2 => ?_)⟩
      have e12 := f1.trans e2
      refine ⟨_, rfl, _, rfl, .ref b, .ref yd, d, g, rfl, rd.1, Dp.same e12 _ _ hst.dp, Dp.same e12 _ _ hy, rd.2, ls, fun H3 e3 => ⟨_, rfl, ?_⟩⟩
      have e13 := e12.trans e3
      refine ite_b _ (fun c => ?_) (fun c => ?_)
      · refine ⟨_, rfl, (by show 2 ≤ sizeLine; decide), fun T hT => ?_⟩
        have f5 := same_upd (o := HO.tup [V.ref b, .bl true]) hT
        have e25 := e3.trans f5
        refine kY (.ref T) _ e25 ?_
        have hL5 := e25 _ _ hL2
        have kl := nl_updL (ys := [V.ref T]) hL5
        have e15 := e12.trans e25
        exact fin L [(keyOf (stD d), b, .bl true)] [T] _ (fun c u h => by rw [upd_ne (ne_of_none (f1 _ _ h) hL)]; exact e15 _ _ h) upd_same (.cons (SqT.nl kl (SqT.of upd_same)) .nil) (by
          rw [show stepB d (.sight g) = some d from if_pos c]
          exact ⟨b, rfl, (hst.same e15).nl kl⟩)
      · exact kN H3 e3 (fin L [] [] H3 e13 (e3 _ _ hL2) .nil (by rw [show stepB d (.sight g) = none from if_neg (by rw [c]; decide)]; rfl))
end
end Kw

set_option Elab.async false
set_option linter.all false
set_option maxRecDepth 100000
set_option maxHeartbeats 4000000
namespace Kw
open PySem PySem.Spec PyProof.Rows L2
abbrev sFault : Stmt := top 84
/-! ### the fault, as the law finds it -/
def GapOk (d : Hs) (r : Rw) : Prop := ∀ zs, r = .gap zs → ∃ hs : List Nat, zs = hsZ hs ∧ hs.length ≤ 4 ∧ ∀ u ∈ hs, (u : Int) < d.hands
theorem stepB_R {d0 d : Hs} {r : Rw} (shp : Shp d0 d) (ok : okR d0 r) (ng : isGap r = false) : stepB d r = stepR d0 d r := by
  cases r with
  | gap zs => cases ng
  | deed e =>
    have u0 : unkOf d0 e = "" := ok
    show (if barOf d e = "" then some (nextOf d e) else none) = (if unkOf d0 e = "" ∧ barOf d e = "" then some (nextOf d e) else none)
    by_cases c : barOf d e = ""
    · rw [if_pos c, if_pos ⟨u0, c⟩]
    · rw [if_neg c, if_neg fun q => c q.2]
  | sight g => rfl
theorem stepS_some {d0 d : Hs} {hs : List Nat} {e : Dd} (shp : Shp d0 d) (h1 : knB d0 e = true) (h2 : InD d hs e ∧ barOf d e = "") : stepS d0 d (hsZ hs) e = some (nextOf d e) := by
  obtain ⟨q1, q2⟩ := (step_law shp).mp ⟨h1, h2.1, h2.2⟩
  unfold stepS
  rw [if_pos (show ((e.hand : Nat) : Int) ∈ hsZ hs ∧ giveOk (hsZ hs) e from q1)]
  exact if_pos q2
theorem stepS_none {d0 d : Hs} {hs : List Nat} {e : Dd} (shp : Shp d0 d) (h : ¬ (knB d0 e = true ∧ InD d hs e ∧ barOf d e = "")) : stepS d0 d (hsZ hs) e = none := by
  unfold stepS
  by_cases c : ((e.hand : Nat) : Int) ∈ hsZ hs ∧ giveOk (hsZ hs) e
  · rw [if_pos c]
    exact if_neg fun q => h ((step_law (hs := hs) shp).mpr ⟨c, q⟩)
  · rw [if_neg c]
theorem shaped_sts1 (d : Hs) : SeqAt.shaped (.list [stD d]) = true := by
  have h1 := depth_plsD d.bs
  have h2 := depth_plsD d.ts
  have h3 := depth_plsD d.ss
  have h4 := lay_st d
  simp [SeqAt.shaped, PyData.canLay0, PyData.canLayAll0, h4]
  simp [stD, PyData.depth, PyData.depthAll]
  omega
section
variable {P : Program} {w : World} {K : PySem.W.Frag} {mg : Str → Option Value} {base : Heap}
theorem rdB_of {d0 d : Hs} {r : Rw} (shp : Shp d0 d) (ok : RwOk d0 r) (ng : isGap r = false) : RdB d r := by
  cases r with
  | gap zs => cases ng
  | deed e => exact unk_kn ((unk_shp shp e).symm.trans ok.1)
  | sight g => exact ⟨ok.2.2, unk_knS ok.2.1 ((unkS_shp shp g).symm.trans ok.1)⟩
theorem rw_head {H : Hp} {y : V} {r : Rw} (h : Dp K H y (rwD r)) (ng : isGap r = false) : ∃ yd wd vs, y = .ref yd ∧ SqT K H yd (.str wd :: vs) ∧ wd ≠ ("gap" : Str) := by
  cases r with
  | gap zs => cases ng
  | deed e =>
    obtain ⟨yd, vs, rfl, sy, _⟩ := dd_at h
    exact ⟨yd, _, _, rfl, sy, by cases e <;> (simp only [Dd.word]; decide +kernel)⟩
  | sight g =>
    obtain ⟨yd, vs, rfl, sy, _⟩ := sg_at h
    exact ⟨yd, _, _, rfl, sy, by cases g <;> (simp only [sgW]; decide +kernel)⟩
def spFlt (K : PySem.W.Frag) (C : Addr) : Sp := fun vs H Q _ => ∃ (h rp cp : Addr) (d : Hs) (rs : List Rw) (ys xs : List V) (cs : List (List Dd)), vs = [.ref h, .ref rp, .ref cp] ∧ HouseAt K C H h d ∧ HouseF K C H h d ∧ HsOk d ∧ SqL K H rp ys ∧ DpAll K H ys (rs.map rwD) ∧ SqL K H cp xs ∧ DpAll K H xs (cs.map coD) ∧ rs.length ≤ 100 ∧ (∀ r ∈ rs, RwOk d r ∧ GapOk d r) ∧ (∀ c ∈ cs, c.length ≤ 100 ∧ ∀ e ∈ c, Sm e) ∧ cs.length = nGaps rs ∧
  ∀ v H', Same H H' → OptFt K H' v (faultOf d d rs cs 0) → Q v H'
theorem scFlt : FnScope ["_law_house_here", "_law_rows", "_law_course", "_law_state", "_law_gap", "_law_index", "_law_row", "_law_number", "_law_deed", "_law_states"] ["_law_house_here", "_law_rows", "_law_course"] (defScope sFault) := ⟨rfl, rfl, rfl, by decide +kernel, rfl, by decide +kernel, by decide +kernel⟩
theorem ok_fault {f gK gD gN gB C : Addr} {fd fdK fdD fdN fdB : FuncData} (F : Fun K "_law_fault" "_law_fault" sFault f fd) (B : Bt mg) (hc : HouseC K C)
    (KN : OnceF P w K mg base "_law_known" 3 ["_law_house_here", "_law_deed"] (spKnB K C) gK fdK) (GD : OnceF P w K mg base "_law_deeds" 3 ["_law_state", "_law_hands_here"] (spDeedsXT K) gD fdD)
    (NX : OnceF P w K mg base "_law_next" 2 ["_law_state", "_law_deed"] (spNext K) gN fdN) (BH : OnceF P w K mg base "_law_behind" 4 ["_law_states", "_law_row"] (spBeh P w K) gB fdB) :
    FnOk P w K mg base CX0 5 f fd ["_law_house_here", "_law_rows", "_law_course"] (spFlt K C) := by
  refine F.ok scFlt (fun vs H Q E h => ?_) (fun cdv A outer s H vs Q E hr h => ?_)
  · obtain ⟨h, rp, cp, d, rs, ys, xs, cs, rfl, _⟩ := h
    rfl
  · obtain ⟨h, rp, cp, d, rs, ys, xs, cs, rfl, hh, hF, hok, hrp, hys, hcp, dcs, lrs, okr, okc, hl, k⟩ := h
    have hr2 : Room 2 _ := hr.mono (by decide)
    have hr3 : Room 3 _ := hr.mono (by decide)
    have hr4 : Room 4 _ := hr
    have hu : (cxOf CX0 P w K mg base ["_law_house_here", "_law_rows", "_law_course", "_law_state", "_law_gap", "_law_index", "_law_row", "_law_number", "_law_deed", "_law_states"] "_law_fault" (defScope sFault) f cdv A outer s H E).nox.A.units + 65 < cLine := by have := hr.un; show (A.deeper _).units + 65 < cLine; omega
    have hu64 : (cxOf CX0 P w K mg base ["_law_house_here", "_law_rows", "_law_course", "_law_state", "_law_gap", "_law_index", "_law_row", "_law_number", "_law_deed", "_law_states"] "_law_fault" (defScope sFault) f cdv A outer s H E).nox.A.units + 64 < cLine := by have := hr.un; show (A.deeper _).units + 64 < cLine; omega
    have hu8 : (cxOf CX0 P w K mg base ["_law_house_here", "_law_rows", "_law_course", "_law_state", "_law_gap", "_law_index", "_law_row", "_law_number", "_law_deed", "_law_states"] "_law_fault" (defScope sFault) f cdv A outer s H E).nox.A.units + 8 < cLine := by have := hr.un; show (A.deeper _).units + 8 < cLine; omega
    refine ⟨_, (pss_cons (ps_par (i := 3) (j := 4) rfl scFlt.nd rfl rfl (by decide) rfl rfl (pa_cons (pe_fld (pv 0) rfl) (pa_cons pe_int pa_nil)) (by rfl)) (pss_cons (ps_for PassesOwn.never rfl (pi_range1 rfl B.rng (pa_cons (pe_callB call_len_seq (by rfl) B.len PySem.boot_len (pa_cons (pv 1) pa_nil)) pa_nil)) (pg_name (i := 5) scFlt.nd rfl (.inl rfl)) (pss_cons (ps_set (i := 6) scFlt.nd rfl (.inl rfl) (pe_ix ix_list (pv 1) (pv 5) (fun _ _ => rfl))) (pss_one (ps_if (pt_cmpR op_eq (pe_ix ix_tup (pv 6) pe_int (fun _ _ => rfl)) pe_str (nomark _)) (pss_cons (ps_for PassesOwn.never rfl (pi_range1 rfl B.rng (pa_cons (pe_callB call_len_seq (by rfl) B.len PySem.boot_len (pa_cons (pe_ix ix_list (pv 2) (pv 4) (fun _ _ => rfl)) pa_nil)) pa_nil)) (pg_name (i := 7) scFlt.nd rfl (.inl rfl)) (pss_cons (ps_set (i := 8) scFlt.nd rfl (.inl rfl) (pe_ix ix_list (pe_ix ix_list (pv 2) (pv 4) (fun _ _ => rfl)) (pv 7) (fun _ _ => rfl))) (pss_cons (ps_if (PW.pt (pw_or (pt_not (pt_val (pe_call KN.G hr3 rfl KN.m KN.k KN.b .nil pass0 (pa_cons (pv 0) (pa_cons (pv 8) pa_nil))))) (pw_or1 (pt_cmpR (op_notInD hu) (pv 8) (pe_call GD.G hr3 rfl GD.m GD.k GD.b .nil pass0 (pa_cons (pv 3) (pa_cons (pe_ix ix_tup (pv 6) pe_int (fun _ _ => rfl)) pa_nil))) (by rfl))))) (pss_one (ps_ret (pe_tup (pa_cons (pv 5) (pa_cons (pv 7) pa_nil))))) pss_nil) (pss_one (ps_set (i := 3) scFlt.nd rfl (.inl rfl) (pe_call NX.G hr2 rfl NX.m NX.k NX.b .nil pass0 (pa_cons (pv 3) (pa_cons (pv 8) pa_nil)))))))) (pss_one (ps_set (i := 4) scFlt.nd rfl (.inl rfl) (pe_op op_add (pv 4) pe_int)))) (pss_cons (ps_set (i := 9) scFlt.nd rfl (.inl rfl) (pe_callTy (call_listX rfl) (by rfl) B.lst (by decide +kernel) (pa_cons (pe_call BH.G hr4 rfl BH.m BH.k BH.b .nil pass0 (pa_cons (pe_frz (pe_dispX hu8 (pv 3) pe_bl)) (pa_cons (pv 6) pa_nil))) pa_nil))) (pss_cons (ps_if (pt_cmpR (op_eqD hu64) (pv 9) (pe_lst pa_nil) (nomark _)) (pss_one (ps_ret (pe_tup (pa_cons (pv 5) (pa_cons (pe_un un_neg pe_int) pa_nil))))) pss_nil) (pss_one (ps_set (i := 3) scFlt.nd rfl (.inl rfl) (pe_ix ix_list (pv 9) pe_int (fun _ _ => rfl)))))))))) (pss_one (ps_ret pe_non)))), ?_⟩
    have l5 := sizeLine_eq
    have ls := hok.ls
    obtain ⟨dh, vb, vt, vs', vst, q0, stf⟩ := id hF
    have ly : ys.length = rs.length := by rw [DpAll.len hys, List.length_map]
    have lx : xs.length = cs.length := by rw [DpAll.len dcs, List.length_map]
    refine ⟨_, rfl, h, C, dh, _, _, rfl, q0, hc.cl, hc.nSt, fs_state _ _ _ _ _, _, _, rfl, ?_⟩
    refine ⟨_, rfl, rp, ys, rfl, .inl hrp, (ys.length : Nat), rfl, by omega, by omega, ?_⟩
    refine for_range (lo := 0) (n := ys.length) (fun i σ H' => ∃ (v : V) (dc : Hs) (u5 u6 u7 u8 u9 : Option V), σ = [some (.ref h), some (.ref rp), some (.ref cp), some v, some (.int (nGaps (rs.take i) : Nat)), u5, u6, u7, u8, u9] ∧ Same H H' ∧ StF K H' v dc ∧ Shp d dc ∧ faultOf d d rs cs 0 = faultOf d dc (rs.drop i) (cs.drop (nGaps (rs.take i))) i) ⟨vst, d, none, none, none, none, none, rfl, Same.refl _, stf, Shp.refl d, rfl⟩ ?_ ?_
    · rintro i σ H1 hi ⟨v, dc, u5, u6, u7, u8, u9, rfl, e1, hv, shp, ef⟩
      obtain ⟨y, hy0⟩ : ∃ y, ys[i]? = some y := ⟨_, List.getElem?_eq_getElem hi⟩
      obtain ⟨dd, hd1, hd2⟩ := DpAll.get hys hy0
      rw [List.getElem?_map] at hd1
      cases hz : rs[i]? with
      | none => rw [hz] at hd1; cases hd1
      | some r =>
        rw [hz] at hd1
        obtain rfl : rwD r = dd := Option.some.inj hd1
        obtain ⟨li, hri⟩ := List.getElem?_eq_some_iff.mp hz
        obtain ⟨rok, gok⟩ := okr r (List.mem_of_getElem? hz)
        have hy := Dp.same e1 _ _ hd2
        have edrop : rs.drop i = r :: rs.drop (i + 1) := by rw [List.drop_eq_getElem_cons li, hri]
        have ng := nGaps_take hz
        rw [edrop] at ef
        have ei : (0 : Int) + (i : Nat) = (i : Nat) := Int.zero_add _
        refine ⟨_, rfl, _, rfl, rp, ys, _, y, rfl, rfl, sqL_same e1 hrp, by rw [ei]; exact atI_nat hy0, ?_⟩
        cases isg : isGap r with
        | true =>
          cases r with
          | deed e => cases isg
          | sight g => cases isg
          | gap zs =>
          obtain ⟨ay, tz, rfl, sy0, stz0⟩ := gapT_at hd2
          have sy := SqT.same e1 sy0
          obtain ⟨hs, rfl, lhs, hhs⟩ := gok zs rfl
          rw [hsZ_V] at stz0
          refine ⟨_, rfl, ay, _, 0, _, rfl, rfl, sy, atI_nat (j := 0) rfl, rfl, _, rfl, iteTe (decide_eq_true rfl) ?_⟩
          have ng' : nGaps (rs.take (i + 1)) = nGaps (rs.take i) + 1 := ng
          have nle := nGaps_le rs (i + 1)
          generalize hu' : nGaps (rs.take i) = un at *
          obtain ⟨c, hcu⟩ : ∃ c, cs[un]? = some c := ⟨_, List.getElem?_eq_getElem (by omega)⟩
          obtain ⟨lu, hcu'⟩ := List.getElem?_eq_some_iff.mp hcu
          have ecs : cs.drop un = c :: cs.drop (un + 1) := by rw [List.drop_eq_getElem_cons lu, hcu']
          obtain ⟨lc, okd⟩ := okc c (List.mem_of_getElem? hcu)
          obtain ⟨cv, hcv, dcv⟩ := DpAll.at2 dcs (i := un) (d := coD c) (by rw [List.getElem?_map, hcu]; rfl)
          obtain ⟨ac, zs', rfl, sac, dac⟩ := co_at dcv
          rw [ecs] at ef
          have ef' : faultOf d d rs cs 0 = (match runS d (hsZ hs) dc c 0 with | .error k => some (i, (k : Int)) | .ok d' => faultOf d d' (rs.drop (i + 1)) (cs.drop (un + 1)) (i + 1)) := ef
          have lz' : zs'.length = c.length := by rw [DpAll.len dac, List.length_map]
          refine ⟨_, rfl, _, rfl, cp, _, _, .ref ac, rfl, rfl, sqL_same e1 hcp, atI_nat hcv, ac, zs', rfl, .inl (sqL_same e1 sac), (zs'.length : Nat), rfl, by omega, by omega, ?_⟩
          refine for_range (lo := 0) (n := zs'.length) (fun j σ H' => ∃ (v : V) (dj : Hs) (w7 w8 w9 : Option V), σ = [some (.ref h), some (.ref rp), some (.ref cp), some v, some (.int (un : Nat)), some (.int (0 + (i : Nat))), some (.ref ay), w7, w8, w9] ∧ Same H H' ∧ StF K H' v dj ∧ Shp d dj ∧ runS d (hsZ hs) dc c 0 = runS d (hsZ hs) dj (c.drop j) j) ⟨v, dc, u7, u8, u9, rfl, e1, hv, shp, rfl⟩ ?_ ?_
          · rintro j σ H4 hj ⟨vj, dj, w7, w8, w9, rfl, e4, hvj, shj, ej⟩
            obtain ⟨z, hz0⟩ : ∃ z, zs'[j]? = some z := ⟨_, List.getElem?_eq_getElem hj⟩
            obtain ⟨dd2, hd3, hd4⟩ := DpAll.get dac hz0
            rw [List.getElem?_map] at hd3
            cases hw : c[j]? with
            | none => rw [hw] at hd3; cases hd3
            | some e =>
              rw [hw] at hd3
              obtain rfl : ddD e = dd2 := Option.some.inj hd3
              obtain ⟨lj, hej⟩ := List.getElem?_eq_some_iff.mp hw
              rw [show c.drop j = e :: c.drop (j + 1) by rw [List.drop_eq_getElem_cons lj, hej]] at ej
              have ej0 : (0 : Int) + (j : Nat) = (j : Nat) := Int.zero_add _
              have dz := Dp.same e4 _ _ hd4
              refine ⟨_, rfl, _, rfl, cp, _, _, .ref ac, rfl, rfl, sqL_same e4 hcp, atI_nat hcv, _, rfl, ac, zs', _, z, rfl, rfl, sqL_same e4 sac, by rw [ej0]; exact atI_nat hz0, ?_⟩
              have bad : ∀ H', Same H H' → ¬ (knB d e = true ∧ InD dj hs e ∧ barOf dj e = "") → ∀ tr, H' tr = none → Q (.ref tr) (L2.upd H' tr (.tup [.int (0 + (i : Nat)), .int (0 + (j : Nat))])) := fun H' e' nc tr htr => by
                have er : runS d (hsZ hs) dc c 0 = .error j := by rw [ej, runS, stepS_none shj nc]
                rw [er] at ef'
                refine k (.ref tr) _ (e'.trans (same_upd htr)) ?_
                rw [ef', ei, ej0]
                exact .tup (SqT.of upd_same) (.cons (.int _) (.cons (.int _) .nil))
              refine ⟨_, rfl, _, rfl, h, z, d, e, rfl, hh.nl (nl_same e4), dz, fun H5 e5 => ⟨_, rfl, ?_⟩⟩
              have e45 := e4.trans e5
              cases ck : knB d e with
              | false => exact iteT (iteT ⟨_, rfl, _, rfl, (by show 2 ≤ sizeLine; decide), fun tr htr => bad H5 e45 (fun q => by rw [ck] at q; cases q.1) tr htr⟩)
              | true =>
                refine iteF ?_
                have sy5 := SqT.same e45 sy0
                have rb := shj.r .box
                have rt := shj.r .thing
                have rs' := shj.r .sl
                have rh := shj.h
                have b1 : dj.bs.length ≤ 3 := by have := hok.b1; have : d.bs.length = dj.bs.length := rb; omega
                have t1 : dj.ts.length ≤ 4 := by have := hok.t1; have : d.ts.length = dj.ts.length := rt; omega
                have s1 : dj.ss.length ≤ 3 := by have := hok.s1; have : d.ss.length = dj.ss.length := rs'; omega
                have h1 : dj.hands ≤ 4 := by have := hok.h1; omega
                refine ⟨_, rfl, _, rfl, _, rfl, ay, _, 1, _, rfl, rfl, sy5, atI_nat (j := 1) rfl, vj, tz, dj, hs, rfl, Dp.same e5 _ _ hvj.dp, SqT.same e45 stz0, lhs, fun u hu => by have := hhs u hu; omega, h1, b1, t1, s1, fun p xs' es H6 e6 hpn hp6 des les mem => ?_⟩
                have e46 := e45.trans e6
                refine ⟨ddD e, es.map ddD, Dp.same e46 _ _ hd4, .lst (SqL.of hp6) des, shaped_dd1 e, shaped_dds es, _, rfl, ?_⟩
                rw [any_dd]
                by_cases cm : e ∈ es
                · rw [decide_eq_true cm]
                  obtain ⟨m1, m2⟩ := (mem e).mp cm
                  refine iteF ?_
                  have hst : stepS d dj (hsZ hs) e = some (nextOf dj e) := stepS_some shj ck ⟨m1, m2⟩
                  refine ⟨_, rfl, _, rfl, vj, z, dj, e, rfl, hvj.same (e5.trans e6), Dp.same e46 _ _ hd4, kn_in m1, m2, fun v' H7 e7 st7 => ?_⟩
                  exact ⟨v', nextOf dj e, _, _, _, rfl, e46.trans e7, st7, shj.trans (Shp.next dj e), by rw [ej, runS, hst]⟩
                · rw [decide_eq_false cm]
                  exact iteT ⟨_, rfl, _, rfl, (by show 2 ≤ sizeLine; decide), fun tr htr => bad H6 e46 (fun q => cm ((mem e).mpr ⟨q.2.1, q.2.2⟩)) tr htr⟩
          · rintro σ H4 ⟨vj, dj, w7, w8, w9, rfl, e4, hvj, shj, ej⟩
            rw [lz', List.drop_length] at ej
            rw [show runS d (hsZ hs) dc c 0 = .ok dj from ej] at ef'
            refine ⟨_, rfl, _, _, rfl, rfl, ?_⟩
            refine ⟨vj, dj, _, _, _, _, _, by rw [ng']; rfl, e4, hvj, shj, ?_⟩
            rw [ng']
            exact ef'
        | false =>
          have eB := stepB_R shp rok.1 isg
          have rdb := rdB_of shp rok isg
          obtain ⟨yd, wd, vs2, rfl, sy, nw⟩ := rw_head hy isg
          have ng' : nGaps (rs.take (i + 1)) = nGaps (rs.take i) := by rw [ng, isg]; rfl
          refine ⟨_, rfl, yd, _, 0, _, rfl, rfl, sy, atI_nat (j := 0) rfl, rfl, _, rfl, iteFe (by rw [decS]; exact decide_eq_false nw) ?_⟩
          obtain ⟨bv, rfl⟩ := stF_ref hv
          refine fun D hD => ⟨_, rfl, bv, stD dc, rfl, upd_same, keyable_st dc, depth_st' dc, Dp.same (same_upd hD) _ _ hv.dp, D, _, rfl, upd_same, True.intro, fun od => ?_⟩
          rw [upd_upd, upd_upd]
          have f2 := same_upd (o := HO.frz od (DX P w D [(keyOf (stD dc), bv, .bl true)])) hD
          have e2 := e1.trans f2
          refine ⟨_, rfl, D, bv, od, _, dc, r, rfl, upd_same, hv.same f2, Dp.same f2 _ _ hy, Shp.ls shp ls, rdb, fun p kvs H4 e4 hp4 ok4 => ⟨p, kvs, rfl, .inl hp4, fun q hq => ?_⟩⟩
          have e24 := e2.trans e4
          have f5 := same_upd (o := HO.lst (kRefs kvs)) hq
          have e25 := e24.trans f5
          refine ⟨_, rfl, (by show 0 ≤ sizeLine; decide), fun z hz' => ?_⟩
          have f6 := same_upd (o := HO.lst []) hz'
          have e26 := e25.trans f6
          have hq6 := f6 _ _ (upd_same (H := H4) (a := q) (o := HO.lst (kRefs kvs)))
          rw [eB] at ok4
          cases hst : stepR d dc r with
          | none =>
            rw [hst] at ok4
            obtain rfl : kvs = [] := ok4
            have ef' : faultOf d d rs cs 0 = some (i, -1) := by
              rw [ef]
              cases r with
              | gap zs => cases isg
              | deed e => rw [faultOf, hst]
              | sight g => rw [faultOf, hst]
            refine ⟨.list [], .list [], .lst (SqL.of hq6) .nil, .lst (SqL.of upd_same) .nil, rfl, rfl, _, rfl, iteTe (by rfl) ?_⟩
            refine ⟨_, rfl, 1, rfl, (by show 2 ≤ sizeLine; decide), fun tr htr => ?_⟩
            refine k (.ref tr) _ (e26.trans (same_upd htr)) ?_
            rw [ef', ei]
            exact .tup (SqT.of upd_same) (.cons (.int _) (.cons (.int _) .nil))
          | some d' =>
            rw [hst] at ok4
            obtain ⟨b', rfl, st4⟩ := ok4
            refine ⟨.list [stD d'], .list [], .lst (SqL.of hq6) (.cons (st4.same (f5.trans f6)).dp .nil), .lst (SqL.of upd_same) .nil, shaped_sts1 d', rfl, _, rfl, iteFe (by rfl) ?_⟩
            refine ⟨_, rfl, q, _, 0, .ref b', rfl, rfl, SqL.of hq6, rfl, ?_⟩
            refine ⟨.ref b', d', _, _, _, _, _, by rw [ng']; rfl, e26, st4.same (f5.trans f6), shp.trans (step_shp hst), ?_⟩
            rw [ng', ef]
            cases r with
            | gap zs => cases isg
            | deed e => rw [faultOf, hst]
            | sight g => rw [faultOf, hst]
    · rintro σ H2 ⟨v, dc, u5, u6, u7, u8, u9, rfl, e2, hv, shp, ef⟩
      rw [ly, List.drop_length] at ef
      exact k .non H2 e2 (by rw [ef]; rfl)
end
end Kw

set_option Elab.async false
set_option linter.all false
set_option maxRecDepth 100000
set_option maxHeartbeats 4000000
namespace Kw
open PySem PySem.Spec PyProof.Rows L2
/-! ### the state behind rows and their course -/
def runT (d0 : Hs) : Hs → List Rw → List (List Dd) → Option Hs
  | d, [], _ => some d
  | d, .gap zs :: rs, c :: cs => match runS d0 zs d c 0 with
    | .error _ => none
    | .ok d' => runT d0 d' rs cs
  | _, .gap _ :: _, [] => none
  | d, .deed e :: rs, cs => match stepR d0 d (.deed e) with
    | none => none
    | some d' => runT d0 d' rs cs
  | d, .sight g :: rs, cs => match stepR d0 d (.sight g) with
    | none => none
    | some d' => runT d0 d' rs cs
theorem nGaps_cons (r : Rw) (rs : List Rw) : nGaps (r :: rs) = nGaps rs + (if isGap r = true then 1 else 0) := by
  unfold nGaps
  cases c : isGap r <;> simp [c]
theorem nGaps_app (rs qs : List Rw) : nGaps (rs ++ qs) = nGaps rs + nGaps qs := by
  unfold nGaps
  rw [List.filter_append, List.length_append]
theorem fault_app {d0 : Hs} {rs2 : List Rw} {cs2 : List (List Dd)} : ∀ (rs : List Rw) (cs : List (List Dd)) (d d' : Hs) (i : Nat), runT d0 d rs cs = some d' → cs.length = nGaps rs → faultOf d0 d (rs ++ rs2) (cs ++ cs2) i = faultOf d0 d' rs2 cs2 (i + rs.length)
  | [], cs, d, d', i, h, l => by
    have : cs = [] := List.eq_nil_of_length_eq_zero l
    subst this
    cases h
    rfl
  | .gap zs :: rs, [], d, d', i, h, l => by cases h
  | .gap zs :: rs, c :: cs, d, d', i, h, l => by
    have l' : cs.length = nGaps rs := by have := nGaps_cons (.gap zs) rs; rw [this] at l; simpa [isGap] using l
    unfold runT at h
    show (match runS d0 zs d c 0 with | .error k => some (i, (k : Int)) | .ok d' => faultOf d0 d' (rs ++ rs2) (cs ++ cs2) (i + 1)) = _
    cases hr : runS d0 zs d c 0 with
    | error k => rw [hr] at h; cases h
    | ok d1 =>
      rw [hr] at h
      have := fault_app (rs2 := rs2) (cs2 := cs2) rs cs d1 d' (i + 1) h l'
      show faultOf d0 d1 (rs ++ rs2) (cs ++ cs2) (i + 1) = _
      rw [this, List.length_cons]
      congr 1
      omega
  | .deed e :: rs, cs, d, d', i, h, l => by
    have l' : cs.length = nGaps rs := by have := nGaps_cons (.deed e) rs; rw [this] at l; simpa [isGap] using l
    unfold runT at h
    show faultOf d0 d (.deed e :: (rs ++ rs2)) (cs ++ cs2) i = _
    rw [faultOf]
    cases hr : stepR d0 d (.deed e) with
    | none => rw [hr] at h; cases h
    | some d1 =>
      rw [hr] at h
      have := fault_app (rs2 := rs2) (cs2 := cs2) rs cs d1 d' (i + 1) h l'
      show faultOf d0 d1 (rs ++ rs2) (cs ++ cs2) (i + 1) = _
      rw [this, List.length_cons]
      congr 1
      omega
  | .sight g :: rs, cs, d, d', i, h, l => by
    have l' : cs.length = nGaps rs := by have := nGaps_cons (.sight g) rs; rw [this] at l; simpa [isGap] using l
    unfold runT at h
    show faultOf d0 d (.sight g :: (rs ++ rs2)) (cs ++ cs2) i = _
    rw [faultOf]
    cases hr : stepR d0 d (.sight g) with
    | none => rw [hr] at h; cases h
    | some d1 =>
      rw [hr] at h
      have := fault_app (rs2 := rs2) (cs2 := cs2) rs cs d1 d' (i + 1) h l'
      show faultOf d0 d1 (rs ++ rs2) (cs ++ cs2) (i + 1) = _
      rw [this, List.length_cons]
      congr 1
      omega
theorem run_app {d0 : Hs} {rs2 : List Rw} {cs2 : List (List Dd)} : ∀ (rs : List Rw) (cs : List (List Dd)) (d : Hs), cs.length = nGaps rs → runT d0 d (rs ++ rs2) (cs ++ cs2) = (runT d0 d rs cs).bind fun d' => runT d0 d' rs2 cs2
  | [], cs, d, l => by
    have : cs = [] := List.eq_nil_of_length_eq_zero l
    subst this
    rfl
  | .gap zs :: rs, [], d, l => by
    have := nGaps_cons (.gap zs) rs
    rw [this] at l
    simp [isGap] at l
  | .gap zs :: rs, c :: cs, d, l => by
    have l' : cs.length = nGaps rs := by have := nGaps_cons (.gap zs) rs; rw [this] at l; simpa [isGap] using l
    show (match runS d0 zs d c 0 with | .error _ => none | .ok d' => runT d0 d' (rs ++ rs2) (cs ++ cs2)) = _
    rw [runT]
    cases hr : runS d0 zs d c 0 with
    | error k => rfl
    | ok d1 => exact run_app rs cs d1 l'
  | .deed e :: rs, cs, d, l => by
    have l' : cs.length = nGaps rs := by have := nGaps_cons (.deed e) rs; rw [this] at l; simpa [isGap] using l
    show runT d0 d (.deed e :: (rs ++ rs2)) (cs ++ cs2) = _
    rw [runT, runT]
    cases hr : stepR d0 d (.deed e) with
    | none => rfl
    | some d1 => exact run_app rs cs d1 l'
  | .sight g :: rs, cs, d, l => by
    have l' : cs.length = nGaps rs := by have := nGaps_cons (.sight g) rs; rw [this] at l; simpa [isGap] using l
    show runT d0 d (.sight g :: (rs ++ rs2)) (cs ++ cs2) = _
    rw [runT, runT]
    cases hr : stepR d0 d (.sight g) with
    | none => rfl
    | some d1 => exact run_app rs cs d1 l'
theorem runS_snoc {d0 : Hs} {zs : List Int} {e : Dd} : ∀ (c : List Dd) (d d' d'' : Hs) (k : Nat), runS d0 zs d c k = .ok d' → stepS d0 d' zs e = some d'' → runS d0 zs d (c ++ [e]) k = .ok d''
  | [], d, d', d'', k, h, s => by
    cases h
    show (match stepS d0 d zs e with | none => Except.error k | some d' => runS d0 zs d' [] (k + 1)) = _
    rw [s]
    rfl
  | x :: c, d, d', d'', k, h, s => by
    unfold runS at h
    show (match stepS d0 d zs x with | none => Except.error k | some d' => runS d0 zs d' (c ++ [e]) (k + 1)) = _
    cases hx : stepS d0 d zs x with
    | none => rw [hx] at h; cases h
    | some d1 =>
      rw [hx] at h
      exact runS_snoc c d1 d' d'' (k + 1) h s
/-- what rows and their course are -/
structure PR (d0 : Hs) (rs : List Rw) (cs : List (List Dd)) (d : Hs) : Prop where
  ok : ∀ r ∈ rs, RwOk d0 r ∧ GapOk d0 r
  okc : ∀ c ∈ cs, c.length ≤ 20 ∧ ∀ e ∈ c, Sm e
  nc : cs.length = nGaps rs
  run : runT d0 d0 rs cs = some d
section
variable {d0 d d' : Hs} {rs : List Rw} {cs : List (List Dd)}
theorem PR.nil (d0 : Hs) : PR d0 [] [] d0 := ⟨fun _ h => (nomatch h), fun _ h => (nomatch h), rfl, rfl⟩
theorem ok_snoc {r : Rw} (x : ∀ r ∈ rs, RwOk d0 r ∧ GapOk d0 r) (h : RwOk d0 r ∧ GapOk d0 r) : ∀ q ∈ rs ++ [r], RwOk d0 q ∧ GapOk d0 q := fun q hq => by
  rcases List.mem_append.mp hq with hq | hq
  · exact x q hq
  · rw [List.mem_singleton.mp hq]; exact h
theorem PR.row {r : Rw} (x : PR d0 rs cs d) (ok : RwOk d0 r) (ng : isGap r = false) (st : stepR d0 d r = some d') : PR d0 (rs ++ [r]) cs d' := by
  refine ⟨ok_snoc x.ok ⟨ok, fun zs z => ?_⟩, x.okc, ?_, ?_⟩
  · subst z; cases ng
  · rw [nGaps_app, x.nc, nGaps_cons, ng]; rfl
  · have h := run_app (d0 := d0) (rs2 := [r]) (cs2 := []) rs cs d0 x.nc
    rw [List.append_nil, x.run] at h
    rw [h]
    show runT d0 d [r] [] = some d'
    cases r with
    | gap zs => cases ng
    | deed e => rw [runT, st]; rfl
    | sight g => rw [runT, st]; rfl
theorem PR.gap {zs : List Int} (x : PR d0 rs cs d) (ok : RwOk d0 (.gap zs) ∧ GapOk d0 (.gap zs)) : PR d0 (rs ++ [.gap zs]) (cs ++ [[]]) d := by
  refine ⟨ok_snoc x.ok ok, fun c hc => ?_, ?_, ?_⟩
  · rcases List.mem_append.mp hc with hc | hc
    · exact x.okc c hc
    · rw [List.mem_singleton.mp hc]; exact ⟨by decide, fun _ h => (nomatch h)⟩
  · rw [nGaps_app, List.length_append, x.nc, nGaps_cons]; rfl
  · rw [run_app rs cs d0 x.nc, x.run]; rfl
theorem PR.more {zs : List Int} {c : List Dd} {e : Dd} (x : PR d0 (rs ++ [.gap zs]) (cs ++ [c]) d) (hl : c.length < 20) (sm : Sm e) (st : stepS d0 d zs e = some d') : PR d0 (rs ++ [.gap zs]) (cs ++ [c ++ [e]]) d' := by
  have nc : cs.length = nGaps rs := by
    have := x.nc
    rw [nGaps_app, List.length_append, nGaps_cons] at this
    simpa [isGap, nGaps] using this
  refine ⟨x.ok, fun q hq => ?_, ?_, ?_⟩
  · rcases List.mem_append.mp hq with hq | hq
    · exact x.okc q (List.mem_append_left _ hq)
    · rw [List.mem_singleton.mp hq]
      have h := x.okc c (List.mem_append_right _ List.mem_cons_self)
      refine ⟨by rw [List.length_append]; simp; omega, fun f hf => ?_⟩
      rcases List.mem_append.mp hf with hf | hf
      · exact h.2 f hf
      · rw [List.mem_singleton.mp hf]; exact sm
  · have := x.nc
    rw [List.length_append] at this ⊢
    exact this
  · have h := x.run
    rw [run_app rs cs d0 nc] at h ⊢
    cases hr : runT d0 d0 rs cs with
    | none => rw [hr] at h; cases h
    | some d1 =>
      rw [hr] at h
      have h1 : (match runS d0 zs d1 c 0 with | .error _ => none | .ok d' => runT d0 d' [] []) = some d := h
      show (match runS d0 zs d1 (c ++ [e]) 0 with | .error _ => none | .ok d' => runT d0 d' [] []) = some d'
      cases hs : runS d0 zs d1 c 0 with
      | error k => rw [hs] at h1; cases h1
      | ok d2 =>
        rw [hs] at h1
        cases h1
        rw [runS_snoc c d1 _ d' 0 hs st]
        rfl
theorem PR.fault (x : PR d0 rs cs d) (rs2 : List Rw) : faultOf d0 d0 (rs ++ rs2) cs 0 = faultOf d0 d rs2 [] rs.length := by
  have := fault_app (d0 := d0) (rs2 := rs2) (cs2 := []) rs cs d0 d 0 x.run x.nc
  rw [List.append_nil, Nat.zero_add] at this
  exact this
end
theorem knB_in {d0 d : Hs} {hs : List Nat} {e : Dd} (shp : Shp d0 d) (hh : ∀ u ∈ hs, (u : Int) < d0.hands) (h : InD d hs e) : knB d0 e = true := by
  have hb : d0.bs.length = d.bs.length := shp.r .box
  have hs' : d0.ss.length = d.ss.length := shp.r .sl
  have hp : ∀ p : It, inH d0 p ↔ inH d p := fun p => by unfold inH; rw [shp.r p.1]
  cases e with
  | give u p o =>
    have h1 := hh u h.1
    have h2 := hh o h.2.1
    have h3 := (hp p).mpr h.2.2.2
    simp [knB, h1, h2, h3]
  | put u p b =>
    have h1 := hh u h.1
    have h3 := (hp p).mpr h.2.1
    have h4 := h.2.2.1
    simp [knB, h1, h3]
    omega
  | take u p b =>
    have h1 := hh u h.1
    have h3 := (hp p).mpr h.2.1
    have h4 := h.2.2.1
    simp [knB, h1, h3]
    omega
  | lock u b s =>
    have h1 := hh u h.1
    have h4 := h.2.1
    have h5 := h.2.2
    simp [knB, h1]
    omega
  | brk u b =>
    have h1 := hh u h.1
    have h4 := h.2
    simp [knB, h1]
    omega
end Kw

set_option Elab.async false
set_option linter.all false
set_option maxRecDepth 100000
set_option maxHeartbeats 4000000
namespace Kw
open PySem PySem.Spec PyProof.Rows L2
/-! ### the story, with its course and states -/
structure SH (K : PySem.W.Frag) (b l R M S : Addr) (H0 H : Hp) (rs : List Rw) (Zs : List Addr) (cs : List (List Dd)) (ds : List Hs) : Prop where
  r : ∃ xs, H R = some (.lst xs) ∧ DpAll K H xs (rs.map rwD)
  m : H M = some (.lst (Zs.map V.ref))
  z : ∀ (i : Nat) Z c, Zs[i]? = some Z → cs[i]? = some c → ∃ zs, H Z = some (.lst zs) ∧ DpAll K H zs (c.map ddD)
  za : ∀ Z ∈ Zs, H0 Z = none ∧ (Z ≠ b ∧ Z ≠ l) ∧ Z ≠ R ∧ Z ≠ M ∧ Z ≠ S
  nd : Zs.Nodup
  ln : Zs.length = cs.length
  s : ∃ ss, H S = some (.lst ss) ∧ DpAll K H ss (ds.map stD)
theorem noLs_st (ds : List Hs) : noLs (ds.map stD) = true := noLs_map stD noL_st ds
section
variable {K : PySem.W.Frag} {C b l h R M S : Addr} {d0 d : Hs} {H0 H H' : Hp} {n nr : Nat} {v : V} {rs : List Rw} {Zs : List Addr} {cs : List (List Dd)} {ds : List Hs}
theorem SH.has (x : SH K b l R M S H0 H rs Zs cs ds) {Z : Addr} (hZ : Z ∈ Zs) : ∃ o, H Z = some o := by
  obtain ⟨i, hi⟩ := List.getElem?_of_mem hZ
  have li := (List.getElem?_eq_some_iff.mp hi).1
  obtain ⟨c, hc⟩ : ∃ c, cs[i]? = some c := ⟨_, List.getElem?_eq_getElem (by have := x.ln; omega)⟩
  obtain ⟨zs, h1, _⟩ := x.z i Z c hi hc
  exact ⟨_, h1⟩
/-- another heap, the story's lists as they were -/
theorem SH.keep (x : SH K b l R M S H0 H rs Zs cs ds) (k : Nl H H') (kl : ∀ D xs, (D = R ∨ D = M ∨ D = S ∨ D ∈ Zs) → H D = some (.lst xs) → H' D = some (.lst xs)) : SH K b l R M S H0 H' rs Zs cs ds := by
  obtain ⟨xs, r1, r2⟩ := x.r
  obtain ⟨ss, s1, s2⟩ := x.s
  refine ⟨⟨xs, kl _ _ (.inl rfl) r1, Dp.nls k _ _ (noLs_rw rs) r2⟩, kl _ _ (.inr (.inl rfl)) x.m, fun i Z c h1 h2 => ?_, x.za, x.nd, x.ln, ss, kl _ _ (.inr (.inr (.inl rfl))) s1, Dp.nls k _ _ (noLs_st ds) s2⟩
  obtain ⟨zs, z1, z2⟩ := x.z i Z c h1 h2
  exact ⟨zs, kl _ _ (.inr (.inr (.inr (List.mem_of_getElem? h1)))) z1, Dp.nls k _ _ (noLs_dd c) z2⟩
theorem SH.kb (a : SA b l R M S H0) (k : Kb b l H H') (x : SH K b l R M S H0 H rs Zs cs ds) : SH K b l R M S H0 H' rs Zs cs ds :=
  x.keep k.nl fun D xs hD h => by
    rcases hD with rfl | rfl | rfl | hD
    · exact k.kp.ls _ _ h a.rb.1 a.rb.2
    · exact k.kp.ls _ _ h a.mb.1 a.mb.2
    · exact k.kp.ls _ _ h a.sb.1 a.sb.2
    · exact k.kp.ls _ _ h (x.za D hD).2.1.1 (x.za D hD).2.1.2
theorem SH.same (a : SA b l R M S H0) (e : Same H H') (x : SH K b l R M S H0 H rs Zs cs ds) : SH K b l R M S H0 H' rs Zs cs ds := x.kb a (Kb.same e)
theorem SH.updR (a : SA b l R M S H0) {xs : List V} {y : V} {q : Rw} (hD : H R = some (.lst xs)) (dy : Dp K H y (rwD q)) (x : SH K b l R M S H0 H rs Zs cs ds) : SH K b l R M S H0 (L2.upd H R (.lst (xs ++ [y]))) (rs ++ [q]) Zs cs ds := by
  have k := nl_updL (ys := xs ++ [y]) hD
  obtain ⟨z, r1, r2⟩ := x.r
  rw [hD] at r1
  cases r1
  obtain ⟨ss, s1, s2⟩ := x.s
  refine ⟨⟨xs ++ [y], upd_same, ?_⟩, by rw [upd_ne a.rm.symm]; exact x.m, fun i Z c h1 h2 => ?_, x.za, x.nd, x.ln, ss, by rw [upd_ne a.rs.symm]; exact s1, Dp.nls k _ _ (noLs_st ds) s2⟩
  · rw [List.map_append]
    exact DpAll.app (Dp.nls k _ _ (noLs_rw rs) r2) (.cons (Dp.nl k _ _ (noL_rw q) dy) .nil)
  · obtain ⟨zs, z1, z2⟩ := x.z i Z c h1 h2
    exact ⟨zs, by rw [upd_ne (x.za Z (List.mem_of_getElem? h1)).2.2.1]; exact z1, Dp.nls k _ _ (noLs_dd c) z2⟩
theorem SH.updS (a : SA b l R M S H0) {ss : List V} {y : V} {e : Hs} (hD : H S = some (.lst ss)) (dy : Dp K H y (stD e)) (x : SH K b l R M S H0 H rs Zs cs ds) : SH K b l R M S H0 (L2.upd H S (.lst (ss ++ [y]))) rs Zs cs (ds ++ [e]) := by
  have k := nl_updL (ys := ss ++ [y]) hD
  obtain ⟨xs, r1, r2⟩ := x.r
  obtain ⟨z, s1, s2⟩ := x.s
  rw [hD] at s1
  cases s1
  refine ⟨⟨xs, by rw [upd_ne a.rs]; exact r1, Dp.nls k _ _ (noLs_rw rs) r2⟩, by rw [upd_ne a.ms]; exact x.m, fun i Z c h1 h2 => ?_, x.za, x.nd, x.ln, ss ++ [y], upd_same, ?_⟩
  · obtain ⟨zs, z1, z2⟩ := x.z i Z c h1 h2
    exact ⟨zs, by rw [upd_ne (x.za Z (List.mem_of_getElem? h1)).2.2.2.2]; exact z1, Dp.nls k _ _ (noLs_dd c) z2⟩
  · rw [List.map_append]
    exact DpAll.app (Dp.nls k _ _ (noLs_st ds) s2) (.cons (Dp.nl k _ _ (noL_st e) dy) .nil)
/-- a new empty list of deeds is appended -/
theorem SH.newZ (a : SA b l R M S H0) {Z : Addr} (hZ : H Z = some (.lst [])) (nZ : Z ∉ Zs) (z0 : H0 Z = none) (zb : Z ≠ b ∧ Z ≠ l) (za : R ≠ Z ∧ M ≠ Z ∧ S ≠ Z) (x : SH K b l R M S H0 H rs Zs cs ds) : SH K b l R M S H0 (L2.upd H M (.lst (Zs.map V.ref ++ [.ref Z]))) rs (Zs ++ [Z]) (cs ++ [[]]) ds := by
  have k := nl_updL (ys := Zs.map V.ref ++ [V.ref Z]) x.m
  obtain ⟨xs, r1, r2⟩ := x.r
  obtain ⟨ss, s1, s2⟩ := x.s
  refine ⟨⟨xs, by rw [upd_ne a.rm]; exact r1, Dp.nls k _ _ (noLs_rw rs) r2⟩, by rw [upd_same, List.map_append]; rfl, fun i Y c h1 h2 => ?_, fun Y hY => ?_, ?_, by rw [List.length_append, List.length_append, x.ln]; rfl, ss, by rw [upd_ne a.ms.symm]; exact s1, Dp.nls k _ _ (noLs_st ds) s2⟩
  · by_cases hi : i < Zs.length
    · rw [List.getElem?_append_left hi] at h1
      rw [List.getElem?_append_left (by rw [← x.ln]; exact hi)] at h2
      obtain ⟨zs, z1, z2⟩ := x.z i Y c h1 h2
      exact ⟨zs, by rw [upd_ne (x.za Y (List.mem_of_getElem? h1)).2.2.2.1]; exact z1, Dp.nls k _ _ (noLs_dd c) z2⟩
    · have hl := (List.getElem?_eq_some_iff.mp h1).1
      rw [List.length_append] at hl
      have ei : i = Zs.length := by simp at hl; omega
      subst ei
      rw [List.getElem?_append_right (Nat.le_refl _), Nat.sub_self] at h1
      rw [x.ln, List.getElem?_append_right (Nat.le_refl _), Nat.sub_self] at h2
      cases h1
      cases h2
      exact ⟨[], by rw [upd_ne za.2.1.symm]; exact hZ, .nil⟩
  · rcases List.mem_append.mp hY with hY | hY
    · exact x.za Y hY
    · rw [List.mem_singleton.mp hY]
      exact ⟨z0, zb, za.1.symm, za.2.1.symm, za.2.2.symm⟩
  · rw [List.nodup_append]
    exact ⟨x.nd, by simp, fun a ha b hb => by rw [List.mem_singleton.mp hb]; exact fun e => nZ (e ▸ ha)⟩
/-- a deed is appended to the last list of deeds -/
theorem SH.updZ {Z : Addr} {zs : List V} {y : V} {e : Dd} {c : List Dd} (hZ : H Z = some (.lst zs)) (dy : Dp K H y (ddD e)) (a : SA b l R M S H0) (x : SH K b l R M S H0 H rs (Zs ++ [Z]) (cs ++ [c]) ds) : SH K b l R M S H0 (L2.upd H Z (.lst (zs ++ [y]))) rs (Zs ++ [Z]) (cs ++ [c ++ [e]]) ds := by
  have k := nl_updL (ys := zs ++ [y]) hZ
  obtain ⟨xs, r1, r2⟩ := x.r
  obtain ⟨ss, s1, s2⟩ := x.s
  have zz := (x.za Z (List.mem_append_right _ List.mem_cons_self)).2.2
  have ln : Zs.length = cs.length := by have := x.ln; rw [List.length_append, List.length_append] at this; simpa using this
  have nd := x.nd
  rw [List.nodup_append] at nd
  refine ⟨⟨xs, by rw [upd_ne zz.1.symm]; exact r1, Dp.nls k _ _ (noLs_rw rs) r2⟩, by rw [upd_ne zz.2.1.symm]; exact x.m, fun i Y c' h1 h2 => ?_, x.za, x.nd, by rw [List.length_append, List.length_append, ln]; rfl, ss, by rw [upd_ne zz.2.2.symm]; exact s1, Dp.nls k _ _ (noLs_st ds) s2⟩
  by_cases hi : i < Zs.length
  · have h1' := h1
    rw [List.getElem?_append_left hi] at h1'
    have h3 : (cs ++ [c])[i]? = some c' := by
      rw [List.getElem?_append_left (by omega)] at h2 ⊢
      exact h2
    obtain ⟨zs', z1, z2⟩ := x.z i Y c' h1 h3
    have ne : Y ≠ Z := fun q => nd.2.2 Y (List.mem_of_getElem? h1') Z List.mem_cons_self q
    exact ⟨zs', by rw [upd_ne ne]; exact z1, Dp.nls k _ _ (noLs_dd c') z2⟩
  · have hl := (List.getElem?_eq_some_iff.mp h1).1
    rw [List.length_append] at hl
    have ei : i = Zs.length := by simp at hl; omega
    subst ei
    obtain ⟨zs', z1, z2⟩ := x.z Zs.length Z c (by rw [List.getElem?_append_right (Nat.le_refl _), Nat.sub_self]; rfl) (by rw [ln, List.getElem?_append_right (Nat.le_refl _), Nat.sub_self]; rfl)
    rw [hZ] at z1
    cases z1
    rw [List.getElem?_append_right (Nat.le_refl _), Nat.sub_self] at h1
    rw [ln, List.getElem?_append_right (Nat.le_refl _), Nat.sub_self] at h2
    cases h1
    cases h2
    refine ⟨zs ++ [y], upd_same, ?_⟩
    rw [List.map_append]
    exact DpAll.app (Dp.nls k _ _ (noLs_dd c) z2) (.cons (Dp.nl k _ _ (noL_dd e) dy) .nil)
end
end Kw

set_option Elab.async false
set_option linter.all false
set_option maxRecDepth 100000
set_option maxHeartbeats 4000000
namespace Kw
open PySem PySem.Spec PyProof.Rows L2
section
variable {P : Program} {w : World} {K : PySem.W.Frag} {mg : Str → Option Value} {base : Heap}
theorem SH.last {b l R M S Z : Addr} {H0 H : Hp} {rs : List Rw} {Zs : List Addr} {cs : List (List Dd)} {c : List Dd} {ds : List Hs} (x : SH K b l R M S H0 H rs (Zs ++ [Z]) (cs ++ [c]) ds) : (∃ zs, H Z = some (.lst zs) ∧ DpAll K H zs (c.map ddD)) ∧ H M = some (.lst (Zs.map V.ref ++ [.ref Z])) := by
  have ln : Zs.length = cs.length := by have := x.ln; rw [List.length_append, List.length_append] at this; simpa using this
  refine ⟨x.z Zs.length Z c (by rw [List.getElem?_append_right (Nat.le_refl _), Nat.sub_self]; rfl) (by rw [ln, List.getElem?_append_right (Nat.le_refl _), Nat.sub_self]; rfl), ?_⟩
  have := x.m
  rw [List.map_append] at this
  exact this
theorem pick_dd {H : Hp} {xs : List V} {es : List Dd} {n : Nat} (h : DpAll K H xs (es.map ddD)) (hn : n < xs.length) : ∃ e, e ∈ es ∧ Dp K H xs[n] (ddD e) := by
  obtain ⟨dd, g1, g2⟩ := DpAll.get h (List.getElem?_eq_getElem hn)
  rw [List.getElem?_map] at g1
  cases he : es[n]? with
  | none => rw [he] at g1; cases g1
  | some e =>
    rw [he] at g1
    cases g1
    exact ⟨e, List.mem_of_getElem? he, g2⟩
def spStX (K : PySem.W.Frag) (C : Addr) : Sp := fun vs H Q _ => ∃ (b l h : Addr) (many sec : Int) (d0 : Hs), vs = [.ref b, .ref h, .int many, .int sec] ∧ 0 ≤ many ∧ many ≤ 20 ∧ 0 ≤ sec ∧ sec ≤ 10 ∧ BoxAt H b l ∧ HouseAt K C H h d0 ∧ HouseF K C H h d0 ∧ HsOk d0 ∧
  ∀ (t R M S : Addr) (rs : List Rw) (Zs : List Addr) (cs : List (List Dd)) (ds : List Hs) (d : Hs) H', SqT K H' t [.ref R, .ref M, .ref S] → SA b l R M S H → SH K b l R M S H H' rs Zs cs (ds ++ [d]) → PR d0 rs cs d → rs.length = many.toNat → (∀ x ∈ ds ++ [d], Shp d0 x) → ds.length = many.toNat → BoxAt H' b l → Kb b l H H' → Q (.ref t) H'
theorem ok_storyX {f gT gD gN gH gS gI C : Addr} {fd fdT fdD fdN fdH fdS fdI : FuncData} (F : Fun K "_law_story" "_law_story" sStory f fd) (B : Bt mg) (hc : HouseC K C) (GT : OnceF P w K mg base "_law_take" 1 ["_law_box", "_law_many"] spTake gT fdT)
    (GD : OnceF P w K mg base "_law_deeds" 3 ["_law_state", "_law_hands_here"] (spDeedsXL K) gD fdD) (GE : OnceF P w K mg base "_law_deeds" 3 ["_law_state", "_law_hands_here"] (spDeedsXT K) gD fdD) (GN : OnceF P w K mg base "_law_next" 2 ["_law_state", "_law_deed"] (spNext K) gN fdN)
    (GH : OnceF P w K mg base "_law_hands" 2 ["_law_box", "_law_house_here"] (spHands K C) gH fdH) (GS : OnceF P w K mg base "_law_sight" 3 ["_law_box", "_law_house_here", "_law_state"] (spSight K C) gS fdS) (GI : OnceF P w K mg base "_law_is" 3 ["_law_state", "_law_sight_here"] (spIs K 2) gI fdI) :
    FnOk P w K mg base CX0 4 f fd ["_law_box", "_law_house_here", "_law_many", "_law_secret"] (spStX K C) := by
  refine F.ok scStory (fun vs H Q E h => ?_) (fun cdv A outer s H vs Q E hr h => ?_)
  · obtain ⟨b, l, h, many, sec, d0, rfl, _⟩ := h
    rfl
  · obtain ⟨b, l, h, many, sec, d0, rfl, hm0, hm1, hs0, hs1, hB, hh, hF, hok, k⟩ := h
    have hr1 : Room 1 _ := hr.mono (by decide)
    have hr2 : Room 2 _ := hr.mono (by decide)
    have hr3 : Room 3 _ := hr
    have hu : (cxOf CX0 P w K mg base ["_law_box", "_law_house_here", "_law_many", "_law_secret", "_law_state", "_law_rows", "_law_course", "_law_states", "_law_turn", "_law_kind", "_law_deeds_here", "_law_hands_here", "_law_step", "_law_sight_here"] "_law_story" (defScope sStory) f cdv A outer s H E).nox.A.units + 64 < cLine := by have := hr.un; show (A.deeper _).units + 64 < cLine; omega
    refine ⟨_, (pss_cons (ps_asg (pe_tup (pa_cons (pe_fld (pv 1) rfl) (pa_cons (pe_lst pa_nil) (pa_cons (pe_lst pa_nil) (pa_cons (pe_lst (pa_cons (pe_fld (pv 1) rfl) pa_nil)) pa_nil))))) (pg_tup (by rfl) (pgs_cons (pg_name (i := 4) scStory.nd rfl (.inl rfl)) (pgs_cons (pg_name (i := 5) scStory.nd rfl (.inl rfl)) (pgs_cons (pg_name (i := 6) scStory.nd rfl (.inl rfl)) (pgs_cons (pg_name (i := 7) scStory.nd rfl (.inl rfl)) pgs_nil)))))) (pss_cons (ps_for PassesOwn.never rfl (pi_range1 rfl B.rng (pa_cons (pv 2) pa_nil)) (pg_name (i := 8) scStory.nd rfl (.inl rfl)) (pss_cons (ps_par (i := 9) (j := 10) rfl scStory.nd rfl rfl (by decide) rfl rfl (pa_cons (pe_call GT.G hr1 rfl GT.m GT.k GT.b .nil pass0 (pa_cons (pv 0) (pa_cons pe_int pa_nil))) (pa_cons (pe_call GD.G hr3 rfl GD.m GD.k GD.b .nil pass0 (pa_cons (pv 4) (pa_cons (pe_listRg rfl (by rfl) B.lst (prg_1 (by rfl) B.rng (pe_fld (pv 1) rfl))) pa_nil))) pa_nil)) (by rfl)) (pss_cons (ps_if (PW.pt (pw_and (pt_cmpR op_eq (pv 9) pe_int (nomark _)) (pw_and1 (pt_cmpR (op_neD hu) (pv 10) (pe_lst pa_nil) (nomark _))))) (pss_cons (ps_expr (pe_bm PySem.F.plainAttrs_list PySem.F.slot_list_append PySem.F.type_list_append mt_append (pv 5) (pa_cons (pe_ix ix_list (pv 10) (pe_call GT.G hr1 rfl GT.m GT.k GT.b .nil pass0 (pa_cons (pv 0) (pa_cons (pe_callB call_len_seq (by rfl) B.len PySem.boot_len (pa_cons (pv 10) pa_nil)) pa_nil))) (fun _ _ => rfl)) pa_nil))) (pss_one (ps_set (i := 4) scStory.nd rfl (.inl rfl) (pe_call GN.G hr2 rfl GN.m GN.k GN.b .nil pass0 (pa_cons (pv 4) (pa_cons (pe_ix ix_list (pv 5) (pe_un un_neg pe_int) (fun _ _ => rfl)) pa_nil)))))) (pss_one (ps_if (pt_cmpR op_eq (pv 9) pe_int (nomark _)) (pss_cons (ps_set (i := 11) scStory.nd rfl (.inl rfl) (pe_call GH.G hr2 rfl GH.m GH.k GH.b .nil pass0 (pa_cons (pv 0) (pa_cons (pv 1) pa_nil)))) (pss_cons (ps_expr (pe_bm PySem.F.plainAttrs_list PySem.F.slot_list_append PySem.F.type_list_append mt_append (pv 5) (pa_cons (pe_tup (pa_cons pe_str (pa_cons (pv 11) pa_nil))) pa_nil))) (pss_cons (ps_expr (pe_bm PySem.F.plainAttrs_list PySem.F.slot_list_append PySem.F.type_list_append mt_append (pv 6) (pa_cons (pe_lst pa_nil) pa_nil))) (pss_one (ps_for PassesOwn.never rfl (pi_range1 rfl B.rng (pa_cons (pe_call GT.G hr1 rfl GT.m GT.k GT.b .nil pass0 (pa_cons (pv 0) (pa_cons (pe_op op_add (pv 3) pe_int) pa_nil))) pa_nil)) (pg_name (i := 12) scStory.nd rfl (.inl rfl)) (pss_cons (ps_set (i := 10) scStory.nd rfl (.inl rfl) (pe_call GE.G hr3 rfl GE.m GE.k GE.b .nil pass0 (pa_cons (pv 4) (pa_cons (pv 11) pa_nil)))) (pss_one (ps_if (pt_cmpR (op_neD hu) (pv 10) (pe_lst pa_nil) (nomark _)) (pss_cons (ps_expr (pe_bm PySem.F.plainAttrs_list PySem.F.slot_list_append PySem.F.type_list_append mt_append (pe_ix ix_list (pv 6) (pe_un un_neg pe_int) (fun _ _ => rfl)) (pa_cons (pe_ix ix_list (pv 10) (pe_call GT.G hr1 rfl GT.m GT.k GT.b .nil pass0 (pa_cons (pv 0) (pa_cons (pe_callB call_len_seq (by rfl) B.len PySem.boot_len (pa_cons (pv 10) pa_nil)) pa_nil))) (fun _ _ => rfl)) pa_nil))) (pss_one (ps_set (i := 4) scStory.nd rfl (.inl rfl) (pe_call GN.G hr2 rfl GN.m GN.k GN.b .nil pass0 (pa_cons (pv 4) (pa_cons (pe_ix ix_list (pe_ix ix_list (pv 6) (pe_un un_neg pe_int) (fun _ _ => rfl)) (pe_un un_neg pe_int) (fun _ _ => rfl)) pa_nil)))))) pss_nil)))))))) (pss_cons (ps_set (i := 13) scStory.nd rfl (.inl rfl) (pe_call GS.G hr3 rfl GS.m GS.k GS.b .nil pass0 (pa_cons (pv 0) (pa_cons (pv 1) (pa_cons (pv 4) pa_nil))))) (pss_one (ps_expr (pe_bm PySem.F.plainAttrs_list PySem.F.slot_list_append PySem.F.type_list_append mt_append (pv 5) (pa_cons (pe_ifExp (pt_val (pe_call GI.G hr3 rfl GI.m GI.k GI.b .nil pass0 (pa_cons (pv 4) (pa_cons (pv 13) pa_nil)))) (pv 13) (pe_ifExp (pt_cmpR op_eq (pe_ix ix_tup (pv 13) pe_int (fun _ _ => rfl)) pe_str (nomark _)) (pe_ix ix_tup (pv 13) pe_int (fun _ _ => rfl)) (pe_tup (pa_cons pe_str (pa_cons (pv 13) pa_nil))))) pa_nil)))))))) (pss_one (ps_expr (pe_bm PySem.F.plainAttrs_list PySem.F.slot_list_append PySem.F.type_list_append mt_append (pv 7) (pa_cons (pv 4) pa_nil))))))) (pss_one (ps_ret (pe_tup (pa_cons (pv 5) (pa_cons (pv 6) (pa_cons (pv 7) pa_nil)))))))), ?_⟩
    have hL0 := hok.ls
    have o1 := hok.b1
    have o3 := hok.t1
    have o4 := hok.s1
    have o5 := hok.h0
    have o6 := hok.h1
    obtain ⟨nh, hnh⟩ := nat_of (show 0 ≤ d0.hands by omega)
    obtain ⟨dx, vb, vt, vs, vst, g0, stf⟩ := id hF
    obtain ⟨dx1, vb1, vt1, vs1, vst1, g0', g1, g2, g3, g4⟩ := id hh.ex
    -- what is at first
    refine ⟨_, rfl, h, C, dx, _, _, rfl, g0, hc.cl, hc.nSt, fs_state _ _ _ _ _, (by show 0 ≤ sizeLine; decide), fun R hR => ⟨(by show 0 ≤ sizeLine; decide), fun M hM => ?_⟩⟩
    have f1 := same_upd (o := HO.lst []) hR
    have f2 := same_upd (o := HO.lst []) hM
    have f12 := f1.trans f2
    refine ⟨_, rfl, h, C, dx, _, _, rfl, f12 _ _ g0, hc.cl, hc.nSt, fs_state _ _ _ _ _, (by show 1 ≤ sizeLine; decide), fun S hS => ⟨(by show 4 ≤ sizeLine; decide), fun T hT => ?_⟩⟩
    have f3 := same_upd (o := HO.lst [vst]) hS
    have f4 := same_upd (o := HO.tup [vst, V.ref R, V.ref M, V.ref S]) hT
    have f13 := f12.trans f3
    have f14 := f13.trans f4
    have hR4 := (f2.trans (f3.trans f4)) _ _ (upd_same (H := H) (a := R) (o := HO.lst []))
    have hM4 := (f3.trans f4) _ _ (upd_same (H := L2.upd H R (.lst [])) (a := M) (o := HO.lst []))
    have hS4 := f4 _ _ (upd_same (H := L2.upd (L2.upd H R (.lst [])) M (.lst [])) (a := S) (o := HO.lst [vst]))
    have nRM : R ≠ M := ne_of_none upd_same hM
    have nRS : R ≠ S := ne_of_none (f2 _ _ upd_same) hS
    have nMS : M ≠ S := ne_of_none upd_same hS
    have hM0 : H M = none := (Kb.same (b := b) (l := l) f1).fresh (hB.same f1) hM
    have hS0 : H S = none := (Kb.same (b := b) (l := l) f12).fresh (hB.same f12) hS
    have A : SA b l R M S H := ⟨hR, hM0, hS0, hB.neL hR, hB.neL hM0, hB.neL hS0, nRM, nRS, nMS⟩
    have X0 : SI K C b l h R M S d0 H 1 0 vst d0 _ := ⟨hB.same f14, hh.nl (nl_same f14), stf.same f14, Shp.refl _, hok.wf, Kb.same f14, ⟨[], [], hR4, .nil, rfl, fun r hr => by cases hr⟩, ⟨[], hM4, by simp⟩, ⟨[vst], hS4, by simp⟩⟩
    have G0 : SH K b l R M S H _ [] [] [] ([] ++ [d0]) := ⟨⟨[], hR4, .nil⟩, hM4, fun i Z c h1 => by simp at h1, fun Z hZ => (nomatch hZ), List.nodup_nil, rfl, [vst], hS4, .cons (stf.same f14).dp .nil⟩
    have sT := SqT.of (K := K) (upd_same (H := L2.upd (L2.upd (L2.upd H R (.lst [])) M (.lst [])) S (.lst [vst])) (a := T) (o := HO.tup [vst, V.ref R, V.ref M, V.ref S]))
    generalize L2.upd (L2.upd (L2.upd (L2.upd H R (.lst [])) M (.lst [])) S (.lst [vst])) T (.tup [vst, V.ref R, V.ref M, V.ref S]) = H4 at *
    refine ⟨T, _, rfl, sT, rfl, _, _, rfl, _, _, rfl, _, _, rfl, _, _, rfl, rfl, ?_⟩
    refine ⟨_, rfl, many, rfl, by omega, by omega, ?_⟩
    refine for_range (lo := 0) (n := many.toNat) (fun i σ H' => ∃ (v : V) (d : Hs) (u8 u9 u10 u11 u12 u13 : Option V) (rs : List Rw) (Zs : List Addr) (cs : List (List Dd)) (ds : List Hs), σ = [some (.ref b), some (.ref h), some (.int many), some (.int sec), some v, some (.ref R), some (.ref M), some (.ref S), u8, u9, u10, u11, u12, u13] ∧ SI K C b l h R M S d0 H (1 + 3 * i) i v d H' ∧ SH K b l R M S H H' rs Zs cs (ds ++ [d]) ∧ PR d0 rs cs d ∧ rs.length = i ∧ ds.length = i ∧ ∀ x ∈ ds ++ [d], Shp d0 x)
      ⟨vst, d0, none, none, none, none, none, none, [], [], [], [], rfl, X0, G0, PR.nil d0, rfl, rfl, fun x hx => by rw [List.mem_singleton.mp hx]; exact Shp.refl d0⟩ ?_ ?_
    · rintro i σ H1 hi ⟨v, d, u8, u9, u10, u11, u12, u13, rs, Zs, cs, ds, rfl, X1, G1, pr, lrs, lds, shs⟩
      have hi' : i < 20 := by omega
      -- the kind, the deeds
      refine ⟨_, rfl, b, l, 4, rfl, by omega, by omega, X1.bx, fun kd H2 kd0 kd1 hB2 k2 => ?_⟩
      have X2 := X1.keep A k2 hB2
      have G2 := G1.kb A k2
      obtain ⟨dx2, vb2, vt2, vs2, vst2, q0, _⟩ := id X2.hh.ex
      have rb : d0.bs.length = d.bs.length := X1.sh.r .box
      have rt : d0.ts.length = d.ts.length := X1.sh.r .thing
      have rsl : d0.ss.length = d.ss.length := X1.sh.r .sl
      have rh := X1.sh.h
      refine ⟨_, rfl, _, rfl, h, C, dx2, _, _, rfl, q0, hc.cl, hc.nH, fs_hands _ _ _ _ _, d0.hands, rfl, RgOk.of_le (by omega) (by omega) (by omega) (by omega), fun qh hqh => ?_⟩
      have e1 := same_upd (o := HO.lst (rgV 0 d0.hands)) hqh
      refine ⟨v, qh, d, List.range nh, rfl, Dp.same e1 _ _ X2.st.dp, by rw [← rg_nV, ← hnh]; exact upd_same, by rw [List.length_range]; omega, fun u hu => by have := List.mem_range.mp hu; omega, by omega, by omega, by omega, by omega, fun p xs es H3 e3 hpn hp des les mem => ⟨_, _, rfl, ?_⟩⟩
      have X3 := X2.same A (e1.trans e3)
      have G3 := G2.same A (e1.trans e3)
      have lxs : xs.length = es.length := by rw [DpAll.len des, List.length_map]
      have hhs : ∀ u ∈ List.range nh, ((u : Nat) : Int) < d.hands := fun u hu => by have := List.mem_range.mp hu; omega
      have h4 : d.hands ≤ 4 := by omega
      obtain ⟨pb, pl⟩ := (X2.bx.same e1).neL hpn
      dsimp only
      refine seq_cont (fun σ' H' => ∃ (v' : V) (d' : Hs) (w8 w9 w10 w11 w12 w13 : Option V) (rs' : List Rw) (Zs' : List Addr) (cs' : List (List Dd)), σ' = [some (.ref b), some (.ref h), some (.int many), some (.int sec), some v', some (.ref R), some (.ref M), some (.ref S), w8, w9, w10, w11, w12, w13] ∧ SI K C b l h R M S d0 H (1 + 3 * i + 2) (i + 1) v' d' H' ∧ SH K b l R M S H H' rs' Zs' cs' (ds ++ [d]) ∧ PR d0 rs' cs' d' ∧ rs'.length = i + 1) (fun D' kD => ?_) ?_
      · refine ifs_by (fun b H' => Same H3 H' ∧ (b = true → xs ≠ [])) (fun Q' kq => ?_) (fun H4 p4 => ?_) (fun H4 p4 => ?_)
        · refine ⟨_, rfl, rfl, _, rfl, ?_⟩
          rw [decZ]
          by_cases c : kd = 0
          · rw [decide_eq_true c]
            refine iteT ⟨_, rfl, (by show 0 ≤ sizeLine; decide), fun q hq => ?_⟩
            have f5 := same_upd (o := HO.lst []) hq
            refine ⟨.list (es.map ddD), .list [], .lst (SqL.of (f5 _ _ hp)) (Dp.sames f5 _ _ des), .lst (SqL.of upd_same) .nil, shaped_dds es, rfl, _, rfl, kq _ _ ⟨f5, fun z ex => ?_⟩⟩
            have en : es = [] := List.eq_nil_of_length_eq_zero (by rw [← lxs, ex]; rfl)
            subst en
            exact absurd (show (false : Bool) = true from z) (by decide)
          · rw [decide_eq_false c]
            exact iteF (kq _ _ ⟨Same.refl _, fun z => by cases z⟩)
        · -- a deed that is told
          obtain ⟨e4, ne⟩ := p4
          have ne := ne rfl
          have X4 := X3.same A e4
          have G4 := G3.same A e4
          have hp4 := e4 _ _ hp
          have l0 : 1 ≤ xs.length := by
            cases xs with
            | nil => exact absurd rfl ne
            | cons x r => simp
          obtain ⟨rs0, _, hr1', _⟩ := id X4.r
          refine ⟨_, rfl, .inl ⟨rfl, _, SqL.of hr1'⟩, _, rfl, _, rfl, _, rfl, p, xs, rfl, .inl (SqL.of hp4), b, l, (xs.length : Nat), rfl, by omega, by omega, X4.bx, fun r H5 r0 r1 hB5 k5 => ?_⟩
          obtain ⟨n5, rfl⟩ := nat_of r0
          have hn5 : n5 < xs.length := by omega
          have X5 := X4.keep A k5 hB5
          have G5 := G4.kb A k5
          have hp5 := k5.kp.ls _ _ hp4 pb pl
          obtain ⟨ed, hmem, hd0⟩ := pick_dd des hn5
          have hd1 := Dp.nl k5.nl _ _ (noL_dd ed) (Dp.same e4 _ _ hd0)
          obtain ⟨m1, hd4⟩ := (mem ed).mp hmem
          have hd2 := kn_in m1
          have hd3 := hb_in hhs m1
          have hd5 := sm_in hhs h4 (X1.sh.ls hL0) m1
          have okd : RwOk d0 (.deed ed) := ⟨(unk_shp X5.sh ed).trans (unk_of hd2 hd3), hd5⟩
          obtain ⟨rs5, qs5, hr5, dr5, lr5, or5⟩ := id X5.r
          refine ⟨p, xs, (n5 : Nat), xs[n5], rfl, rfl, SqL.of hp5, atI_nat (List.getElem?_eq_getElem hn5), R, rs5, xs[n5], rfl, rfl, hr5, by rw [sizeLine_eq]; omega, ?_⟩
          have X6 := X5.updR A hr5 (r := .deed ed) hd1 okd
          have G6 := G5.updR A hr5 (q := .deed ed) hd1
          have k6 := nl_updL (ys := rs5 ++ [xs[n5]]) hr5
          refine ⟨_, rfl, _, rfl, 1, rfl, R, _, -1, xs[n5], rfl, rfl, SqL.of upd_same, at_last _ _, v, _, d, ed, rfl, X6.st, Dp.nl k6 _ _ (noL_dd ed) hd1, hd2, hd4, fun v' H7 e7 st7 => ?_⟩
          exact kD _ _ ⟨v', nextOf d ed, _, _, _, _, _, _, _, _, _, rfl, ((X6.same A e7).next st7 hd2 hd3 hd4).more (by omega), G6.same A e7, pr.row okd rfl (if_pos ⟨okd.1, hd4⟩), by rw [List.length_append, lrs]; rfl⟩
        obtain ⟨e4, _⟩ := p4
        have X4 := X3.same A e4
        have G4 := G3.same A e4
        refine ifs_by (fun b H' => H' = H4) (fun Q' kq => ?_) (fun H5 p5 => ?_) (fun H5 p5 => ?_)
        · refine ⟨_, rfl, rfl, _, rfl, ?_⟩
          exact kq _ _ rfl
        · -- a gap
          subst p5
          refine ⟨_, rfl, _, rfl, b, l, h, d0, rfl, X4.bx, X4.hh, by omega, by omega, fun th hs H6 sth lhs ohs phs hB6 k6 => ?_⟩
          have X6 := X4.keep A k6 hB6
          have G6 := G4.kb A k6
          obtain ⟨rs6, qs6, hr6, dr6, lr6, or6⟩ := id X6.r
          refine ⟨_, rfl, .inl ⟨rfl, _, SqL.of hr6⟩, _, rfl, (by show 2 ≤ sizeLine; decide), fun tg htg => ?_⟩
          have f7 := same_upd (o := HO.tup [.str ("gap" : Str), .ref th]) htg
          refine ⟨R, rs6, .ref tg, rfl, rfl, f7 _ _ hr6, by rw [sizeLine_eq]; omega, ?_⟩
          have sth6 := SqT.same f7 sth
          have okg : RwOk d0 (.gap (hsZ hs)) := ⟨okH_of ohs phs, by show (hsZ hs).length ≤ 100; unfold hsZ; rw [List.length_map]; omega⟩
          have dyg : Dp K (L2.upd H6 tg (.tup [.str ("gap" : Str), .ref th])) (.ref tg) (rwD (.gap (hsZ hs))) := .tup (SqT.of upd_same) (.cons (.str _) (.cons (.tup (by rw [hsZ_V]; exact sth6) (ints_all K _ _)) .nil))
          have X7 := (X6.same A f7).updR A (f7 _ _ hr6) (y := .ref tg) (r := .gap (hsZ hs)) dyg okg
          have G7 := (G6.same A f7).updR A (f7 _ _ hr6) (y := .ref tg) (q := .gap (hsZ hs)) dyg
          have prg := pr.gap ⟨okg, fun zs z => by cases z; exact ⟨hs, rfl, lhs, ohs⟩⟩
          clear dyg
          have sth7 := SqT.nl (nl_updL (ys := rs6 ++ [.ref tg]) (f7 _ _ hr6)) (SqT.same f7 sth)
          generalize L2.upd (L2.upd H6 tg (.tup [.str ("gap" : Str), .ref th])) R (.lst (rs6 ++ [.ref tg])) = H7 at *
          obtain ⟨ms7, hm7, lm7⟩ := id X7.m
          obtain rfl : ms7 = Zs.map V.ref := by have q := G7.m; rw [hm7] at q; cases q; rfl
          have lm7 : Zs.length ≤ 1 + 3 * i := by rw [List.length_map] at lm7; exact lm7
          refine ⟨_, rfl, .inl ⟨rfl, _, SqL.of hm7⟩, (by show 0 ≤ sizeLine; decide), fun Z hZ => ?_⟩
          have f8 := same_upd (o := HO.lst []) hZ
          have Z0 : H Z = none := X7.kb.fresh X7.bx hZ
          have Zb := X7.bx.neL hZ
          have ZR : R ≠ Z ∧ M ≠ Z ∧ S ≠ Z := by
            obtain ⟨_, _, q1, _⟩ := id X7.r
            obtain ⟨_, q2, _⟩ := id X7.m
            obtain ⟨_, q3, _⟩ := id X7.s
            exact ⟨ne_of_none q1 hZ, ne_of_none q2 hZ, ne_of_none q3 hZ⟩
          refine ⟨M, Zs.map V.ref, .ref Z, rfl, rfl, f8 _ _ hm7, by rw [sizeLine_eq]; omega, ?_⟩
          have X8 := (X7.same A f8).updM A (f8 _ _ hm7) A.m0 A.mb A.rm (ys := Zs.map V.ref ++ [V.ref Z]) (by rw [List.length_append]; simp; omega)
          have nZ : Z ∉ Zs := fun hz => by obtain ⟨o, ho⟩ := G7.has hz; rw [hZ] at ho; cases ho
          have G8 := (G7.same A f8).newZ A upd_same nZ Z0 Zb ZR
          have sth8 := SqT.nl (nl_updL (ys := Zs.map V.ref ++ [V.ref Z]) (f8 _ _ hm7)) (SqT.same f8 sth7)
          have hZ8 : (L2.upd (L2.upd H7 Z (.lst [])) M (.lst (Zs.map V.ref ++ [.ref Z]))) Z = some (.lst []) := by rw [upd_ne ZR.2.1.symm]; exact upd_same
          have hM8 : (L2.upd (L2.upd H7 Z (.lst [])) M (.lst (Zs.map V.ref ++ [.ref Z]))) M = some (.lst (Zs.map V.ref ++ [.ref Z])) := upd_same
          generalize L2.upd (L2.upd H7 Z (.lst [])) M (.lst (Zs.map V.ref ++ [.ref Z])) = H8 at *
          refine ⟨_, rfl, _, rfl, _, _, rfl, rfl, b, l, sec + 1, rfl, by omega, by omega, X8.bx, fun nS H9 nS0 nS1 hB9 k9 => ⟨nS, rfl, by omega, by omega, ?_⟩⟩
          refine for_range (lo := 0) (n := nS.toNat) (fun j σ H' => ∃ (v : V) (d1 : Hs) (u8 u9 u10 u12 u13 : Option V) (c : List Dd), σ = [some (.ref b), some (.ref h), some (.int many), some (.int sec), some v, some (.ref R), some (.ref M), some (.ref S), u8, u9, u10, some (.ref th), u12, u13] ∧ SI K C b l h R M S d0 H (1 + 3 * i + 2) (i + 1) v d1 H' ∧ SqT K H' th (nV hs) ∧ SH K b l R M S H H' (rs ++ [.gap (hsZ hs)]) (Zs ++ [Z]) (cs ++ [c]) (ds ++ [d]) ∧ PR d0 (rs ++ [.gap (hsZ hs)]) (cs ++ [c]) d1 ∧ c.length ≤ j)
            ⟨v, d, _, _, _, _, _, [], rfl, (X8.keep A k9 hB9).more (by omega), SqT.nl k9.nl sth8, G8.kb A k9, prg, Nat.zero_le _⟩ ?_ ?_
          · rintro j σ H10 hj ⟨v, d1, u8, u9, u10, u12, u13, c, rfl, Y, sth10, G10, pr10, lc⟩
            obtain ⟨⟨zs, hz10, dz10⟩, hM10⟩ := G10.last
            have lz10 : zs.length = c.length := by rw [DpAll.len dz10, List.length_map]
            have rb' : d0.bs.length = d1.bs.length := Y.sh.r .box
            have rt' : d0.ts.length = d1.ts.length := Y.sh.r .thing
            have rs' : d0.ss.length = d1.ss.length := Y.sh.r .sl
            have rh' := Y.sh.h
            have hhs1 : ∀ u ∈ hs, ((u : Nat) : Int) < d1.hands := fun u hu => by have := ohs u hu; omega
            have h41 : d1.hands ≤ 4 := by omega
            refine ⟨_, rfl, _, rfl, v, th, d1, hs, rfl, Y.st.dp, sth10, lhs, hhs1, h41, by omega, by omega, by omega, fun p xs es H11 e11 hpn hp des les mem => ?_⟩
            obtain ⟨pb, pl⟩ := Y.bx.neL hpn
            have Y1 := Y.same A e11
            have lxs : xs.length = es.length := by rw [DpAll.len des, List.length_map]
            refine ⟨_, rfl, (by show 0 ≤ sizeLine; decide), fun q hq => ?_⟩
            have f12 := same_upd (o := HO.lst []) hq
            refine ⟨.list (es.map ddD), .list [], .lst (SqL.of (f12 _ _ hp)) (Dp.sames f12 _ _ des), .lst (SqL.of upd_same) .nil, shaped_dds es, rfl, _, rfl, ?_⟩
            have e12 := e11.trans f12
            have Y2 := Y.same A e12
            have G12 := G10.same A e12
            have hp12 := f12 _ _ hp
            have hz12 := e12 _ _ hz10
            have hM12 := e12 _ _ hM10
            have sth12 := SqT.same e12 sth10
            refine ite_b _ (fun cne => ?_) (fun _ => ?_)
            · have l0 : 1 ≤ xs.length := by
                cases xs with
                | nil =>
                  have en : es = [] := List.eq_nil_of_length_eq_zero (by rw [← lxs]; rfl)
                  subst en
                  exact absurd (show (false : Bool) = true from cne) (by decide)
                | cons x r => simp
              refine ⟨_, rfl, 1, rfl, M, _, -1, .ref Z, rfl, rfl, SqL.of hM12, at_last _ _, .inl ⟨rfl, _, SqL.of hz12⟩, _, rfl, _, rfl, _, rfl, p, xs, rfl, .inl (SqL.of hp12), b, l, (xs.length : Nat), rfl, by omega, by omega, Y2.bx, fun r H13 r0 r1 hB13 k13 => ?_⟩
              obtain ⟨n5, rfl⟩ := nat_of r0
              have hn5 : n5 < xs.length := by omega
              have Y3 := Y2.keep A k13 hB13
              have G13 := G12.kb A k13
              have hp13 := k13.kp.ls _ _ hp12 pb pl
              have hz13 := k13.kp.ls _ _ hz12 Zb.1 Zb.2
              have hM13 := k13.kp.ls _ _ hM12 A.mb.1 A.mb.2
              obtain ⟨ed, hmem, hd0⟩ := pick_dd des hn5
              have hd1 := Dp.nl k13.nl _ _ (noL_dd ed) (Dp.same f12 _ _ hd0)
              obtain ⟨m1, hd4⟩ := (mem ed).mp hmem
              have hd2 := kn_in m1
              have hd3 := hb_in hhs1 m1
              have hd5 := sm_in hhs1 h41 (Y.sh.ls hL0) m1
              have hstep := stepS_some (hs := hs) Y.sh (knB_in Y.sh ohs m1) ⟨m1, hd4⟩
              refine ⟨p, xs, (n5 : Nat), xs[n5], rfl, rfl, SqL.of hp13, atI_nat (List.getElem?_eq_getElem hn5), Z, zs, xs[n5], rfl, rfl, hz13, by rw [sizeLine_eq]; omega, ?_⟩
              have Y4 := Y3.updZ A hz13 Z0 Zb ZR (ys := zs ++ [xs[n5]])
              have G14 := SH.updZ hz13 hd1 A G13
              have k14 := nl_updL (ys := zs ++ [xs[n5]]) hz13
              have hM14 : (L2.upd H13 Z (.lst (zs ++ [xs[n5]]))) M = some (.lst (Zs.map V.ref ++ [.ref Z])) := by rw [upd_ne ZR.2.1]; exact hM13
              refine ⟨_, rfl, _, rfl, 1, rfl, M, _, -1, .ref Z, rfl, rfl, SqL.of hM14, at_last _ _, 1, rfl, Z, _, -1, xs[n5], rfl, rfl, SqL.of upd_same, at_last _ _, v, _, d1, ed, rfl, Y4.st, Dp.nl k14 _ _ (noL_dd ed) hd1, hd2, hd4, fun v' H15 e15 st15 => ?_⟩
              exact ⟨v', nextOf d1 ed, _, _, _, _, _, c ++ [ed], rfl, (Y4.same A e15).next st15 hd2 hd3 hd4, SqT.same e15 (SqT.nl k14 (SqT.nl k13.nl sth12)), G14.same A e15, pr10.more (by omega) hd5 hstep, by rw [List.length_append]; simp; omega⟩
            · exact ⟨v, d1, _, _, _, _, _, c, rfl, Y2, sth12, G12, pr10, by omega⟩
          · rintro σ H10 ⟨v, d1, u8, u9, u10, u12, u13, c, rfl, Y, _, G10, pr10, _⟩
            exact kD _ _ ⟨v, d1, _, _, _, _, _, _, _, _, _, rfl, Y, G10, pr10, by rw [List.length_append, lrs]; rfl⟩
        · -- a sight
          subst p5
          refine ⟨_, rfl, _, rfl, _, rfl, b, l, h, v, d0, d, rfl, X4.bx, X4.hh, X4.st.dp, X4.sh, hok, X4.wf, fun y g H6 dy sg hB6 k6 => ?_⟩
          have X6 := X4.keep A k6 hB6
          have G6 := G4.kb A k6
          obtain ⟨rs6, qs6, hr6, dr6, lr6, or6⟩ := id X6.r
          obtain ⟨sg1, sg2, sg3⟩ := sg
          have hL := X4.sh.ls hL0
          have fin : ∀ (y' : V) (r' : Rw) (H8 : Hp), Same H6 H8 → Dp K H8 y' (rwD r') → RwOk d0 r' → isGap r' = false → stepR d0 d r' = some d → rAppend (.ref R) [y'] H8 fun x H9 => D'.nx [some (.ref b), some (.ref h), some (.int many), some (.int sec), some v, some (.ref R), some (.ref M), some (.ref S), some (.int (0 + (i : Int))), some (.int kd), some (.ref p), u11, u12, some y] H9 := fun y' r' H8 e8 dy' ok' ng' st' => by
            refine ⟨R, rs6, y', rfl, rfl, e8 _ _ hr6, by rw [sizeLine_eq]; omega, ?_⟩
            exact kD _ _ ⟨v, d, _, _, _, _, _, _, _, _, _, rfl, ((X6.same A e8).updR A (e8 _ _ hr6) dy' ok').more (by omega), (G6.same A e8).updR A (e8 _ _ hr6) dy', pr.row ok' ng' st', by rw [List.length_append, lrs]; rfl⟩
          have okg : RwOk d0 (.sight g) := ⟨(unkS_shp X6.sh g).trans sg3, sg2, by omega⟩
          refine ⟨_, rfl, .inl ⟨rfl, _, SqL.of hr6⟩, _, rfl, _, rfl, v, y, d, g, rfl, by omega, X6.st.dp, dy, unk_knS sg2 sg3, hL, fun H7 e7 => ⟨_, rfl, ?_⟩⟩
          refine ite_b _ (fun ct => ⟨_, rfl, fin y (.sight g) H7 e7 (Dp.same e7 _ _ dy) okg rfl (if_pos ct)⟩) (fun cf => ?_)
          obtain ⟨ay, vs, rfl, sy, dvs⟩ := sg_at (Dp.same e7 _ _ dy)
          refine ⟨_, rfl, ay, _, 0, _, rfl, rfl, sy, atI_nat (j := 0) rfl, rfl, _, rfl, ?_⟩
          rw [decS]
          by_cases c : sgW g = ("not" : Str)
          · rw [decide_eq_true c]
            cases vs with
            | nil => cases g <;> cases dvs
            | cons v0 r =>
              obtain ⟨g', rfl⟩ := ((sg_wd (d := d) g).1.mp c)
              cases dvs with
              | cons dv0 _ => exact iteT ⟨_, rfl, ay, _, 1, v0, rfl, rfl, sy, atI_nat (j := 1) rfl, fin v0 (.sight g') H7 e7 dv0 ⟨okg.1, okg.2.1, by have h := okg.2.2; simp only [depS] at h; omega⟩ rfl (if_pos (by have q : (!isS d g') = false := cf; simpa using q))⟩
          · rw [decide_eq_false c]
            have dg : depS g = 0 := by
              cases g with
              | nt g' => exact absurd rfl c
              | _ => rfl
            exact iteF ⟨_, rfl, (by show 2 ≤ sizeLine; decide), fun t9 ht9 => fin (.ref t9) (.sight (.nt g)) _ (e7.trans (same_upd ht9)) (.tup (SqT.of upd_same) (.cons (.str _) (.cons (Dp.same (e7.trans (same_upd ht9)) _ _ dy) .nil))) ⟨okg.1, okg.2.1, by show depS g + 1 < 2; omega⟩ rfl (if_pos (by show (!isS d g) = true; rw [cf]; rfl))⟩
      · rintro σ' H' ⟨v', d', w8, w9, w10, w11, w12, w13, rs', Zs', cs', rfl, X9, G9, pr9, lr9⟩
        obtain ⟨ss, hs1, hs2⟩ := X9.s
        refine ⟨_, rfl, .inl ⟨rfl, _, SqL.of hs1⟩, _, rfl, S, ss, v', rfl, rfl, hs1, by rw [sizeLine_eq]; omega, ?_⟩
        exact ⟨v', d', _, _, _, _, _, _, rs', Zs', cs', ds ++ [d], rfl, (X9.updM A hs1 A.s0 A.sb A.rs (by rw [List.length_append]; simp; omega)).more (by omega), G9.updS A hs1 X9.st.dp, pr9, lr9, by rw [List.length_append, lds]; rfl, fun x hx => by
          rcases List.mem_append.mp hx with hx | hx
          · exact shs x hx
          · rw [List.mem_singleton.mp hx]; exact X9.sh⟩
    · rintro σ H1 ⟨v, d, u8, u9, u10, u11, u12, u13, rs, Zs, cs, ds, rfl, X1, G1, pr, lrs, lds, shs⟩
      refine ⟨_, rfl, _, rfl, _, rfl, (by show 3 ≤ sizeLine; decide), fun t ht => ?_⟩
      have f5 := same_upd (o := HO.tup [V.ref R, V.ref M, V.ref S]) ht
      exact k t R M S rs Zs cs ds d _ (SqT.of upd_same) A (G1.same A f5) pr lrs shs lds (X1.bx.same f5) (X1.kb.trans (Kb.same f5))
end
end Kw

set_option Elab.async false
set_option linter.all false
set_option maxRecDepth 100000
set_option maxHeartbeats 4000000
namespace Kw
open PySem PySem.Spec PyProof.Rows L2
theorem Tabs.kb {T : List (Addr × Str)} {b l : Addr} {H H' : Hp} (k : Kb b l H H') (t : LamX.Tabs T H) : LamX.Tabs T H' := fun p hp => by
  obtain ⟨ps, h1, h2, h3⟩ := t p hp
  refine ⟨ps, k.tb _ _ h1, h2, fun pos cv hc => ?_⟩
  obtain ⟨c, e1, e2⟩ := h3 pos cv hc
  exact ⟨c, e1, k.kp.nl _ _ e2 (fun xs z => by unfold LamX.CodeO at z; cases z) (fun ps z => LamX.codeO_ne ps z)⟩
theorem tabs_updL {T : List (Addr × Str)} {H : Hp} {D : Addr} {xs : List V} {o : HO} (hD : H D = some (.lst xs)) (t : LamX.Tabs T H) : LamX.Tabs T (L2.upd H D o) := fun p hp => by
  obtain ⟨ps, h1, h2, h3⟩ := t p hp
  refine ⟨ps, by rw [upd_ne (ne_of h1 hD (by intro z; cases z))]; exact h1, h2, fun pos cv hc => ?_⟩
  obtain ⟨c, e1, e2⟩ := h3 pos cv hc
  exact ⟨c, e1, by rw [upd_ne (ne_of e2 hD (by intro z; unfold LamX.CodeO at z; cases z))]; exact e2⟩
theorem ext_nl {H H' : Hp} (e : LamX.ExtN H H') : Nl H H' := fun a o h _ n => e a o h n
theorem ext_lst {H H' : Hp} (e : LamX.ExtN H H') {a : Addr} {xs : List V} (h : H a = some (.lst xs)) : H' a = some (.lst xs) := e _ _ h fun _ z => nomatch z
theorem box_ext {b l : Addr} {H H' : Hp} (e : LamX.ExtN H H') (x : BoxAt H b l) : BoxAt H' b l := by
  obtain ⟨ns, m, h1, h2, h3⟩ := x
  exact ⟨ns, m, ext_lst e h1, ext_lst e h2, h3⟩
/-- lists of deeds at hand -/
def ExL (K : PySem.W.Frag) (H : Hp) (ex : List (Addr × List Dd)) : Prop := ∀ p ∈ ex, ∃ xs, H p.1 = some (.lst xs) ∧ DpAll K H xs (p.2.map ddD)
def Prot (R M S : Addr) (Zs : List Addr) (ex : List (Addr × List Dd)) (D : Addr) : Prop := D = R ∨ D = M ∨ D = S ∨ D ∈ Zs ∨ D ∈ ex.map (·.1)
structure WA (K : PySem.W.Frag) (C CL : Addr) (T : List (Addr × Str)) (b l h g R M S : Addr) (Hs0 : Hp) (d0 : Hs) (rs : List Rw) (Zs : List Addr) (cs : List (List Dd)) (ds : List Hs) (ex : List (Addr × List Dd)) (H : Hp) : Prop where
  bx : BoxAt H b l
  tb : LamX.Tabs T H
  la : LogAt K C CL H g h d0 rs
  hF : HouseF K C H h d0
  sh : SH K b l R M S Hs0 H rs Zs cs ds
  xl : ExL K H ex
  en : ∀ p ∈ ex, p.1 ≠ b ∧ p.1 ≠ l
section
variable {K : PySem.W.Frag} {C CL : Addr} {T : List (Addr × Str)} {b l h g R M S : Addr} {Hs0 : Hp} {d0 : Hs} {rs : List Rw} {Zs : List Addr} {cs : List (List Dd)} {ds : List Hs} {ex : List (Addr × List Dd)} {H H' : Hp}
theorem WA.move (x : WA K C CL T b l h g R M S Hs0 d0 rs Zs cs ds ex H) (k : Nl H H') (hB : BoxAt H' b l) (ht : LamX.Tabs T H') (kl : ∀ D xs, Prot R M S Zs ex D → H D = some (.lst xs) → H' D = some (.lst xs)) : WA K C CL T b l h g R M S Hs0 d0 rs Zs cs ds ex H' := by
  refine ⟨hB, ht, x.la.nl k, x.hF.nl k, x.sh.keep k fun D xs hD => kl D xs (by
    rcases hD with h | h | h | h
    · exact .inl h
    · exact .inr (.inl h)
    · exact .inr (.inr (.inl h))
    · exact .inr (.inr (.inr (.inl h)))), fun p hp => ?_, x.en⟩
  obtain ⟨xs, h1, h2⟩ := x.xl p hp
  exact ⟨xs, kl _ _ (.inr (.inr (.inr (.inr (List.mem_map_of_mem hp))))) h1, Dp.nls k _ _ (noLs_dd p.2) h2⟩
theorem WA.nbl (a : SA b l R M S Hs0) (x : WA K C CL T b l h g R M S Hs0 d0 rs Zs cs ds ex H) {D : Addr} (hD : Prot R M S Zs ex D) : D ≠ b ∧ D ≠ l := by
  rcases hD with rfl | rfl | rfl | hD | hD
  · exact a.rb
  · exact a.mb
  · exact a.sb
  · exact (x.sh.za D hD).2.1
  · obtain ⟨p, hp, rfl⟩ := List.mem_map.mp hD
    exact x.en p hp
theorem WA.kb (a : SA b l R M S Hs0) (k : Kb b l H H') (hB : BoxAt H' b l) (x : WA K C CL T b l h g R M S Hs0 d0 rs Zs cs ds ex H) : WA K C CL T b l h g R M S Hs0 d0 rs Zs cs ds ex H' :=
  x.move k.nl hB (Tabs.kb k x.tb) fun D xs hD h => k.kp.ls _ _ h (x.nbl a hD).1 (x.nbl a hD).2
theorem WA.same (a : SA b l R M S Hs0) (e : Same H H') (x : WA K C CL T b l h g R M S Hs0 d0 rs Zs cs ds ex H) : WA K C CL T b l h g R M S Hs0 d0 rs Zs cs ds ex H' := x.kb a (Kb.same e) (x.bx.same e)
theorem WA.extL (e : LamX.ExtN H H') (t : LamX.Tabs T H') (x : WA K C CL T b l h g R M S Hs0 d0 rs Zs cs ds ex H) : WA K C CL T b l h g R M S Hs0 d0 rs Zs cs ds ex H' :=
  x.move (ext_nl e) (box_ext e x.bx) t fun D xs _ h => ext_lst e h
theorem WA.has (x : WA K C CL T b l h g R M S Hs0 d0 rs Zs cs ds ex H) {D : Addr} (hD : Prot R M S Zs ex D) : ∃ o, H D = some o := by
  rcases hD with rfl | rfl | rfl | hD | hD
  · obtain ⟨xs, h, _⟩ := x.sh.r; exact ⟨_, h⟩
  · exact ⟨_, x.sh.m⟩
  · obtain ⟨xs, h, _⟩ := x.sh.s; exact ⟨_, h⟩
  · exact x.sh.has hD
  · obtain ⟨p, hp, rfl⟩ := List.mem_map.mp hD
    obtain ⟨xs, h, _⟩ := x.xl p hp
    exact ⟨_, h⟩
/-- another list is changed -/
theorem WA.updD {D : Addr} {xs ys : List V} (hD : H D = some (.lst xs)) (nb : D ≠ b ∧ D ≠ l) (np : ¬ Prot R M S Zs ex D) (x : WA K C CL T b l h g R M S Hs0 d0 rs Zs cs ds ex H) : WA K C CL T b l h g R M S Hs0 d0 rs Zs cs ds ex (L2.upd H D (.lst ys)) :=
  x.move (nl_updL hD) (x.bx.updD nb.1 nb.2) (tabs_updL hD x.tb) fun A zs hA h => by
    have ne : A ≠ D := fun z => by subst z; exact np hA
    rw [upd_ne ne]; exact h
theorem WA.add {E : Addr} {xs : List V} {es : List Dd} (hE : H E = some (.lst xs)) (de : DpAll K H xs (es.map ddD)) (ne : E ≠ b ∧ E ≠ l) (x : WA K C CL T b l h g R M S Hs0 d0 rs Zs cs ds ex H) : WA K C CL T b l h g R M S Hs0 d0 rs Zs cs ds ((E, es) :: ex) H :=
  ⟨x.bx, x.tb, x.la, x.hF, x.sh, fun p hp => by
    rcases List.mem_cons.mp hp with rfl | hp
    · exact ⟨xs, hE, de⟩
    · exact x.xl p hp, fun p hp => by
    rcases List.mem_cons.mp hp with rfl | hp
    · exact ne
    · exact x.en p hp⟩
/-- the course as data -/
theorem SH.course (x : SH K b l R M S Hs0 H rs Zs cs ds) : DpAll K H (Zs.map V.ref) (cs.map coD) := by
  have go : ∀ (Zs : List Addr) (cs : List (List Dd)), Zs.length = cs.length → (∀ (i : Nat) Z c, Zs[i]? = some Z → cs[i]? = some c → ∃ zs, H Z = some (.lst zs) ∧ DpAll K H zs (c.map ddD)) → DpAll K H (Zs.map V.ref) (cs.map coD) := by
    intro Zs
    induction Zs with
    | nil =>
      intro cs l _
      cases cs with
      | nil => exact .nil
      | cons c cs => cases l
    | cons Z Zs ih =>
      intro cs l z
      cases cs with
      | nil => cases l
      | cons c cs =>
        obtain ⟨zs, h1, h2⟩ := z 0 Z c rfl rfl
        exact .cons (.lst (SqL.of h1) h2) (ih cs (by simpa using l) fun i Z c h1 h2 => z (i + 1) Z c (by simpa using h1) (by simpa using h2))
  exact go Zs cs x.ln x.z
end
theorem nodup_ix {α : Type} {a : α} : ∀ {l : List α} {i j : Nat}, l.Nodup → l[i]? = some a → l[j]? = some a → i = j
  | [], _, _, _, h, _ => by simp at h
  | x :: l, i, j, n, h1, h2 => by
    rw [List.nodup_cons] at n
    cases i with
    | zero =>
      cases j with
      | zero => rfl
      | succ j =>
        cases h1
        exact absurd (List.mem_of_getElem? (by simpa using h2)) n.1
    | succ i =>
      cases j with
      | zero =>
        cases h2
        exact absurd (List.mem_of_getElem? (by simpa using h1)) n.1
      | succ j =>
        have := nodup_ix (i := i) (j := j) (a := a) n.2 (by simpa using h1) (by simpa using h2)
        omega
/-! ### a changed course -/
structure CH (K : PySem.W.Frag) (b l C0 : Addr) (Ds : List Addr) (cs : List (List Dd)) (H : Hp) : Prop where
  c0 : H C0 = some (.lst (Ds.map V.ref))
  z : ∀ (i : Nat) D c, Ds[i]? = some D → cs[i]? = some c → ∃ zs, H D = some (.lst zs) ∧ DpAll K H zs (c.map ddD)
  nb : ∀ D ∈ C0 :: Ds, D ≠ b ∧ D ≠ l
  nd : (C0 :: Ds).Nodup
  ln : Ds.length = cs.length
section
variable {K : PySem.W.Frag} {b l C0 : Addr} {Ds : List Addr} {cs : List (List Dd)} {H H' : Hp}
theorem CH.kb (k : Kb b l H H') (x : CH K b l C0 Ds cs H) : CH K b l C0 Ds cs H' := by
  refine ⟨k.kp.ls _ _ x.c0 (x.nb C0 List.mem_cons_self).1 (x.nb C0 List.mem_cons_self).2, fun i D c h1 h2 => ?_, x.nb, x.nd, x.ln⟩
  obtain ⟨zs, z1, z2⟩ := x.z i D c h1 h2
  have n := x.nb D (List.mem_cons_of_mem _ (List.mem_of_getElem? h1))
  exact ⟨zs, k.kp.ls _ _ z1 n.1 n.2, Dp.nls k.nl _ _ (noLs_dd c) z2⟩
theorem CH.same (e : Same H H') (x : CH K b l C0 Ds cs H) : CH K b l C0 Ds cs H' := x.kb (Kb.same e)
theorem CH.set {k : Nat} {D : Addr} {xs ys : List V} {c : List Dd} (hk : Ds[k]? = some D) (hD : H D = some (.lst xs)) (dc : DpAll K (L2.upd H D (.lst ys)) ys (c.map ddD)) (x : CH K b l C0 Ds cs H) : CH K b l C0 Ds (cs.set k c) (L2.upd H D (.lst ys)) := by
  have lk := (List.getElem?_eq_some_iff.mp hk).1
  have nd := x.nd
  rw [List.nodup_cons] at nd
  have ne : C0 ≠ D := fun z => nd.1 (z ▸ List.mem_of_getElem? hk)
  refine ⟨by rw [upd_ne ne]; exact x.c0, fun i A a h1 h2 => ?_, x.nb, x.nd, by rw [List.length_set]; exact x.ln⟩
  by_cases c1 : i = k
  · subst c1
    rw [hk] at h1
    cases h1
    rw [List.getElem?_set_self (by rw [← x.ln]; exact lk)] at h2
    cases h2
    exact ⟨ys, upd_same, dc⟩
  · rw [List.getElem?_set_ne (Ne.symm c1)] at h2
    obtain ⟨zs, z1, z2⟩ := x.z i A a h1 h2
    have na : A ≠ D := fun z => by
      subst z
      exact c1 (nodup_ix nd.2 h1 hk)
    exact ⟨zs, by rw [upd_ne na]; exact z1, Dp.nls (nl_updL hD) _ _ (noLs_dd a) z2⟩
theorem CH.course (x : CH K b l C0 Ds cs H) : DpAll K H (Ds.map V.ref) (cs.map coD) := by
  have go : ∀ (Zs : List Addr) (cs : List (List Dd)), Zs.length = cs.length → (∀ (i : Nat) Z c, Zs[i]? = some Z → cs[i]? = some c → ∃ zs, H Z = some (.lst zs) ∧ DpAll K H zs (c.map ddD)) → DpAll K H (Zs.map V.ref) (cs.map coD) := by
    intro Zs
    induction Zs with
    | nil =>
      intro cs l _
      cases cs with
      | nil => exact .nil
      | cons c cs => cases l
    | cons Z Zs ih =>
      intro cs l z
      cases cs with
      | nil => cases l
      | cons c cs =>
        obtain ⟨zs, h1, h2⟩ := z 0 Z c rfl rfl
        exact .cons (.lst (SqL.of h1) h2) (ih cs (by simpa using l) fun i Z c h1 h2 => z (i + 1) Z c (by simpa using h1) (by simpa using h2))
  exact go Ds cs x.ln x.z
end
end Kw

set_option Elab.async false
set_option linter.all false
set_option maxRecDepth 100000
set_option maxHeartbeats 8000000
namespace Kw
open PySem PySem.Spec PyProof.Rows L2
abbrev sLaw : Stmt := top 85
def rListOf (K : PySem.W.Frag) : List V → Hp → VK → Prop := fun xs H Q => ∃ p ys, xs = [.ref p] ∧ (SqL K H p ys ∨ SqT K H p ys) ∧ ∀ l, H l = none → Q (.ref l) (L2.upd H l (.lst ys))
theorem call_listOf {X : Cx} : CallR X (.type "list") (rListOf X.K) := call_list_of
theorem DpAll.takeN {K : PySem.W.Frag} {H : Hp} : ∀ {vs : List V} {ds : List PyData} (n : Nat), DpAll K H vs ds → DpAll K H (vs.take n) (ds.take n)
  | _, _, 0, _ => by rw [List.take_zero, List.take_zero]; exact .nil
  | _, _, _ + 1, .nil => .nil
  | _, _, n + 1, .cons h t => .cons h (DpAll.takeN n t)
theorem DpAll.dropN {K : PySem.W.Frag} {H : Hp} : ∀ {vs : List V} {ds : List PyData} (n : Nat), DpAll K H vs ds → DpAll K H (vs.drop n) (ds.drop n)
  | _, _, 0, h => h
  | _, _, _ + 1, .nil => .nil
  | _, _, n + 1, .cons _ t => DpAll.dropN n t
theorem seqIx_nat {n k : Nat} (h : n < k) : seqIndex? (n : Int) k = some n := by
  unfold seqIndex?
  simp
  omega
theorem ixN_nat {n k : Nat} (h : n < k) : ixN k (n : Int) = some n := by
  unfold ixN
  simp
  omega
def optD : Option (Nat × Int) → PyData
  | none => .none
  | some (i, k) => .tuple [.int (i : Nat), .int k]
theorem optft_dp {K : PySem.W.Frag} {H : Hp} {v : V} {o : Option (Nat × Int)} (h : OptFt K H v o) : Dp K H v (optD o) := by
  cases o with
  | none => rw [show v = .non from h]; exact .non
  | some p => exact h
theorem okA_opt (o : Option (Nat × Int)) : okA (optD o) = true := by cases o <;> rfl
theorem depth_opt (o : Option (Nat × Int)) : (optD o).depth < 8 := by
  cases o with
  | none => decide
  | some p => simp [optD, PyData.depth, PyData.depthAll]
theorem atI_m1 {xs : List V} {n : Nat} {x : V} (l : xs.length = n + 1) (h : xs[n]? = some x) : atI xs (-1) = some x := by
  unfold atI ixN
  rw [if_neg (by omega), if_pos (by rw [l]; omega)]
  show xs[((-1 : Int) + (xs.length : Nat)).toNat]? = some x
  rw [l, show ((-1 : Int) + ((n + 1 : Nat) : Int)).toNat = n by omega]
  exact h
theorem bare_ok {d : Hs} (h : HsOk d) : RwOk d (.sight (.bare 0)) := by
  have b0 := h.b0
  refine ⟨?_, by show 0 ≤ 1000; decide, by decide⟩
  show unkS d (.bare 0) = ""
  unfold unkS
  exact if_neg (by omega)
theorem nbare_ok {d : Hs} (h : HsOk d) : RwOk d (.sight (.nt (.bare 0))) := by
  have b := bare_ok h
  exact ⟨b.1, b.2.1, by decide⟩
theorem due_last {d0 d : Hs} {rs : List Rw} {cs : List (List Dd)} (pr : PR d0 rs cs d) : faultOf d0 d0 (rs ++ [.sight (.nt (.bare 0)), .sight (.bare 0)]) cs 0 = some (rs.length + (if decide ((Wd.box, (0 : Int)) ∈ d.ss) = true then 1 else 0), -1) := by
  rw [pr.fault]
  have h1 : ∀ g, stepR d0 d (.sight g) = if isS d g = true then some d else none := fun _ => rfl
  have hb : isS d (.bare 0) = !decide ((Wd.box, (0 : Int)) ∈ d.ss) := by
    show decide ((Wd.box, ((0 : Nat) : Int)) ∉ d.ss) = _
    by_cases c : (Wd.box, (0 : Int)) ∈ d.ss <;> simp [c]
  have hn : isS d (.nt (.bare 0)) = decide ((Wd.box, (0 : Int)) ∈ d.ss) := by
    show (!isS d (.bare 0)) = _
    rw [hb, Bool.not_not]
  rw [faultOf, h1, hn]
  by_cases c : (Wd.box, (0 : Int)) ∈ d.ss
  · rw [decide_eq_true c]
    rw [if_pos rfl]
    show faultOf d0 d [.sight (.bare 0)] [] (rs.length + 1) = _
    rw [faultOf, h1, hb, decide_eq_true c]
    rfl
  · rw [decide_eq_false c]
    rfl
def oddD : List Dd := [.brk 4 0, .give 0 (.thing, 9) 0, .lock 0 0 9, .take 0 (.box, 0) 9]
theorem sm_odd : ∀ e ∈ oddD, Sm e := by
  intro e he
  simp only [oddD, List.mem_cons, List.not_mem_nil, or_false] at he
  rcases he with rfl | rfl | rfl | rfl <;> simp [Sm]
theorem shaped_cs (cs : List (List Dd)) (_h : ∀ c ∈ cs, c.length ≤ 20) : SeqAt.shaped (.list (cs.map coD)) = true := by
  have lay : ∀ l : List (List Dd), PyData.canLayAll0 (l.map coD) = true := by
    intro l
    induction l with
    | nil => rfl
    | cons a r ih =>
      have h1 := SeqAt.canLay_of_shaped (shaped_dds a)
      show (PyData.canLay0 (coD a) && PyData.canLayAll0 (r.map coD)) = true
      rw [ih, show PyData.canLay0 (coD a) = true from h1]
      rfl
  have hd : ∀ l : List Dd, PyData.depthAll (l.map ddD) ≤ 10 := by
    intro l
    induction l with
    | nil => exact Nat.zero_le _
    | cons a r ih =>
      have h1 := (sd_dd a).dep
      show max (PyData.depth (ddD a)) (PyData.depthAll (r.map ddD)) ≤ 10
      omega
  have hc : ∀ l : List (List Dd), PyData.depthAll (l.map coD) ≤ 11 := by
    intro l
    induction l with
    | nil => exact Nat.zero_le _
    | cons a r ih =>
      have h1 := hd a
      have h2 : PyData.depth (coD a) = PyData.depthAll (a.map ddD) + 1 := by simp [coD, PyData.depth]; try omega
      show max (PyData.depth (coD a)) (PyData.depthAll (r.map coD)) ≤ 11
      omega
  have h1 := hc cs
  simp [SeqAt.shaped, PyData.canLay0, PyData.depth, lay cs]
  omega
structure LAddF (P : Program) (w : World) (K : PySem.W.Frag) (mg : Str → Option Value) (base : Heap) (C CL XL g : Addr) (fd : FuncData) : Prop where
  G : FnOk P w K mg base (L2.CX P w) 11 g fd ["self", "rows"] (spLAdd K C CL XL)
  A : AddC K CL g
  b : Binds K fd ["self", "rows"] []
structure LawF (P : Program) (w : World) (K : PySem.W.Frag) (mg : Str → Option Value) (base : Heap) (C CL CE : Addr) (ce : Str → Addr) : Prop where
  Bg : ∃ g fd, OnceF P w K mg base "_law_begun" 1 ["_law_script"] (spBegun K) g fd
  T : ∃ g fd, OnceF P w K mg base "_law_take" 1 ["_law_box", "_law_many"] spTake g fd
  A : ∃ g fd, OnceF P w K mg base "_law_alike" 8 ["_law_found", "_law_due"] (spAlike K 8) g fd
  H : ∃ g fd, OnceF P w K mg base "_law_house" 7 ["_law_box", "_law_sizes"] (spLHouse K C) g fd
  ST : ∃ g fd, OnceF P w K mg base "_law_story" 4 ["_law_box", "_law_house_here", "_law_many", "_law_secret"] (spStX K C) g fd
  D : ∃ g fd, OnceF P w K mg base "_law_deeds" 3 ["_law_state", "_law_hands_here"] (spDeedsXL K) g fd
  FT : ∃ g fd, OnceF P w K mg base "_law_fault" 5 ["_law_house_here", "_law_rows", "_law_course"] (spFlt K C) g fd
  FF : ∃ g fd, OnceY P w K mg base "first_fault" 8 ["log", "course"] (spFF K C CL (ce "InvalidCourse")) g fd
  E : ∃ g fd, Fun K "_law_error" "_law_error" sErr g fd ∧ mg "_law_error" = some (.ref g) ∧ Binds K fd ["_law_work"] []
  wat : mg "WatchError" = some (.ref CE)
  knC : Known K mg ce CE "InvalidCourse"
  hc : HouseC K C
  LC : LogC K CL
  M : ∃ g fd, LMk P w K mg base C CL (ce "InvalidLog") g fd
  LA : ∃ g fd, LAddF P w K mg base C CL (ce "InvalidLog") g fd
section
variable {P : Program} {w : World} {K : PySem.W.Frag} {mg : Str → Option Value} {base : Heap}
theorem scLaw : FnScope ["_law_script", "_law_box", "_law_house_here", "_law_rows", "_law_course", "_law_states", "_law_log", "_law_every", "_law_odd", "_law_turn", "_law_changed", "_law_deeds_here", "_law_deed", "_law_kind", "_law_due"] ["_law_script"] (defScope sLaw) := ⟨rfl, rfl, rfl, by decide +kernel, rfl, by decide +kernel, by decide +kernel⟩
def spLaw (K : PySem.W.Frag) (tb : Addr) : Sp := fun vs H Q _ => ∃ (a : Addr) (ns : List Int), vs = [.ref a] ∧ H tb = some (.tbl #[]) ∧ SqL K H a (ns.map V.int) ∧ ns.length ≤ 63 ∧ ∀ H', Q (.bl true) H'
theorem ok_law {C CL CE f cd tb : Addr} {ce : Str → Addr} {oc kV doc pm ct : Value} {od an : Option Addr} {osl : Array (Option Value)}
    (L : LawF P w K mg base C CL CE ce) (B : Bt mg) (TB : LamX.TabB base mg cd tb)
    (lk : K.lookup f = some ⟨oc, od, .func (PySem.W.fnOf "law" "law" (defArgs sLaw) (defBody sLaw) (defScope sLaw) .none kV doc pm an (.ref cd) ct), osl⟩) (hcd : PySem.W.codeIn K (.ref cd) "law" = true) :
    FnOk P w K mg base CX0 12 f (PySem.W.fnOf "law" "law" (defArgs sLaw) (defBody sLaw) (defScope sLaw) .none kV doc pm an (.ref cd) ct) ["_law_script"] (spLaw K tb) := by
  refine fn_of lk hcd scLaw (fun vs H Q E h => ?_) (fun A outer s H vs Q E hr h => ?_)
  · obtain ⟨a, ns, rfl, _⟩ := h
    rfl
  · obtain ⟨sc, ns, rfl, hTb, hS, hl, k⟩ := h
    have hr1 : Room 1 _ := hr.mono (by decide)
    have hr3 : Room 3 _ := hr.mono (by decide)
    have hr4 : Room 4 _ := hr.mono (by decide)
    have hr5 : Room 5 _ := hr.mono (by decide)
    have hr7 : Room 7 _ := hr.mono (by decide)
    have hr8 : Room 8 _ := hr.mono (by decide)
    have hr10 : Room 10 _ := hr.mono (by decide)
    have hr11 : Room 11 _ := hr
    obtain ⟨gBg, fdBg, Bg⟩ := L.Bg
    obtain ⟨gT, fdT, GT⟩ := L.T
    obtain ⟨gA, fdA, AL⟩ := L.A
    obtain ⟨gH, fdH, LH⟩ := L.H
    obtain ⟨gST, fdST, ST⟩ := L.ST
    obtain ⟨gD, fdD, GD⟩ := L.D
    obtain ⟨gFT, fdFT, FT⟩ := L.FT
    obtain ⟨gFF, fdFF, FF⟩ := L.FF
    obtain ⟨gE, fdE, LE, mE, bE⟩ := L.E
    obtain ⟨gM, fdM, M⟩ := L.M
    obtain ⟨gLA, fdLA, LA⟩ := L.LA
    have LC := L.LC
    have hc := L.hc
    have hu64 : ((cxOf CX0 P w K mg base ["_law_script", "_law_box", "_law_house_here", "_law_rows", "_law_course", "_law_states", "_law_log", "_law_every", "_law_odd", "_law_turn", "_law_changed", "_law_deeds_here", "_law_deed", "_law_kind", "_law_due"] "law" (defScope sLaw) f (.ref cd) A outer s H E0).nox).A.units + 64 < cLine := by have := hr.un; show (A.deeper _).units + 64 < cLine; omega
    have hu65 : ((cxOf CX0 P w K mg base ["_law_script", "_law_box", "_law_house_here", "_law_rows", "_law_course", "_law_states", "_law_log", "_law_every", "_law_odd", "_law_turn", "_law_changed", "_law_deeds_here", "_law_deed", "_law_kind", "_law_due"] "law" (defScope sLaw) f (.ref cd) A outer s H E0).nox).A.units + 65 < cLine := by have := hr.un; show (A.deeper _).units + 65 < cLine; omega
    have hcode : ((cxOf CX0 P w K mg base ["_law_script", "_law_box", "_law_house_here", "_law_rows", "_law_course", "_law_states", "_law_log", "_law_every", "_law_odd", "_law_turn", "_law_changed", "_law_deeds_here", "_law_deed", "_law_kind", "_law_due"] "law" (defScope sLaw) f (.ref cd) A outer s H E0).nox).env.code = .ref cd := rfl
    obtain ⟨oc1, od1, kV1, doc1, pm1, an1, cdv, ct1, osl1, rfl, lkE, cdE⟩ := LE.ex
    obtain ⟨q, eq⟩ : ∃ q, q = ((cxOf CX0 P w K mg base ["_law_script", "_law_box", "_law_house_here", "_law_rows", "_law_course", "_law_states", "_law_log", "_law_every", "_law_odd", "_law_turn", "_law_changed", "_law_deeds_here", "_law_deed", "_law_kind", "_law_due"] "law" (defScope sLaw) f (.ref cd) A outer s H E0).nox).env.qual ++ "<lambda>" := ⟨_, rfl⟩
    have hmT : (tb, ((cxOf CX0 P w K mg base ["_law_script", "_law_box", "_law_house_here", "_law_rows", "_law_course", "_law_states", "_law_log", "_law_every", "_law_odd", "_law_turn", "_law_changed", "_law_deeds_here", "_law_deed", "_law_kind", "_law_due"] "law" (defScope sLaw) f (.ref cd) A outer s H E0).nox).env.qual ++ "<lambda>") ∈ [(tb, q)] := by rw [eq]; exact List.mem_cons_self
    have huT : ∀ p ∈ [(tb, q)], p.1 = tb → p.2 = ((cxOf CX0 P w K mg base ["_law_script", "_law_box", "_law_house_here", "_law_rows", "_law_course", "_law_states", "_law_log", "_law_every", "_law_odd", "_law_turn", "_law_changed", "_law_deeds_here", "_law_deed", "_law_kind", "_law_due"] "law" (defScope sLaw) f (.ref cd) A outer s H E0).nox).env.qual ++ "<lambda>" := fun p hp h1 => by
      rw [List.mem_singleton.mp hp]
      exact eq
    refine ⟨_, PSs.nox (pss_cons (ps_set (i := 1) scLaw.nd rfl (.inl rfl) (pe_call Bg.G hr1 rfl Bg.m Bg.k Bg.b .nil pass0 (pa_cons (pv 0) pa_nil))) (pss_cons (ps_set (i := 2) scLaw.nd rfl (.inl rfl) (pe_call LH.G hr7 rfl LH.m LH.k LH.b .nil pass0 (pa_cons (pv 1) (pa_cons (pe_tup (pa_cons pe_int (pa_cons pe_int (pa_cons pe_int (pa_cons pe_int pa_nil))))) pa_nil)))) (pss_cons (ps_asg (pe_call ST.G hr4 rfl ST.m ST.k ST.b .nil pass0 (pa_cons (pv 1) (pa_cons (pv 2) (pa_cons (pe_call GT.G hr1 rfl GT.m GT.k GT.b .nil pass0 (pa_cons (pv 1) (pa_cons pe_int pa_nil))) (pa_cons pe_int pa_nil))))) (pg_tup (by rfl) (pgs_cons (pg_name (i := 3) scLaw.nd rfl (.inl rfl)) (pgs_cons (pg_name (i := 4) scLaw.nd rfl (.inr rfl)) (pgs_cons (pg_name (i := 5) scLaw.nd rfl (.inl rfl)) pgs_nil))))) (pss_cons (ps_set (i := 6) scLaw.nd rfl (.inr rfl) (pe_make M.M M.G hr10 rfl M.m M.b .nil passL (pa_cons (pv 2) (pa_cons (pv 3) pa_nil)))) (pss_cons (ps_if (pt_cmpR op_notN (pe_call FF.G hr8 rfl FF.m FF.k FF.b .nil passL (pa_cons (pv 6) (pa_cons (pv 4) pa_nil))) pe_non (nomark _)) (pss_one (ps_ret pe_bl)) pss_nil) (pss_cons (ps_if (pt_cmpR op_ne (LamX.pe_lamcall (T := [(tb, q)]) (TT := TErrG K mg ce CE) (t := fun E => tCall (spFF K C CL (ce "InvalidCourse")) [] E (tCons (tVar 6) (tCons (tOp rCat (tVar 4) (tLst (tCons (tLst tNil) tNil))) tNil))) (k := 8) (Ng := ["_law_work", "error", "_law_kinds", "_law_names", "_law_name"]) (a := "_law_work") rfl mE LE.kp lkE cdE bE scErr rfl (.inl rfl) (errG_gives L.wat B) TB hcode hmT huT hr10 (LamX.lamS_by (sc := defScope sLaw) (by decide +kernel)) rfl (fun _ _ _ _ _ => rfl) (fun A outer s H E f c' hr => (pe_call FF.G hr rfl FF.m FF.k FF.b .nil (passes_call (takes_of rfl rfl rfl rfl) (fun _ _ _ _ h => h)) (pa_cons (pv 6) (pa_cons (pe_op op_cat (pv 4) (pe_lst (pa_cons (pe_lst pa_nil) pa_nil))) pa_nil))))) pe_str (nomark _)) (pss_one (ps_ret pe_bl)) pss_nil) (pss_cons (ps_set (i := 7) scLaw.nd rfl (.inl rfl) (pe_call GD.G hr3 rfl GD.m GD.k GD.b .nil pass0 (pa_cons (pe_ix ix_list (pv 5) (pe_call GT.G hr1 rfl GT.m GT.k GT.b .nil pass0 (pa_cons (pv 1) (pa_cons (pe_callB call_len_seq (by rfl) B.len PySem.boot_len (pa_cons (pv 5) pa_nil)) pa_nil))) (fun _ _ => rfl)) (pa_cons (pe_listRg rfl (by rfl) B.lst (prg_1 (by rfl) B.rng (pe_fld (pv 2) rfl))) pa_nil)))) (pss_cons (ps_set (i := 8) scLaw.nd rfl (.inl rfl) (pe_lst (pa_cons (pe_tup (pa_cons pe_str (pa_cons pe_int (pa_cons pe_int pa_nil)))) (pa_cons (pe_tup (pa_cons pe_str (pa_cons pe_int (pa_cons (pe_tup (pa_cons pe_str (pa_cons pe_int pa_nil))) (pa_cons pe_int pa_nil))))) (pa_cons (pe_tup (pa_cons pe_str (pa_cons pe_int (pa_cons pe_int (pa_cons pe_int pa_nil))))) (pa_cons (pe_tup (pa_cons pe_str (pa_cons pe_int (pa_cons (pe_tup (pa_cons pe_str (pa_cons pe_int pa_nil))) (pa_cons pe_int pa_nil))))) pa_nil)))))) (pss_cons (ps_for PassesOwn.never rfl (pi_range1 rfl B.rng (pa_cons (pe_op op_mul pe_int (pe_callTy call_int1 (by rfl) B.int (by decide +kernel) (pa_cons (pe_cmpR (op_neD hu64) (pv 4) (pe_lst pa_nil) (nomark _)) pa_nil))) pa_nil)) (pg_name (i := 9) scLaw.nd rfl (.inl rfl)) (pss_cons (ps_setLc (i := 10) (own := [("_law_deeds_here", 11)]) (g := gName 11) (tt := tYes) (te := (tCB (rListOf K) (tCons (tVar 11) tNil))) rfl scLaw.nd rfl rfl (sw_true rfl rfl rfl (by decide +kernel)) (pi_list (pv 4)) (blkOk_by (own := [("_law_deeds_here", 11)]) (N := ["_law_script", "_law_box", "_law_house_here", "_law_rows", "_law_course", "_law_states", "_law_log", "_law_every", "_law_odd", "_law_turn", "_law_changed", "_law_deeds_here", "_law_deed", "_law_kind", "_law_due"]) (sc := defScope sLaw) (by decide +kernel)) (fun _ _ _ _ _ => pg_name (i := 11) scLaw.nd rfl (.inl rfl)) (fun _ _ _ _ _ => pts_nil) (fun _ _ _ _ _ => (pe_callTy call_listOf (by rfl) B.lst (by decide +kernel) (pa_cons (pv 11) pa_nil)))) (pss_cons (ps_set (i := 11) scLaw.nd rfl (.inl rfl) (pe_ix ix_list (pv 10) (pe_call GT.G hr1 rfl GT.m GT.k GT.b .nil pass0 (pa_cons (pv 1) (pa_cons (pe_callB call_len_seq (by rfl) B.len PySem.boot_len (pa_cons (pv 10) pa_nil)) pa_nil))) (fun _ _ => rfl))) (pss_cons (ps_set (i := 12) scLaw.nd rfl (.inl rfl) (pe_ix ix_list (pe_op op_cat (pv 7) (pv 8)) (pe_call GT.G hr1 rfl GT.m GT.k GT.b .nil pass0 (pa_cons (pv 1) (pa_cons (pe_op op_add (pe_callB call_len_seq (by rfl) B.len PySem.boot_len (pa_cons (pv 7) pa_nil)) pe_int) pa_nil))) (fun _ _ => rfl))) (pss_cons (ps_set (i := 13) scLaw.nd rfl (.inl rfl) (pe_call GT.G hr1 rfl GT.m GT.k GT.b .nil pass0 (pa_cons (pv 1) (pa_cons pe_int pa_nil)))) (pss_cons (ps_if (PW.pt (pw_or (pt_cmpR op_eq (pv 13) pe_int (nomark _)) (pw_or1 (pt_cmpR (op_eqD hu64) (pv 11) (pe_lst pa_nil) (nomark _))))) (pss_one (ps_expr (pe_bm PySem.F.plainAttrs_list PySem.F.slot_list_insert PySem.F.type_list_insert mt_insert (pv 11) (pa_cons (pe_call GT.G hr1 rfl GT.m GT.k GT.b .nil pass0 (pa_cons (pv 1) (pa_cons (pe_op op_add (pe_callB call_len_seq (by rfl) B.len PySem.boot_len (pa_cons (pv 11) pa_nil)) pe_int) pa_nil))) (pa_cons (pv 12) pa_nil))))) (pss_one (ps_if (pt_cmpR op_eq (pv 13) pe_int (nomark _)) (pss_one (ps_expr (pe_bm PySem.F.plainAttrs_list PySem.F.slot_list_pop PySem.F.type_list_pop mt_popAt (pv 11) (pa_cons (pe_call GT.G hr1 rfl GT.m GT.k GT.b .nil pass0 (pa_cons (pv 1) (pa_cons (pe_callB call_len_seq (by rfl) B.len PySem.boot_len (pa_cons (pv 11) pa_nil)) pa_nil))) pa_nil)))) (pss_one (ps_asg (pv 12) (pg_sub (pv 11) (pe_call GT.G hr1 rfl GT.m GT.k GT.b .nil pass0 (pa_cons (pv 1) (pa_cons (pe_callB call_len_seq (by rfl) B.len PySem.boot_len (pa_cons (pv 11) pa_nil)) pa_nil))) set_list)))))) (pss_one (ps_if (pt_not (pt_val (pe_call AL.G hr8 rfl AL.m AL.k AL.b .nil pass0 (pa_cons (pe_call FF.G hr8 rfl FF.m FF.k FF.b .nil passL (pa_cons (pv 6) (pa_cons (pv 10) pa_nil))) (pa_cons (pe_call FT.G hr5 rfl FT.m FT.k FT.b .nil pass0 (pa_cons (pv 2) (pa_cons (pv 3) (pa_cons (pv 10) pa_nil)))) pa_nil))))) (pss_one (ps_ret pe_bl)) pss_nil)))))))) (pss_cons (ps_set (i := 14) scLaw.nd rfl (.inl rfl) (pe_tup (pa_cons (pe_op op_add (pe_callB call_len_seq (by rfl) B.len PySem.boot_len (pa_cons (pv 3) pa_nil)) (pe_callTy call_int1 (by rfl) B.int (by decide +kernel) (pa_cons (pe_cmpR (op_inDT hu65) (pe_tup (pa_cons pe_str (pa_cons pe_int pa_nil))) (pe_ix ix_tup (pe_ix ix_list (pv 5) (pe_un un_neg pe_int) (fun _ _ => rfl)) pe_int (fun _ _ => rfl)) (by rfl)) pa_nil))) (pa_cons (pe_un un_neg pe_int) pa_nil)))) (pss_one (ps_ret (pe_call AL.G hr8 rfl AL.m AL.k AL.b .nil pass0 (pa_cons (pe_call FF.G hr8 rfl FF.m FF.k FF.b .nil passL (pa_cons (pe_op (op_addOwn LA.G LA.A hr11 LA.b passL) (pv 6) (pe_lst (pa_cons (pe_tup (pa_cons pe_str (pa_cons (pe_tup (pa_cons pe_str (pa_cons pe_int pa_nil))) pa_nil))) (pa_cons (pe_tup (pa_cons pe_str (pa_cons pe_int pa_nil))) pa_nil)))) (pa_cons (pv 4) pa_nil))) (pa_cons (pv 14) pa_nil))))))))))))))), ?_⟩
    clear eq
    have l5 := sizeLine_eq
    -- box, house, story, log
    refine ⟨_, rfl, sc, ns, rfl, hS, hl, fun b l H1 e1 hB => ?_⟩
    refine ⟨_, rfl, (by show 4 ≤ sizeLine; decide), fun p4 hp4 => ?_⟩
    have f1 := same_upd (o := HO.tup [.int 4, .int 3, .int 4, .int 3]) hp4
    refine ⟨b, l, p4, 4, 3, 4, 3, rfl, SqT.of upd_same, by decide, by decide, by decide, by decide, hB.same f1, fun h d0 H2 hh hF hok hB2 k2 => ?_⟩
    have hT2 : LamX.Tabs [(tb, q)] H2 := Tabs.kb k2 (LamX.Tabs.ext (fun p hp => by
      rw [List.mem_singleton.mp hp]
      exact LamX.TabS.nil (e1 _ _ hTb)) (fun c o q => f1 c o q))
    refine ⟨_, rfl, _, rfl, _, rfl, b, l, 12, rfl, by decide, by decide, hB2, fun many H3 m0 m1 hB3 k3 => ⟨b, l, h, many, 4, d0, rfl, m0, by omega, by decide, by decide, hB3, hh.nl k3.nl, hF.nl k3.nl, hok, fun t R M' S rs Zs cs ds d H4 sT SA4 sh pr lrs shs lds hB4 k4 => ?_⟩⟩
    refine ⟨t, _, rfl, sT, rfl, _, _, rfl, _, _, rfl, _, _, rfl, rfl, ?_⟩
    have hh4 := (hh.nl k3.nl).nl k4.nl
    have hF4 := (hF.nl k3.nl).nl k4.nl
    have ls := hok.ls
    obtain ⟨xr, hR4, dR4⟩ := sh.r
    have lxr : xr.length = rs.length := by rw [DpAll.len dR4, List.length_map]
    have lr12 : rs.length ≤ 12 := by omega
    have okr : ∀ r ∈ rs, RwOk d0 r := fun r hr => (pr.ok r hr).1
    have okc : ∀ c ∈ cs, c.length ≤ 100 ∧ ∀ e ∈ c, Sm e := fun c hc => ⟨by have := (pr.okc c hc).1; omega, (pr.okc c hc).2⟩
    refine ⟨_, rfl, _, rfl, log_madeX (K := K) (C := C) (CL := CL) hh4 ⟨.inl (SqL.of hR4), dR4⟩ (by omega) (fun r hr => (okr r hr).2) (fun i bd => ?_) fun _ _ a H5 e5 na la => ?_⟩
    · exfalso
      obtain ⟨b1, b2, b3⟩ := bd
      rcases b3 with b3 | ⟨r, b3, b4⟩
      · omega
      · exact b4 (okr r (List.mem_of_getElem? b3)).1
    have W0 : WA K C CL [(tb, q)] b l h a R M' S H3 d0 rs Zs cs (ds ++ [d]) [] H5 := ⟨hB4.same e5, Tabs.kb (b := b) (l := l) ((k3.trans k4).trans (Kb.same e5)) hT2, la, hF4.nl (nl_same e5), sh.same SA4 e5, fun p hp => (nomatch hp), fun p hp => (nomatch hp)⟩
    clear hR4 dR4 sh hTb hS e1 f1 k2 hT2 e5 na la hh hF hh4 hF4 hB hB2 hB4
    -- no fault
    refine ⟨_, rfl, _, rfl, a, h, M', d0, rs, _, cs, rfl, W0.la, W0.hF, ls, SqL.of W0.sh.m, W0.sh.course, by omega, okr, okc, fun ne => absurd pr.nc ne, fun _ v6 H6 e6 ov => ?_⟩
    have fl0 : faultOf d0 d0 rs cs 0 = none := by have := pr.fault []; rw [List.append_nil] at this; rw [this]; rfl
    rw [fl0] at ov
    obtain rfl : v6 = .non := ov
    have W6 := W0.same SA4 e6
    refine ⟨rfl, _, rfl, iteFe (by rfl) ?_⟩
    -- a course too long
    refine nx_by ?_
    dsimp only
    refine seq_by ?_
    refine ifs_by (fun b' H' => b' = false ∧ WA K C CL [(tb, q)] b l h a R M' S H3 d0 rs Zs cs (ds ++ [d]) [] H') (fun Q' kq => ?_) (fun H' p => by cases p.1) (fun H7 ⟨_, W7⟩ => ?_)
    · refine by_cont (T := LamX.tLam _ _ _ _ _) (fun v H' => v = .str ("InvalidCourse" : Str) ∧ WA K C CL [(tb, q)] b l h a R M' S H3 d0 rs Zs cs (ds ++ [d]) [] H') (fun Q' kq => ?_) ?_
      · refine ⟨W6.tb, fun H7 x7 t7 => ?_⟩
        have W7 := W6.extL x7 t7
        refine ⟨_, rfl, _, rfl, (by show 0 ≤ sizeLine; decide), fun z hz => ⟨(by show 1 ≤ sizeLine; decide), fun y hy => ?_⟩⟩
        have g1 := same_upd (o := HO.lst []) hz
        have g2 := same_upd (o := HO.lst [V.ref z]) hy
        have W8 := W7.same SA4 (g1.trans g2)
        have hz8 := g2 _ _ (upd_same (H := H7) (a := z) (o := HO.lst []))
        refine ⟨M', y, Zs.map V.ref, [.ref z], rfl, rfl, W8.sh.m, upd_same, ?_, fun p hp => ?_⟩
        · have q1 := W8.sh.ln
          have q2 := pr.nc
          have q3 : nGaps rs ≤ rs.length := List.length_filter_le _ _
          rw [List.length_map]
          show Zs.length + 1 ≤ sizeLine
          omega
        have g3 := same_upd (o := HO.lst (Zs.map V.ref ++ [.ref z])) hp
        have W9 := W8.same SA4 g3
        refine ⟨a, h, p, d0, rs, _, cs ++ [[]], rfl, W9.la, W9.hF, ls, SqL.of upd_same, ?_, by omega, okr, ?_, fun ne H' e' => ⟨"InvalidCourse", rfl, L.knC, rfl, fun H2 e2 => kq _ _ ⟨rfl, W9.same SA4 (e'.trans e2)⟩⟩, fun q' => ?_⟩
        · rw [List.map_append]
          exact DpAll.app W9.sh.course (.cons (.lst (SqL.of (g3 _ _ hz8)) .nil) .nil)
        · intro c hc
          rcases List.mem_append.mp hc with hc | hc
          · exact okc c hc
          · rw [List.mem_singleton.mp hc]
            exact ⟨Nat.zero_le _, fun e he => (nomatch he)⟩
        · have := pr.nc
          rw [List.length_append, this] at q'
          simp at q'
      rintro v HI ⟨rfl, WI⟩
      exact ⟨rfl, _, rfl, kq _ _ ⟨by rfl, WI⟩⟩
    refine nx_by ?_
    dsimp only
    -- what can be done, and what is odd
    obtain ⟨ss, hS7, dS7⟩ := W7.sh.s
    have lss : ss.length = (ds ++ [d]).length := by rw [DpAll.len dS7, List.length_map]
    have lss1 : 1 ≤ ss.length := by rw [lss, List.length_append]; exact Nat.le_add_left _ _
    have lss2 : ss.length ≤ 13 := by rw [lss, List.length_append, lds]; show many.toNat + 1 ≤ 13; omega
    refine ⟨_, rfl, _, rfl, _, rfl, S, ss, rfl, .inl (SqL.of hS7), b, l, (ss.length : Nat), rfl, by omega, by omega, W7.bx, fun r8 H8 r80 r81 hB8 k8 => ?_⟩
    obtain ⟨n8, rfl⟩ := nat_of r80
    have W8 := W7.kb SA4 k8 hB8
    obtain ⟨dd8, hd8, hv8⟩ := DpAll.get dS7 (List.getElem?_eq_getElem (show n8 < ss.length by omega))
    rw [List.getElem?_map] at hd8
    obtain ⟨dx8, hx8⟩ : ∃ x, (ds ++ [d])[n8]? = some x := ⟨_, List.getElem?_eq_getElem (by omega)⟩
    rw [hx8] at hd8
    obtain rfl : stD dx8 = dd8 := Option.some.inj hd8
    have shp8 := shs dx8 (List.mem_of_getElem? hx8)
    have rb := shp8.r .box
    have rt := shp8.r .thing
    have rsl := shp8.r .sl
    have rh := shp8.h
    have o5 := hok.h0
    have o6 := hok.h1
    have b1 : dx8.bs.length ≤ 3 := by have := hok.b1; have : d0.bs.length = dx8.bs.length := rb; omega
    have t1 : dx8.ts.length ≤ 4 := by have := hok.t1; have : d0.ts.length = dx8.ts.length := rt; omega
    have s1 : dx8.ss.length ≤ 3 := by have := hok.s1; have : d0.ss.length = dx8.ss.length := rsl; omega
    have h1' : dx8.hands ≤ 4 := by omega
    obtain ⟨nh, hnh⟩ := nat_of (show 0 ≤ d0.hands by omega)
    obtain ⟨dxh, vb, vt, vs', vst, q0, stf⟩ := id W8.hF
    refine ⟨S, ss, (n8 : Nat), ss[n8], rfl, rfl, SqL.of (k8.kp.ls _ _ hS7 SA4.sb.1 SA4.sb.2), atI_nat (List.getElem?_eq_getElem (by omega)), ?_⟩
    refine ⟨_, rfl, h, C, dxh, _, _, rfl, q0, hc.cl, hc.nH, fs_hands _ _ _ _ _, d0.hands, rfl, RgOk.of_le (by omega) (by omega) (by omega) (by omega), fun qh hqh => ?_⟩
    have e9 := same_upd (o := HO.lst (rgV 0 d0.hands)) hqh
    have hhs : ∀ u ∈ List.range nh, ((u : Nat) : Int) < dx8.hands := fun u hu => by have := List.mem_range.mp hu; omega
    refine ⟨_, qh, dx8, List.range nh, rfl, Dp.same e9 _ _ (Dp.nl k8.nl _ _ (noL_st dx8) hv8), by rw [← rg_nV, ← hnh]; exact upd_same, by rw [List.length_range]; omega, hhs, h1', b1, t1, s1, fun E xe es H10 e10 nE hE des les mem => ?_⟩
    have W10 := W8.same SA4 (e9.trans e10)
    have nbE : E ≠ b ∧ E ≠ l := (W8.bx.same e9).neL nE
    have smE : ∀ e ∈ es, Sm e := fun e he => sm_in hhs h1' (shp8.ls ls) ((mem e).mp he).1
    have W11 := W10.add hE des nbE
    clear W10 W8 W7 W6 W0 mem hd8 hv8 e9 e10 hE des k8 hS7 dS7
    refine ⟨(by show 3 ≤ sizeLine; decide), fun t1 ht1 => ⟨(by show 2 ≤ sizeLine; decide), fun u2 hu2 => ⟨(by show 4 ≤ sizeLine; decide), fun t2 ht2 => ⟨(by show 4 ≤ sizeLine; decide), fun t3 ht3 => ⟨(by show 2 ≤ sizeLine; decide), fun u4 hu4 => ⟨(by show 4 ≤ sizeLine; decide), fun t4 ht4 => ⟨(by show 4 ≤ sizeLine; decide), fun O hO => ?_⟩⟩⟩⟩⟩⟩⟩
    have g1 := same_upd (o := HO.tup [.str ("break" : Str), .int 4, .int 0]) ht1
    have a1 := upd_same (H := H10) (a := t1) (o := HO.tup [.str ("break" : Str), .int 4, .int 0])
    have g2 := same_upd (o := HO.tup [.str ("thing" : Str), .int 9]) hu2
    have a2 := upd_same (H := (L2.upd H10 t1 (HO.tup [.str ("break" : Str), .int 4, .int 0]))) (a := u2) (o := HO.tup [.str ("thing" : Str), .int 9])
    have g3 := same_upd (o := HO.tup [.str ("give" : Str), .int 0, .ref u2, .int 0]) ht2
    have a3 := upd_same (H := (L2.upd (L2.upd H10 t1 (HO.tup [.str ("break" : Str), .int 4, .int 0])) u2 (HO.tup [.str ("thing" : Str), .int 9]))) (a := t2) (o := HO.tup [.str ("give" : Str), .int 0, .ref u2, .int 0])
    have g4 := same_upd (o := HO.tup [.str ("seal" : Str), .int 0, .int 0, .int 9]) ht3
    have a4 := upd_same (H := (L2.upd (L2.upd (L2.upd H10 t1 (HO.tup [.str ("break" : Str), .int 4, .int 0])) u2 (HO.tup [.str ("thing" : Str), .int 9])) t2 (HO.tup [.str ("give" : Str), .int 0, .ref u2, .int 0]))) (a := t3) (o := HO.tup [.str ("seal" : Str), .int 0, .int 0, .int 9])
    have g5 := same_upd (o := HO.tup [.str ("box" : Str), .int 0]) hu4
    have a5 := upd_same (H := (L2.upd (L2.upd (L2.upd (L2.upd H10 t1 (HO.tup [.str ("break" : Str), .int 4, .int 0])) u2 (HO.tup [.str ("thing" : Str), .int 9])) t2 (HO.tup [.str ("give" : Str), .int 0, .ref u2, .int 0])) t3 (HO.tup [.str ("seal" : Str), .int 0, .int 0, .int 9]))) (a := u4) (o := HO.tup [.str ("box" : Str), .int 0])
    have g6 := same_upd (o := HO.tup [.str ("take" : Str), .int 0, .ref u4, .int 9]) ht4
    have a6 := upd_same (H := (L2.upd (L2.upd (L2.upd (L2.upd (L2.upd H10 t1 (HO.tup [.str ("break" : Str), .int 4, .int 0])) u2 (HO.tup [.str ("thing" : Str), .int 9])) t2 (HO.tup [.str ("give" : Str), .int 0, .ref u2, .int 0])) t3 (HO.tup [.str ("seal" : Str), .int 0, .int 0, .int 9])) u4 (HO.tup [.str ("box" : Str), .int 0]))) (a := t4) (o := HO.tup [.str ("take" : Str), .int 0, .ref u4, .int 9])
    have g7 := same_upd (o := HO.lst [V.ref t1, .ref t2, .ref t3, .ref t4]) hO
    have a7 := upd_same (H := (L2.upd (L2.upd (L2.upd (L2.upd (L2.upd (L2.upd H10 t1 (HO.tup [.str ("break" : Str), .int 4, .int 0])) u2 (HO.tup [.str ("thing" : Str), .int 9])) t2 (HO.tup [.str ("give" : Str), .int 0, .ref u2, .int 0])) t3 (HO.tup [.str ("seal" : Str), .int 0, .int 0, .int 9])) u4 (HO.tup [.str ("box" : Str), .int 0])) t4 (HO.tup [.str ("take" : Str), .int 0, .ref u4, .int 9]))) (a := O) (o := HO.lst [V.ref t1, .ref t2, .ref t3, .ref t4])
    replace a1 := (g2.trans (g3.trans (g4.trans (g5.trans (g6.trans g7))))) _ _ a1
    replace a2 := (g3.trans (g4.trans (g5.trans (g6.trans g7)))) _ _ a2
    replace a3 := (g4.trans (g5.trans (g6.trans g7))) _ _ a3
    replace a4 := (g5.trans (g6.trans g7)) _ _ a4
    replace a5 := (g6.trans g7) _ _ a5
    replace a6 := g7 _ _ a6
    have e17 := (g1.trans (g2.trans (g3.trans (g4.trans (g5.trans (g6.trans g7))))))
    have nbO : O ≠ b ∧ O ≠ l := (W11.bx.same (g1.trans (g2.trans (g3.trans (g4.trans (g5.trans g6)))))).neL hO
    clear g1 g2 g3 g4 g5 g6 g7
    generalize (L2.upd (L2.upd (L2.upd (L2.upd (L2.upd (L2.upd (L2.upd H10 t1 (HO.tup [.str ("break" : Str), .int 4, .int 0])) u2 (HO.tup [.str ("thing" : Str), .int 9])) t2 (HO.tup [.str ("give" : Str), .int 0, .ref u2, .int 0])) t3 (HO.tup [.str ("seal" : Str), .int 0, .int 0, .int 9])) u4 (HO.tup [.str ("box" : Str), .int 0])) t4 (HO.tup [.str ("take" : Str), .int 0, .ref u4, .int 9])) O (HO.lst [V.ref t1, .ref t2, .ref t3, .ref t4])) = H12 at *
    have dO : DpAll K H12 [V.ref t1, .ref t2, .ref t3, .ref t4] (oddD.map ddD) := .cons (.tup (SqT.of a1) (.cons (.str _) (.cons (.int 4) (.cons (.int 0) .nil)))) (.cons (.tup (SqT.of a3) (.cons (.str _) (.cons (.int 0) (.cons (.tup (SqT.of a2) (.cons (.str _) (.cons (.int 9) .nil))) (.cons (.int 0) .nil))))) (.cons (.tup (SqT.of a4) (.cons (.str _) (.cons (.int 0) (.cons (.int 0) (.cons (.int 9) .nil))))) (.cons (.tup (SqT.of a6) (.cons (.str _) (.cons (.int 0) (.cons (.tup (SqT.of a5) (.cons (.str _) (.cons (.int 0) .nil))) (.cons (.int 9) .nil))))) .nil)))
    have W12 := (W11.same SA4 e17).add a7 dO nbO
    clear a1 a2 a3 a4 a5 a6 a7 dO W11 e17 hO ht1 ht2 ht3 ht4 hu2 hu4
    -- the turns
    refine ⟨_, rfl, (by show 0 ≤ sizeLine; decide), fun z hz => ?_⟩
    have gz := same_upd (o := HO.lst []) hz
    have W13 := W12.same SA4 gz
    refine ⟨.list (cs.map coD), .list [], .lst (SqL.of W13.sh.m) W13.sh.course, .lst (SqL.of upd_same) .nil, shaped_cs cs (fun c hc => (pr.okc c hc).1), rfl, .inr ⟨_, rfl, ?_⟩⟩
    obtain ⟨kb, hkb⟩ : ∃ kb, kb = !PyData.eqv (.list (cs.map coD)) (.list []) := ⟨_, rfl⟩
    have hk0 : kb = true → cs ≠ [] := fun e z => by subst z; rw [hkb] at e; exact absurd e (by decide)
    rw [← hkb]
    refine ⟨6, _, rfl, rfl, (.inl (by decide)), 6 * (if kb = true then 1 else 0), rfl, by cases kb <;> decide, by cases kb <;> decide, ?_⟩
    have W14 := W13
    refine for_range (lo := 0) (n := (6 * (if kb = true then (1 : Int) else 0)).toNat) (fun i σ H' => ∃ (u9 u10 u11 u12 u13 u14 : Option V), σ = [some (.ref sc), some (.ref b), some (.ref h), some (.ref R), some (.ref M'), some (.ref S), some (.ref a), some (.ref E), some (.ref O), u9, u10, u11, u12, u13, u14] ∧ WA K C CL [(tb, q)] b l h a R M' S H3 d0 rs Zs cs (ds ++ [d]) [(O, oddD), (E, es)] H') ⟨none, none, none, none, none, none, rfl, W13⟩ ?_ ?_
    · rintro i σ H15 hi ⟨u9, u10, u11, u12, u13, u14, rfl, W15⟩
      have ncs : cs ≠ [] := hk0 (by cases kb with | true => rfl | false => exact absurd hi (by show ¬ i < 0; omega))
      have lcs : 1 ≤ cs.length := by
        cases cs with
        | nil => exact absurd rfl ncs
        | cons _ _ => simp
      have lcs2 : cs.length ≤ 12 := by
        have q3 : nGaps rs ≤ rs.length := List.length_filter_le _ _
        have := pr.nc
        omega
      have lZ : Zs.length = cs.length := W15.sh.ln
      -- the course anew
      refine ⟨_, rfl, M', rfl, ⟨_, SqL.of W15.sh.m⟩, fun C0 hC0 => ?_⟩
      have e0 : ∀ (H' : Hp) (o : HO), Same H15 H' → Same H15 (L2.upd H' C0 o) := fun H' o e c u h => by rw [upd_ne (ne_of_none h hC0)]; exact e c u h
      refine lc_list (K := K) (a := M') (xs := Zs.map V.ref) (fun i H => Same H15 H ∧ ∃ Ds : List Addr, H C0 = some (.lst (Ds.map V.ref)) ∧ Ds.length = i ∧ (C0 :: Ds).Nodup ∧ (∀ (j : Nat) D c, Ds[j]? = some D → cs[j]? = some c → ∃ zs, H D = some (.lst zs) ∧ DpAll K H zs (c.map ddD)) ∧ ∀ D ∈ Ds, H15 D = none) ⟨same_upd hC0, [], upd_same, rfl, by simp, fun j D c h => by simp at h, fun D hD => (nomatch hD)⟩ (fun i H _ ⟨e, _⟩ => sqL_same e (SqL.of W15.sh.m)) ?_ ?_
      · rintro j x H16 hj ⟨e16, Ds, hc0, lD, nd, zD, n15⟩
        rw [List.getElem?_map] at hj
        cases hZ : Zs[j]? with
        | none => rw [hZ] at hj; cases hj
        | some Z =>
          rw [hZ] at hj
          cases hj
          have lj := (List.getElem?_eq_some_iff.mp hZ).1
          obtain ⟨c, hcj⟩ : ∃ c, cs[j]? = some c := ⟨_, List.getElem?_eq_getElem (by omega)⟩
          obtain ⟨zs, z1, z2⟩ := W15.sh.z j Z c hZ hcj
          refine ⟨wipe_one _ 11 _, _, rfl, Z, zs, rfl, .inl (SqL.of (e16 _ _ z1)), fun D hD => ?_⟩
          have gD := same_upd (o := HO.lst zs) hD
          have nDC : D ≠ C0 := (ne_of_none hc0 hD).symm
          have hc0' := gD _ _ hc0
          have n16 : ∀ A ∈ Ds, ∃ o, H16 A = some o := fun A hA => by
            obtain ⟨m, hm⟩ := List.getElem?_of_mem hA
            have lm := (List.getElem?_eq_some_iff.mp hm).1
            obtain ⟨c', hc'⟩ : ∃ c, cs[m]? = some c := ⟨_, List.getElem?_eq_getElem (by omega)⟩
            obtain ⟨zs', y1, _⟩ := zD m A c' hm hc'
            exact ⟨_, y1⟩
          have nDs : D ∉ Ds := fun hA => by obtain ⟨o, ho⟩ := n16 D hA; rw [hD] at ho; cases ho
          have nlC := nl_updL (ys := Ds.map V.ref ++ [V.ref D]) hc0'
          refine ⟨_, hc0', by rw [List.length_map]; omega, e0 _ _ (e16.trans gD), Ds ++ [D], by rw [upd_same, List.map_append]; rfl, by rw [List.length_append, lD]; rfl, ?_, fun m A c' h1 h2 => ?_, fun A hA => ?_⟩
          · rw [List.nodup_cons] at nd ⊢
            refine ⟨fun hm => ?_, ?_⟩
            · rcases List.mem_append.mp hm with hm | hm
              · exact nd.1 hm
              · exact nDC (List.mem_singleton.mp hm).symm
            · rw [List.nodup_append]
              exact ⟨nd.2, by simp, fun A hA B hB => by rw [List.mem_singleton.mp hB]; exact fun z => nDs (z ▸ hA)⟩
          · by_cases hm : m < Ds.length
            · rw [List.getElem?_append_left hm] at h1
              obtain ⟨zs', y1, y2⟩ := zD m A c' h1 h2
              have nA : A ≠ C0 := fun z => by
                rw [List.nodup_cons] at nd
                exact nd.1 (z ▸ List.mem_of_getElem? h1)
              exact ⟨zs', by rw [upd_ne nA]; exact gD _ _ y1, Dp.nls nlC _ _ (noLs_dd c') (Dp.sames gD _ _ y2)⟩
            · have lm := (List.getElem?_eq_some_iff.mp h1).1
              rw [List.length_append] at lm
              have em : m = Ds.length := by simp at lm; omega
              subst em
              rw [List.getElem?_append_right (Nat.le_refl _), Nat.sub_self] at h1
              cases h1
              rw [lD, hcj] at h2
              cases h2
              exact ⟨zs, by rw [upd_ne nDC]; exact upd_same, Dp.nls nlC _ _ (noLs_dd c) (Dp.sames (e16.trans gD) _ _ z2)⟩
          · rcases List.mem_append.mp hA with hA | hA
            · exact n15 A hA
            · rw [List.mem_singleton.mp hA]
              cases h15 : H15 D with
              | none => rfl
              | some o => rw [e16 _ _ h15] at hD; cases hD
      rintro H16 ⟨e16, Ds, hc0, lD, nd, zD, n15⟩
      rw [List.length_map] at lD
      have X16 : CH K b l C0 Ds cs H16 := ⟨hc0, zD, fun D hD => by
        rcases List.mem_cons.mp hD with rfl | hD
        · exact W15.bx.neL hC0
        · exact W15.bx.neL (n15 D hD), nd, by omega⟩
      have W16 := W15.same SA4 e16
      have npD : ∀ D ∈ Ds, ¬ Prot R M' S Zs [(O, oddD), (E, es)] D := fun D hD hp => by
        obtain ⟨o, ho⟩ := W15.has hp
        rw [n15 D hD] at ho
        cases ho
      clear W15 hc0 nd zD n15 e16 hC0 e0 W12 W13 W14
      have lD' : Ds.length = cs.length := by omega
      -- the list, the deed, the kind
      refine ⟨_, rfl, _, rfl, _, rfl, C0, Ds.map V.ref, rfl, .inl (SqL.of X16.c0), b, l, ((Ds.map V.ref).length : Nat), rfl, by rw [List.length_map]; omega, by rw [List.length_map]; omega, W16.bx, fun r17 H17 r170 r171 hB17 k17 => ?_⟩
      rw [List.length_map] at r171
      obtain ⟨kx, rfl⟩ := nat_of r170
      have W17 := W16.kb SA4 k17 hB17
      have X17 := X16.kb k17
      obtain ⟨Dk, hDk⟩ : ∃ D, Ds[kx]? = some D := ⟨_, List.getElem?_eq_getElem (by omega)⟩
      obtain ⟨ck, hck⟩ : ∃ c, cs[kx]? = some c := ⟨_, List.getElem?_eq_getElem (by omega)⟩
      have okk := pr.okc ck (List.mem_of_getElem? hck)
      have mDk : Dk ∈ Ds := List.mem_of_getElem? hDk
      have nbk := X17.nb Dk (List.mem_cons_of_mem _ mDk)
      refine ⟨C0, Ds.map V.ref, (kx : Nat), .ref Dk, rfl, rfl, SqL.of X17.c0, atI_nat (by rw [List.getElem?_map, hDk]; rfl), ?_⟩
      clear W16 X16 k17
      obtain ⟨xo, hO, dO⟩ := W17.xl _ List.mem_cons_self
      obtain ⟨xe', hE, dE⟩ := W17.xl _ (List.mem_cons_of_mem _ List.mem_cons_self)
      dsimp only at hO dO hE dE
      have lxo : xo.length = 4 := by rw [DpAll.len dO, List.length_map]; rfl
      have lxe : xe'.length = es.length := by rw [DpAll.len dE, List.length_map]
      refine ⟨_, rfl, _, rfl, E, O, xe', xo, rfl, rfl, hE, hO, by omega, fun p hp => ?_⟩
      have gp := same_upd (o := HO.lst (xe' ++ xo)) hp
      have W18 := W17.same SA4 gp
      have X18 := X17.same gp
      have nbp := W17.bx.neL hp
      have dp : DpAll K (L2.upd H17 p (.lst (xe' ++ xo))) (xe' ++ xo) ((es ++ oddD).map ddD) := by rw [List.map_append]; exact DpAll.app (Dp.sames gp _ _ dE) (Dp.sames gp _ _ dO)
      have hp18 := upd_same (H := H17) (a := p) (o := HO.lst (xe' ++ xo))
      refine ⟨_, rfl, _, rfl, E, xe', rfl, .inl (SqL.of (gp _ _ hE)), _, _, rfl, rfl, b, l, ((xe'.length : Nat) : Int) + 4, rfl, by omega, by omega, W18.bx, fun r19 H19 r190 r191 hB19 k19 => ?_⟩
      obtain ⟨n9, rfl⟩ := nat_of r190
      have W19 := W18.kb SA4 k19 hB19
      have X19 := X18.kb k19
      have l9 : n9 < (xe' ++ xo).length := by rw [List.length_append]; omega
      obtain ⟨ed, hmem, hd0⟩ := pick_dd dp l9
      have hd19 := Dp.nl k19.nl _ _ (noL_dd ed) hd0
      have smd : Sm ed := by
        rcases List.mem_append.mp hmem with hm | hm
        · exact smE ed hm
        · exact sm_odd ed hm
      refine ⟨p, xe' ++ xo, (n9 : Nat), (xe' ++ xo)[n9], rfl, rfl, SqL.of (k19.kp.ls _ _ hp18 nbp.1 nbp.2), atI_nat (List.getElem?_eq_getElem l9), ?_⟩
      generalize (xe' ++ xo)[n9] = yd at *
      clear W17 W18 X17 X18 dp hp18 hd0 gp hE hO dE dO hp k19 hmem l9
      refine ⟨_, rfl, b, l, 3, rfl, by decide, by decide, W19.bx, fun kd H20 kd0 kd1 hB20 k20 => ?_⟩
      have W20 := W19.kb SA4 k20 hB20
      have X20 := X19.kb k20
      have hd20 := Dp.nl k20.nl _ _ (noL_dd ed) hd19
      clear W19 X19 hd19 k20
      dsimp only
      -- the change
      refine seq_cont (fun σ' H' => σ' = [some (.ref sc), some (.ref b), some (.ref h), some (.ref R), some (.ref M'), some (.ref S), some (.ref a), some (.ref E), some (.ref O), some (.int (0 + (i : Int))), some (.ref C0), some (.ref Dk), some yd, some (.int kd), u14] ∧ WA K C CL [(tb, q)] b l h a R M' S H3 d0 rs Zs cs (ds ++ [d]) [(O, oddD), (E, es)] H' ∧ ∃ c', CH K b l C0 Ds (cs.set kx c') H' ∧ c'.length ≤ 21 ∧ ∀ e ∈ c', Sm e) (fun D' kD => ?_) ?_
      · have chg : ∀ H1 (ys : List V) (c' : List Dd), WA K C CL [(tb, q)] b l h a R M' S H3 d0 rs Zs cs (ds ++ [d]) [(O, oddD), (E, es)] H1 → CH K b l C0 Ds cs H1 → DpAll K H1 ys (c'.map ddD) → c'.length ≤ 21 → (∀ e ∈ c', Sm e) → D'.nx [some (.ref sc), some (.ref b), some (.ref h), some (.ref R), some (.ref M'), some (.ref S), some (.ref a), some (.ref E), some (.ref O), some (.int (0 + (i : Int))), some (.ref C0), some (.ref Dk), some yd, some (.int kd), u14] (L2.upd H1 Dk (.lst ys)) := fun H1 ys c' W1 X1 dy lc sm => by
          obtain ⟨z1, hz1, _⟩ := X1.z kx Dk ck hDk hck
          exact kD _ _ ⟨rfl, W1.updD hz1 nbk (npD Dk mDk), c', X1.set hDk hz1 (Dp.nls (nl_updL hz1) _ _ (noLs_dd c') dy), lc, sm⟩
        obtain ⟨zs, hz1, dz1⟩ := X20.z kx Dk ck hDk hck
        have lzs : zs.length = ck.length := by rw [DpAll.len dz1, List.length_map]
        refine ifs_by (fun b' H' => Same H20 H' ∧ (b' = false → zs ≠ [])) (fun Q' kq => ?_) (fun H21 ⟨e21, _⟩ => ?_) (fun H21 ⟨e21, nz⟩ => ?_)
        · refine ⟨_, rfl, rfl, _, rfl, ?_⟩
          rw [decZ]
          by_cases c : kd = 0
          · rw [decide_eq_true c]
            exact iteT (kq _ _ ⟨Same.refl _, fun z => by cases z⟩)
          · rw [decide_eq_false c]
            refine iteF ⟨_, rfl, (by show 0 ≤ sizeLine; decide), fun z hz => ?_⟩
            have f5 := same_upd (o := HO.lst []) hz
            refine ⟨.list (ck.map ddD), .list [], .lst (SqL.of (f5 _ _ hz1)) (Dp.sames f5 _ _ dz1), .lst (SqL.of upd_same) .nil, shaped_dds ck, rfl, _, rfl, kq _ _ ⟨f5, fun z1 ex => ?_⟩⟩
            have en : ck = [] := List.eq_nil_of_length_eq_zero (by rw [← lzs, ex]; rfl)
            subst en
            exact absurd (show (true : Bool) = false from z1) (by decide)
        · -- a deed is put in
          have W21 := W20.same SA4 e21
          have X21 := X20.same e21
          have hz21 := e21 _ _ hz1
          refine ⟨_, rfl, .inl ⟨rfl, _, SqL.of hz21⟩, _, rfl, _, rfl, Dk, zs, rfl, .inl (SqL.of hz21), _, _, rfl, rfl, b, l, ((zs.length : Nat) : Int) + 1, rfl, by omega, by omega, W21.bx, fun r H22 r0 r1 hB22 k22 => ⟨_, rfl, ?_⟩⟩
          have W22 := W21.kb SA4 k22 hB22
          have X22 := X21.kb k22
          obtain ⟨zs', hz22, dz22⟩ := X22.z kx Dk ck hDk hck
          obtain rfl : zs' = zs := by have := k22.kp.ls _ _ hz21 nbk.1 nbk.2; rw [hz22] at this; cases this; rfl
          refine ⟨Dk, zs', r, yd, rfl, rfl, hz22, by omega, r0, by omega, ?_⟩
          refine chg H22 _ (ck.take r.toNat ++ [ed] ++ ck.drop r.toNat) W22 X22 ?_ ?_ ?_
          · rw [List.map_append, List.map_append, List.map_take, List.map_drop]
            exact DpAll.app (DpAll.app (DpAll.takeN _ dz22) (.cons (Dp.nl k22.nl _ _ (noL_dd ed) (Dp.same e21 _ _ hd20)) .nil)) (DpAll.dropN _ dz22)
          · have := okk.1
            simp only [List.length_append, List.length_take, List.length_drop, List.length_singleton]
            omega
          · intro e he
            rcases List.mem_append.mp he with he | he
            · rcases List.mem_append.mp he with he | he
              · exact okk.2 e (List.mem_of_mem_take he)
              · rw [List.mem_singleton.mp he]; exact smd
            · exact okk.2 e (List.mem_of_mem_drop he)
        · have nz := nz rfl
          have lz1 : 1 ≤ zs.length := by
            cases zs with
            | nil => exact absurd rfl nz
            | cons _ _ => simp
          have W21 := W20.same SA4 e21
          have X21 := X20.same e21
          have hz21 := e21 _ _ hz1
          refine ifs_by (fun b' H' => H' = H21) (fun Q' kq => ?_) (fun H' p => ?_) (fun H' p => ?_)
          · refine ⟨_, rfl, rfl, _, rfl, ?_⟩
            exact kq _ _ rfl
          · subst p
            refine ⟨_, rfl, .inl ⟨rfl, _, SqL.of hz21⟩, _, rfl, _, rfl, Dk, zs, rfl, .inl (SqL.of hz21), b, l, ((zs.length : Nat) : Int), rfl, by omega, by omega, W21.bx, fun r H22 r0 r1 hB22 k22 => ?_⟩
            obtain ⟨n2, rfl⟩ := nat_of r0
            have W22 := W21.kb SA4 k22 hB22
            have X22 := X21.kb k22
            obtain ⟨zs', hz22, dz22⟩ := X22.z kx Dk ck hDk hck
            obtain rfl : zs' = zs := by have := k22.kp.ls _ _ hz21 nbk.1 nbk.2; rw [hz22] at this; cases this; rfl
            refine ⟨Dk, zs', (n2 : Nat), n2, zs'[n2], rfl, rfl, hz22, by omega, by omega, seqIx_nat (by omega), List.getElem?_eq_getElem (by omega), ?_⟩
            refine chg H22 _ (ck.take n2 ++ ck.drop (n2 + 1)) W22 X22 ?_ ?_ ?_
            · rw [List.map_append, List.map_take, List.map_drop, List.eraseIdx_eq_take_drop_succ]
              exact DpAll.app (DpAll.takeN _ dz22) (DpAll.dropN _ dz22)
            · have := okk.1
              simp only [List.length_append, List.length_take, List.length_drop]
              omega
            · intro e he
              rcases List.mem_append.mp he with he | he
              · exact okk.2 e (List.mem_of_mem_take he)
              · exact okk.2 e (List.mem_of_mem_drop he)
          · subst p
            refine ⟨_, rfl, _, rfl, _, rfl, _, rfl, Dk, zs, rfl, .inl (SqL.of hz21), b, l, ((zs.length : Nat) : Int), rfl, by omega, by omega, W21.bx, fun r H22 r0 r1 hB22 k22 => ?_⟩
            obtain ⟨n2, rfl⟩ := nat_of r0
            have W22 := W21.kb SA4 k22 hB22
            have X22 := X21.kb k22
            obtain ⟨zs', hz22, dz22⟩ := X22.z kx Dk ck hDk hck
            obtain rfl : zs' = zs := by have := k22.kp.ls _ _ hz21 nbk.1 nbk.2; rw [hz22] at this; cases this; rfl
            refine ⟨Dk, zs', (n2 : Nat), n2, rfl, rfl, hz22, ixN_nat (by omega), ?_⟩
            refine chg H22 _ (ck.take n2 ++ [ed] ++ ck.drop (n2 + 1)) W22 X22 ?_ ?_ ?_
            · rw [List.map_append, List.map_append, List.map_take, List.map_drop, List.set_eq_take_append_cons_drop, if_pos (by omega)]
              rw [show zs'.take n2 ++ yd :: zs'.drop (n2 + 1) = zs'.take n2 ++ [yd] ++ zs'.drop (n2 + 1) by simp]
              exact DpAll.app (DpAll.app (DpAll.takeN _ dz22) (.cons (Dp.nl k22.nl _ _ (noL_dd ed) (Dp.same e21 _ _ hd20)) .nil)) (DpAll.dropN _ dz22)
            · have := okk.1
              simp only [List.length_append, List.length_take, List.length_drop, List.length_singleton]
              omega
            · intro e he
              rcases List.mem_append.mp he with he | he
              · rcases List.mem_append.mp he with he | he
                · exact okk.2 e (List.mem_of_mem_take he)
                · rw [List.mem_singleton.mp he]; exact smd
              · exact okk.2 e (List.mem_of_mem_drop he)
      rintro σ' H21 ⟨rfl, W21, c', X21, lc', smc⟩
      have okc' : ∀ c ∈ cs.set kx c', c.length ≤ 100 ∧ ∀ e ∈ c, Sm e := fun c hc => by
        rcases List.mem_or_eq_of_mem_set hc with hc | rfl
        · exact okc c hc
        · exact ⟨by omega, smc⟩
      have nc' : (cs.set kx c').length = nGaps rs := by rw [List.length_set]; exact pr.nc
      refine ⟨_, rfl, _, rfl, a, h, C0, d0, rs, _, cs.set kx c', rfl, W21.la, W21.hF, ls, SqL.of X21.c0, X21.course, by omega, okr, okc', fun ne => absurd nc' ne, fun _ v1 H22 e22 o1 => ?_⟩
      have W22 := W21.same SA4 e22
      have X22 := X21.same e22
      obtain ⟨yr, hR22, dR22⟩ := W22.sh.r
      refine ⟨_, rfl, _, rfl, _, rfl, h, R, C0, d0, rs, yr, _, cs.set kx c', rfl, W22.la.hh, W22.hF, hok, SqL.of hR22, dR22, SqL.of X22.c0, X22.course, by omega, pr.ok, okc', nc', fun v2 H23 e23 o2 => ?_⟩
      refine ⟨v1, v2, optD (faultOf d0 d0 rs (cs.set kx c') 0), rfl, Dp.same e23 _ _ (optft_dp o1), optft_dp o2, okA_opt _, depth_opt _, ⟨_, rfl, iteFe (by rfl) ?_⟩⟩
      exact ⟨_, _, _, _, _, _, rfl, W22.same SA4 e23⟩
    · rintro σ H15 ⟨u9, u10, u11, u12, u13, u14, rfl, W15⟩
      clear W12 W13 W14
      -- the last
      obtain ⟨xr, hR, dR⟩ := W15.sh.r
      have lxr : xr.length = rs.length := by rw [DpAll.len dR, List.length_map]
      obtain ⟨ss, hSS, dSS⟩ := W15.sh.s
      have lss : ss.length = ds.length + 1 := by rw [DpAll.len dSS, List.length_map, List.length_append]; rfl
      obtain ⟨sv, hsv, dsv⟩ := DpAll.at2 dSS (i := ds.length) (d := stD d) (by rw [List.getElem?_map, List.getElem?_append_right (Nat.le_refl _), Nat.sub_self]; rfl)
      obtain ⟨sa, v1, v2, v3, rfl, sqa, d1, d2, d3⟩ := st_at dsv
      refine ⟨_, rfl, R, xr, rfl, .inl (SqL.of hR), (by show 2 ≤ sizeLine; decide), fun tb' htb => ?_⟩
      have gb := same_upd (o := HO.tup [.str ("box" : Str), .int 0]) htb
      have W16 := W15.same SA4 gb
      refine ⟨_, rfl, 1, rfl, S, ss, -1, .ref sa, rfl, rfl, SqL.of (gb _ _ hSS), atI_m1 lss hsv, sa, _, 2, v3, rfl, rfl, SqT.same gb sqa, rfl, ?_⟩
      refine ⟨plD (.box, 0), d.ss.map plD, .tup (SqT.of upd_same) (.cons (.str _) (.cons (.int 0) .nil)), Dp.same gb _ _ d3, shaped_pl _, shaped_pls _, .inr ⟨_, rfl, ?_⟩⟩
      rw [if_neg (show ¬ (false = true) by decide), any_pl, anyIn]
      refine ⟨_, _, rfl, rfl, 1, rfl, (by show 2 ≤ sizeLine; decide), fun tr htr => ?_⟩
      obtain ⟨sl, hsl⟩ : ∃ x, x = decide ((Wd.box, (0 : Int)) ∈ d.ss) := ⟨_, rfl⟩
      rw [← hsl]
      have dt : Dp K (L2.upd (L2.upd H15 tb' (.tup [.str ("box" : Str), .int 0])) tr (.tup [.int ((xr.length : Nat) + (if sl = true then 1 else 0)), .int (-1)])) (.ref tr) (.tuple [.int ((xr.length : Nat) + (if sl = true then 1 else 0)), .int (-1)]) := .tup (SqT.of upd_same) (.cons (.int _) (.cons (.int _) .nil))
      have gt := same_upd (o := HO.tup [.int ((xr.length : Nat) + (if sl = true then 1 else 0)), .int (-1)]) htr
      have W17 := W16.same SA4 gt
      generalize L2.upd (L2.upd H15 tb' (.tup [.str ("box" : Str), .int 0])) tr (.tup [.int ((xr.length : Nat) + (if sl = true then 1 else 0)), .int (-1)]) = H17 at *
      clear W15 W16 gb gt hR dR hSS dSS hsv dsv sqa d1 d2 d3
      refine ⟨_, rfl, (by show 2 ≤ sizeLine; decide), fun x1 hx1 => ⟨(by show 2 ≤ sizeLine; decide), fun x2 hx2 => ⟨(by show 2 ≤ sizeLine; decide), fun x3 hx3 => ⟨(by show 2 ≤ sizeLine; decide), fun y hy => ?_⟩⟩⟩⟩
      have g1 := same_upd (o := HO.tup [.str ("bare" : Str), .int 0]) hx1
      have a1 := upd_same (H := H17) (a := x1) (o := HO.tup [.str ("bare" : Str), .int 0])
      have g2 := same_upd (o := HO.tup [.str ("not" : Str), .ref x1]) hx2
      have a2 := upd_same (H := L2.upd H17 x1 (HO.tup [.str ("bare" : Str), .int 0])) (a := x2) (o := HO.tup [.str ("not" : Str), .ref x1])
      have g3 := same_upd (o := HO.tup [.str ("bare" : Str), .int 0]) hx3
      have a3 := upd_same (H := L2.upd (L2.upd H17 x1 (HO.tup [.str ("bare" : Str), .int 0])) x2 (HO.tup [.str ("not" : Str), .ref x1])) (a := x3) (o := HO.tup [.str ("bare" : Str), .int 0])
      have g4 := same_upd (o := HO.lst [.ref x2, .ref x3]) hy
      have b1 := (g2.trans (g3.trans g4)) _ _ a1
      have b2 := (g3.trans g4) _ _ a2
      have b3 := g4 _ _ a3
      have W18 := W17.same SA4 (g1.trans (g2.trans (g3.trans g4)))
      have dt18 := Dp.same (g1.trans (g2.trans (g3.trans g4))) _ _ dt
      obtain ⟨dx, fs, t9, xt, k0, k1, k2, k3', k4', k5⟩ := id W18.la.ex
      have okq : ∀ r ∈ rs ++ [.sight (.nt (.bare 0)), .sight (.bare 0)], RwOk d0 r := fun r hr => by
        rcases List.mem_append.mp hr with hr | hr
        · exact okr r hr
        · rcases List.mem_cons.mp hr with rfl | hr
          · exact nbare_ok hok
          · rw [List.mem_singleton.mp hr]; exact bare_ok hok
      have lq : (rs ++ [Rw.sight (.nt (.bare 0)), .sight (.bare 0)]).length ≤ 14 := by rw [List.length_append]; show rs.length + 2 ≤ 14; omega
      refine ⟨a, y, dx, fs, _, rfl, rfl, k0, SqL.of upd_same, a, y, h, d0, rs, [.sight (.nt (.bare 0)), .sight (.bare 0)], _, rfl, W18.la, SqL.of upd_same, .cons (.tup (SqT.of b2) (.cons (.str _) (.cons (.tup (SqT.of b1) (.cons (.str _) (.cons (.int 0) .nil))) .nil))) (.cons (.tup (SqT.of b3) (.cons (.str _) (.cons (.int 0) .nil))) .nil), by omega, by decide, fun r hr => (okq r hr).2, fun i bd => ?_, fun _ _ a' H19 e19 na la' => ⟨a', rfl, ?_⟩⟩
      · exfalso
        obtain ⟨q1, q2, q3⟩ := bd
        rcases q3 with q3 | ⟨r, q3, q4⟩
        · omega
        · exact q4 (okq r (List.mem_of_getElem? q3)).1
      have W19 := W18.same SA4 e19
      refine ⟨_, rfl, a', h, M', d0, rs ++ [.sight (.nt (.bare 0)), .sight (.bare 0)], _, cs, rfl, la', W19.hF, ls, SqL.of W19.sh.m, W19.sh.course, by omega, okq, okc, fun ne => ?_, fun _ v H20 e20 ov => ?_⟩
      · exfalso
        apply ne
        rw [nGaps_app, pr.nc]
        rfl
      rw [due_last pr, ← hsl] at ov
      refine ⟨_, rfl, v, .ref tr, _, rfl, optft_dp ov, ?_, okA_opt _, depth_opt _, k H20⟩
      have dt20 := Dp.same (e19.trans e20) _ _ dt18
      rw [lxr] at dt20
      have en : ((rs.length : Nat) : Int) + (if sl = true then 1 else 0) = ((rs.length + (if sl = true then 1 else 0) : Nat) : Int) := by cases sl <;> simp
      rw [en] at dt20
      exact dt20
end
end Kw

set_option Elab.async false
set_option linter.all false
set_option maxRecDepth 100000
set_option maxHeartbeats 4000000
namespace Kw
open PySem PySem.Spec PyProof.Rows L2
def ce12 (CInvalidHands CInvalidLog CInvalidCourse CUnknownHand CUnknownItem CUnknownBox CUnknownSeal CInsideItself CNotHeld CIsSealed CNotSealed CNotInside : Addr) (z : Str) : Addr := if z = "InvalidHands" then CInvalidHands else if z = "InvalidLog" then CInvalidLog else if z = "InvalidCourse" then CInvalidCourse else if z = "UnknownHand" then CUnknownHand else if z = "UnknownItem" then CUnknownItem else if z = "UnknownBox" then CUnknownBox else if z = "UnknownSeal" then CUnknownSeal else if z = "InsideItself" then CInsideItself else if z = "NotHeld" then CNotHeld else if z = "IsSealed" then CIsSealed else if z = "NotSealed" then CNotSealed else CNotInside
theorem ce12_InvalidHands (CInvalidHands CInvalidLog CInvalidCourse CUnknownHand CUnknownItem CUnknownBox CUnknownSeal CInsideItself CNotHeld CIsSealed CNotSealed CNotInside : Addr) : ce12 CInvalidHands CInvalidLog CInvalidCourse CUnknownHand CUnknownItem CUnknownBox CUnknownSeal CInsideItself CNotHeld CIsSealed CNotSealed CNotInside "InvalidHands" = CInvalidHands := by
  unfold ce12
  rw [if_pos rfl]
theorem ce12_InvalidLog (CInvalidHands CInvalidLog CInvalidCourse CUnknownHand CUnknownItem CUnknownBox CUnknownSeal CInsideItself CNotHeld CIsSealed CNotSealed CNotInside : Addr) : ce12 CInvalidHands CInvalidLog CInvalidCourse CUnknownHand CUnknownItem CUnknownBox CUnknownSeal CInsideItself CNotHeld CIsSealed CNotSealed CNotInside "InvalidLog" = CInvalidLog := by
  unfold ce12
  rw [if_neg (by decide +kernel), if_pos rfl]
theorem ce12_InvalidCourse (CInvalidHands CInvalidLog CInvalidCourse CUnknownHand CUnknownItem CUnknownBox CUnknownSeal CInsideItself CNotHeld CIsSealed CNotSealed CNotInside : Addr) : ce12 CInvalidHands CInvalidLog CInvalidCourse CUnknownHand CUnknownItem CUnknownBox CUnknownSeal CInsideItself CNotHeld CIsSealed CNotSealed CNotInside "InvalidCourse" = CInvalidCourse := by
  unfold ce12
  rw [if_neg (by decide +kernel), if_neg (by decide +kernel), if_pos rfl]
theorem ce12_UnknownHand (CInvalidHands CInvalidLog CInvalidCourse CUnknownHand CUnknownItem CUnknownBox CUnknownSeal CInsideItself CNotHeld CIsSealed CNotSealed CNotInside : Addr) : ce12 CInvalidHands CInvalidLog CInvalidCourse CUnknownHand CUnknownItem CUnknownBox CUnknownSeal CInsideItself CNotHeld CIsSealed CNotSealed CNotInside "UnknownHand" = CUnknownHand := by
  unfold ce12
  rw [if_neg (by decide +kernel), if_neg (by decide +kernel), if_neg (by decide +kernel), if_pos rfl]
theorem ce12_UnknownItem (CInvalidHands CInvalidLog CInvalidCourse CUnknownHand CUnknownItem CUnknownBox CUnknownSeal CInsideItself CNotHeld CIsSealed CNotSealed CNotInside : Addr) : ce12 CInvalidHands CInvalidLog CInvalidCourse CUnknownHand CUnknownItem CUnknownBox CUnknownSeal CInsideItself CNotHeld CIsSealed CNotSealed CNotInside "UnknownItem" = CUnknownItem := by
  unfold ce12
  rw [if_neg (by decide +kernel), if_neg (by decide +kernel), if_neg (by decide +kernel), if_neg (by decide +kernel), if_pos rfl]
theorem ce12_UnknownBox (CInvalidHands CInvalidLog CInvalidCourse CUnknownHand CUnknownItem CUnknownBox CUnknownSeal CInsideItself CNotHeld CIsSealed CNotSealed CNotInside : Addr) : ce12 CInvalidHands CInvalidLog CInvalidCourse CUnknownHand CUnknownItem CUnknownBox CUnknownSeal CInsideItself CNotHeld CIsSealed CNotSealed CNotInside "UnknownBox" = CUnknownBox := by
  unfold ce12
  rw [if_neg (by decide +kernel), if_neg (by decide +kernel), if_neg (by decide +kernel), if_neg (by decide +kernel), if_neg (by decide +kernel), if_pos rfl]
theorem ce12_UnknownSeal (CInvalidHands CInvalidLog CInvalidCourse CUnknownHand CUnknownItem CUnknownBox CUnknownSeal CInsideItself CNotHeld CIsSealed CNotSealed CNotInside : Addr) : ce12 CInvalidHands CInvalidLog CInvalidCourse CUnknownHand CUnknownItem CUnknownBox CUnknownSeal CInsideItself CNotHeld CIsSealed CNotSealed CNotInside "UnknownSeal" = CUnknownSeal := by
  unfold ce12
  rw [if_neg (by decide +kernel), if_neg (by decide +kernel), if_neg (by decide +kernel), if_neg (by decide +kernel), if_neg (by decide +kernel), if_neg (by decide +kernel), if_pos rfl]
theorem ce12_InsideItself (CInvalidHands CInvalidLog CInvalidCourse CUnknownHand CUnknownItem CUnknownBox CUnknownSeal CInsideItself CNotHeld CIsSealed CNotSealed CNotInside : Addr) : ce12 CInvalidHands CInvalidLog CInvalidCourse CUnknownHand CUnknownItem CUnknownBox CUnknownSeal CInsideItself CNotHeld CIsSealed CNotSealed CNotInside "InsideItself" = CInsideItself := by
  unfold ce12
  rw [if_neg (by decide +kernel), if_neg (by decide +kernel), if_neg (by decide +kernel), if_neg (by decide +kernel), if_neg (by decide +kernel), if_neg (by decide +kernel), if_neg (by decide +kernel), if_pos rfl]
theorem ce12_NotHeld (CInvalidHands CInvalidLog CInvalidCourse CUnknownHand CUnknownItem CUnknownBox CUnknownSeal CInsideItself CNotHeld CIsSealed CNotSealed CNotInside : Addr) : ce12 CInvalidHands CInvalidLog CInvalidCourse CUnknownHand CUnknownItem CUnknownBox CUnknownSeal CInsideItself CNotHeld CIsSealed CNotSealed CNotInside "NotHeld" = CNotHeld := by
  unfold ce12
  rw [if_neg (by decide +kernel), if_neg (by decide +kernel), if_neg (by decide +kernel), if_neg (by decide +kernel), if_neg (by decide +kernel), if_neg (by decide +kernel), if_neg (by decide +kernel), if_neg (by decide +kernel), if_pos rfl]
theorem ce12_IsSealed (CInvalidHands CInvalidLog CInvalidCourse CUnknownHand CUnknownItem CUnknownBox CUnknownSeal CInsideItself CNotHeld CIsSealed CNotSealed CNotInside : Addr) : ce12 CInvalidHands CInvalidLog CInvalidCourse CUnknownHand CUnknownItem CUnknownBox CUnknownSeal CInsideItself CNotHeld CIsSealed CNotSealed CNotInside "IsSealed" = CIsSealed := by
  unfold ce12
  rw [if_neg (by decide +kernel), if_neg (by decide +kernel), if_neg (by decide +kernel), if_neg (by decide +kernel), if_neg (by decide +kernel), if_neg (by decide +kernel), if_neg (by decide +kernel), if_neg (by decide +kernel), if_neg (by decide +kernel), if_pos rfl]
theorem ce12_NotSealed (CInvalidHands CInvalidLog CInvalidCourse CUnknownHand CUnknownItem CUnknownBox CUnknownSeal CInsideItself CNotHeld CIsSealed CNotSealed CNotInside : Addr) : ce12 CInvalidHands CInvalidLog CInvalidCourse CUnknownHand CUnknownItem CUnknownBox CUnknownSeal CInsideItself CNotHeld CIsSealed CNotSealed CNotInside "NotSealed" = CNotSealed := by
  unfold ce12
  rw [if_neg (by decide +kernel), if_neg (by decide +kernel), if_neg (by decide +kernel), if_neg (by decide +kernel), if_neg (by decide +kernel), if_neg (by decide +kernel), if_neg (by decide +kernel), if_neg (by decide +kernel), if_neg (by decide +kernel), if_neg (by decide +kernel), if_pos rfl]
theorem ce12_NotInside (CInvalidHands CInvalidLog CInvalidCourse CUnknownHand CUnknownItem CUnknownBox CUnknownSeal CInsideItself CNotHeld CIsSealed CNotSealed CNotInside : Addr) : ce12 CInvalidHands CInvalidLog CInvalidCourse CUnknownHand CUnknownItem CUnknownBox CUnknownSeal CInsideItself CNotHeld CIsSealed CNotSealed CNotInside "NotInside" = CNotInside := by
  unfold ce12
  rw [if_neg (by decide +kernel), if_neg (by decide +kernel), if_neg (by decide +kernel), if_neg (by decide +kernel), if_neg (by decide +kernel), if_neg (by decide +kernel), if_neg (by decide +kernel), if_neg (by decide +kernel), if_neg (by decide +kernel), if_neg (by decide +kernel), if_neg (by decide +kernel)]
theorem all_mk {l : PySem.W.OpenLaw} {w : World} {K : PySem.W.Frag} {h : Heap} {mg : Str → Option Value} {fa : Addr} (X : K.In h) (G : h.Ns mainGlobals mg) (hfa : mg "law" = some (.ref fa))
    {C : Addr}
    {CL : Addr}
    {CT : Addr}
    {CInvalidHouse : Addr}
    {nmInvalidHouse qInvalidHouse : Str} {NInvalidHouse : Addr} {bsInvalidHouse bmInvalidHouse subInvalidHouse : List Value} {snInvalidHouse : List Str} {abInvalidHouse : Bool} {colInvalidHouse : Option Bool} {ddInvalidHouse : Option Addr} {g0InvalidHouse g1InvalidHouse g2InvalidHouse g3InvalidHouse g5InvalidHouse : Option Value}
    {fIInvalidHouse cdaInvalidHouse ccInvalidHouse : Addr} {ocIInvalidHouse kVIInvalidHouse dcIInvalidHouse pmIInvalidHouse ctIInvalidHouse : Value} {odIInvalidHouse anIInvalidHouse : Option Addr} {slIInvalidHouse : Array (Option Value)} {vsCInvalidHouse : Array Value} {filInvalidHouse : Str} {tfInvalidHouse : Tok} {cclInvalidHouse clInvalidHouse : Value} {cddInvalidHouse cldInvalidHouse : Option Addr} {ccsInvalidHouse cslInvalidHouse : Array (Option Value)}
    {CInvalidHands : Addr}
    {nmInvalidHands qInvalidHands : Str} {NInvalidHands : Addr} {bsInvalidHands bmInvalidHands subInvalidHands : List Value} {snInvalidHands : List Str} {abInvalidHands : Bool} {colInvalidHands : Option Bool} {ddInvalidHands : Option Addr} {g0InvalidHands g1InvalidHands g2InvalidHands g3InvalidHands g5InvalidHands : Option Value}
    {fIInvalidHands cdaInvalidHands ccInvalidHands : Addr} {ocIInvalidHands kVIInvalidHands dcIInvalidHands pmIInvalidHands ctIInvalidHands : Value} {odIInvalidHands anIInvalidHands : Option Addr} {slIInvalidHands : Array (Option Value)} {vsCInvalidHands : Array Value} {filInvalidHands : Str} {tfInvalidHands : Tok} {cclInvalidHands clInvalidHands : Value} {cddInvalidHands cldInvalidHands : Option Addr} {ccsInvalidHands cslInvalidHands : Array (Option Value)}
    {CInvalidLog : Addr}
    {nmInvalidLog qInvalidLog : Str} {NInvalidLog : Addr} {bsInvalidLog bmInvalidLog subInvalidLog : List Value} {snInvalidLog : List Str} {abInvalidLog : Bool} {colInvalidLog : Option Bool} {ddInvalidLog : Option Addr} {g0InvalidLog g1InvalidLog g2InvalidLog g3InvalidLog g5InvalidLog : Option Value}
    {fIInvalidLog cdaInvalidLog ccInvalidLog : Addr} {ocIInvalidLog kVIInvalidLog dcIInvalidLog pmIInvalidLog ctIInvalidLog : Value} {odIInvalidLog anIInvalidLog : Option Addr} {slIInvalidLog : Array (Option Value)} {vsCInvalidLog : Array Value} {filInvalidLog : Str} {tfInvalidLog : Tok} {cclInvalidLog clInvalidLog : Value} {cddInvalidLog cldInvalidLog : Option Addr} {ccsInvalidLog cslInvalidLog : Array (Option Value)}
    {CInvalidCourse : Addr}
    {CUnknownHand : Addr}
    {CUnknownItem : Addr}
    {CUnknownBox : Addr}
    {CUnknownSeal : Addr}
    {CInsideItself : Addr}
    {CNotHeld : Addr}
    {CIsSealed : Addr}
    {CNotSealed : Addr}
    {CNotInside : Addr}
    {CInvalidNumber : Addr}
    {CNoCourse : Addr}
    {t_MOST_HANDS : Tok}
    {t_MOST_BOXES : Tok}
    {t_MOST_THINGS : Tok}
    {t_MOST_SEALS : Tok}
    {t_MOST_ROWS : Tok}
    {aD_ : Addr} {itD : Array Value} {nD : Nat} {slD : Array (Option Value)}
    {aP : Addr} {esP : Array DictEntry} {nP_ : Nat} {tp0 tp1 tp2 : Tok}
    {fm0 : Addr} {ocm0 kVm0 dcm0 pmm0 cdm0 ctm0 : Value} {odm0 anm0 : Option Addr} {slm0 : Array (Option Value)}
    {fm1 : Addr} {ocm1 kVm1 dcm1 pmm1 cdm1 ctm1 : Value} {odm1 anm1 : Option Addr} {slm1 : Array (Option Value)}
    {fm2 : Addr} {ocm2 kVm2 dcm2 pmm2 cdm2 ctm2 : Value} {odm2 anm2 : Option Addr} {slm2 : Array (Option Value)}
    {fm3 : Addr} {ocm3 kVm3 dcm3 pmm3 cdm3 ctm3 : Value} {odm3 anm3 : Option Addr} {slm3 : Array (Option Value)}
    {fm4 : Addr} {ocm4 kVm4 dcm4 pmm4 cdm4 ctm4 : Value} {odm4 anm4 : Option Addr} {slm4 : Array (Option Value)}
    {fm5 : Addr} {ocm5 kVm5 dcm5 pmm5 cdm5 ctm5 : Value} {odm5 anm5 : Option Addr} {slm5 : Array (Option Value)}
    {fm6 : Addr} {ocm6 kVm6 dcm6 pmm6 cdm6 ctm6 : Value} {odm6 anm6 : Option Addr} {slm6 : Array (Option Value)}
    {fm7 : Addr} {ocm7 kVm7 dcm7 pmm7 cdm7 ctm7 : Value} {odm7 anm7 : Option Addr} {slm7 : Array (Option Value)}
    {fm8 : Addr} {ocm8 kVm8 dcm8 pmm8 cdm8 ctm8 : Value} {odm8 anm8 : Option Addr} {slm8 : Array (Option Value)}
    {fm9 : Addr} {ocm9 kVm9 dcm9 pmm9 cdm9 ctm9 : Value} {odm9 anm9 : Option Addr} {slm9 : Array (Option Value)}
    {fm10 : Addr} {ocm10 kVm10 dcm10 pmm10 cdm10 ctm10 : Value} {odm10 anm10 : Option Addr} {slm10 : Array (Option Value)}
    {fm11 : Addr} {ocm11 kVm11 dcm11 pmm11 cdm11 ctm11 : Value} {odm11 anm11 : Option Addr} {slm11 : Array (Option Value)}
    {fm12 : Addr} {ocm12 kVm12 dcm12 pmm12 cdm12 ctm12 : Value} {odm12 anm12 : Option Addr} {slm12 : Array (Option Value)}
    {fm13 : Addr} {ocm13 kVm13 dcm13 pmm13 cdm13 ctm13 : Value} {odm13 anm13 : Option Addr} {slm13 : Array (Option Value)}
    {fm14 : Addr} {ocm14 kVm14 dcm14 pmm14 cdm14 ctm14 : Value} {odm14 anm14 : Option Addr} {slm14 : Array (Option Value)}
    {fm15 : Addr} {ocm15 kVm15 dcm15 pmm15 cdm15 ctm15 : Value} {odm15 anm15 : Option Addr} {slm15 : Array (Option Value)}
    {fm16 : Addr} {ocm16 kVm16 dcm16 pmm16 cdm16 ctm16 : Value} {odm16 anm16 : Option Addr} {slm16 : Array (Option Value)}
    {fm17 : Addr} {ocm17 kVm17 dcm17 pmm17 cdm17 ctm17 : Value} {odm17 anm17 : Option Addr} {slm17 : Array (Option Value)}
    {fm18 : Addr} {ocm18 kVm18 dcm18 pmm18 cdm18 ctm18 : Value} {odm18 anm18 : Option Addr} {slm18 : Array (Option Value)}
    {fm19 : Addr} {ocm19 kVm19 dcm19 pmm19 cdm19 ctm19 : Value} {odm19 anm19 : Option Addr} {slm19 : Array (Option Value)}
    {fm20 : Addr} {ocm20 kVm20 dcm20 pmm20 cdm20 ctm20 : Value} {odm20 anm20 : Option Addr} {slm20 : Array (Option Value)}
    {fm21 : Addr} {ocm21 kVm21 dcm21 pmm21 cdm21 ctm21 : Value} {odm21 anm21 : Option Addr} {slm21 : Array (Option Value)}
    {fm22 : Addr} {ocm22 kVm22 dcm22 pmm22 cdm22 ctm22 : Value} {odm22 anm22 : Option Addr} {slm22 : Array (Option Value)}
    {fm23 : Addr} {ocm23 kVm23 dcm23 pmm23 cdm23 ctm23 : Value} {odm23 anm23 : Option Addr} {slm23 : Array (Option Value)}
    {fm24 : Addr} {ocm24 kVm24 dcm24 pmm24 cdm24 ctm24 : Value} {odm24 anm24 : Option Addr} {slm24 : Array (Option Value)}
    {fm25 : Addr} {ocm25 kVm25 dcm25 pmm25 cdm25 ctm25 : Value} {odm25 anm25 : Option Addr} {slm25 : Array (Option Value)}
    {fm26 : Addr} {ocm26 kVm26 dcm26 pmm26 cdm26 ctm26 : Value} {odm26 anm26 : Option Addr} {slm26 : Array (Option Value)}
    {fm27 : Addr} {ocm27 kVm27 dcm27 pmm27 cdm27 ctm27 : Value} {odm27 anm27 : Option Addr} {slm27 : Array (Option Value)}
    {fm28 : Addr} {ocm28 kVm28 dcm28 pmm28 cdm28 ctm28 : Value} {odm28 anm28 : Option Addr} {slm28 : Array (Option Value)}
    {fm29 : Addr} {ocm29 kVm29 dcm29 pmm29 cdm29 ctm29 : Value} {odm29 anm29 : Option Addr} {slm29 : Array (Option Value)}
    {fm30 : Addr} {ocm30 kVm30 dcm30 pmm30 cdm30 ctm30 : Value} {odm30 anm30 : Option Addr} {slm30 : Array (Option Value)}
    {fm31 : Addr} {ocm31 kVm31 dcm31 pmm31 cdm31 ctm31 : Value} {odm31 anm31 : Option Addr} {slm31 : Array (Option Value)}
    {fm32 : Addr} {ocm32 kVm32 dcm32 pmm32 cdm32 ctm32 : Value} {odm32 anm32 : Option Addr} {slm32 : Array (Option Value)}
    {fm33 : Addr} {ocm33 kVm33 dcm33 pmm33 cdm33 ctm33 : Value} {odm33 anm33 : Option Addr} {slm33 : Array (Option Value)}
    {fm34 : Addr} {ocm34 kVm34 dcm34 pmm34 cdm34 ctm34 : Value} {odm34 anm34 : Option Addr} {slm34 : Array (Option Value)}
    {fm35 : Addr} {ocm35 kVm35 dcm35 pmm35 cdm35 ctm35 : Value} {odm35 anm35 : Option Addr} {slm35 : Array (Option Value)}
    {fm36 : Addr} {ocm36 kVm36 dcm36 pmm36 cdm36 ctm36 : Value} {odm36 anm36 : Option Addr} {slm36 : Array (Option Value)}
    {fm37 : Addr} {ocm37 kVm37 dcm37 pmm37 cdm37 ctm37 : Value} {odm37 anm37 : Option Addr} {slm37 : Array (Option Value)}
    {fm38 : Addr} {ocm38 kVm38 dcm38 pmm38 cdm38 ctm38 : Value} {odm38 anm38 : Option Addr} {slm38 : Array (Option Value)}
    {fm39 : Addr} {ocm39 kVm39 dcm39 pmm39 cdm39 ctm39 : Value} {odm39 anm39 : Option Addr} {slm39 : Array (Option Value)}
    {fm40 : Addr} {ocm40 kVm40 dcm40 pmm40 cdm40 ctm40 : Value} {odm40 anm40 : Option Addr} {slm40 : Array (Option Value)}
    {fm41 : Addr} {ocm41 kVm41 dcm41 pmm41 cdm41 ctm41 : Value} {odm41 anm41 : Option Addr} {slm41 : Array (Option Value)}
    {fm42 : Addr} {ocm42 kVm42 dcm42 pmm42 cdm42 ctm42 : Value} {odm42 anm42 : Option Addr} {slm42 : Array (Option Value)}
    {fm43 : Addr} {ocm43 kVm43 dcm43 pmm43 cdm43 ctm43 : Value} {odm43 anm43 : Option Addr} {slm43 : Array (Option Value)}
    {fm44 : Addr} {ocm44 kVm44 dcm44 pmm44 cdm44 ctm44 : Value} {odm44 anm44 : Option Addr} {slm44 : Array (Option Value)}
    {fm45 : Addr} {ocm45 kVm45 dcm45 pmm45 cdm45 ctm45 : Value} {odm45 anm45 : Option Addr} {slm45 : Array (Option Value)}
    {fm46 : Addr} {ocm46 kVm46 dcm46 pmm46 cdm46 ctm46 : Value} {odm46 anm46 : Option Addr} {slm46 : Array (Option Value)}
    {fm47 : Addr} {ocm47 kVm47 dcm47 pmm47 cdm47 ctm47 : Value} {odm47 anm47 : Option Addr} {slm47 : Array (Option Value)}
    {fm48 : Addr} {ocm48 kVm48 dcm48 pmm48 cdm48 ctm48 : Value} {odm48 anm48 : Option Addr} {slm48 : Array (Option Value)}
    {fh0 : Addr} {och0 kVh0 dch0 pmh0 cdh0 cth0 : Value} {odh0 anh0 : Option Addr} {slh0 : Array (Option Value)}
    {fh1 : Addr} {och1 kVh1 dch1 pmh1 cdh1 cth1 : Value} {odh1 anh1 : Option Addr} {slh1 : Array (Option Value)}
    {php : Addr} {rhp : List Value}
    {fhp : Addr} {ochp kVhp dchp pmhp cdhp cthp : Value} {odhp anhp : Option Addr} {slhp : Array (Option Value)}
    {fg0 : Addr} {ocg0 kVg0 dcg0 pmg0 cdg0 ctg0 : Value} {odg0 ang0 : Option Addr} {slg0 : Array (Option Value)}
    {pgp : Addr} {rgp : List Value}
    {fgp : Addr} {ocgp kVgp dcgp pmgp cdgp ctgp : Value} {odgp angp : Option Addr} {slgp : Array (Option Value)}
    {fg4 : Addr} {ocg4 kVg4 dcg4 pmg4 cdg4 ctg4 : Value} {odg4 ang4 : Option Addr} {slg4 : Array (Option Value)}
    {adfo : Option Value}
    {cd tb : Addr} {ocL kVL dcL pmL ctL : Value} {odL anL : Option Addr} {slL : Array (Option Value)} {fL : Addr}
    (chn : PySem.W.specialIn K (.builtin "object.__class__") "__get__" = some (some (.builtin "getset_descriptor.__get__")))
    (cht : PySem.W.takesIn K (.builtin "object.__class__") = some true)
    (xtp : PySem.W.nsIn K cStatics "thirdparty.any" = some none)
    (xtop : (l.prog.main.scope.names.lookup ("super" : Str)).isSome = false)
    (hC : PySem.W.nsIn K mainGlobals "House" = some (some (.ref C)))
    (hpg : PySem.W.plainGet K C Str.empty = true)
    (hhd : PySem.W.hasDictIn K C = true)
    (hpo : PySem.W.plainOver K C = true)
    (hsa : PySem.W.findIn K (.ref C) "__setattr__" = some (some (.builtin "object.__setattr__")))
    (hmk : PySem.W.makesIn K C = true)
    (hkc : PySem.W.keepIn K (.ref C) = true)
    (hn_hands : PySem.W.findIn K (.ref C) "hands" = some none)
    (hn_boxes : PySem.W.findIn K (.ref C) "boxes" = some none)
    (hn_things : PySem.W.findIn K (.ref C) "things" = some none)
    (hn_seals : PySem.W.findIn K (.ref C) "seals" = some none)
    (hn_state : PySem.W.findIn K (.ref C) "state" = some none)
    (gC : PySem.W.nsIn K mainGlobals "Log" = some (some (.ref CL)))
    (gpg : PySem.W.plainGet K CL Str.empty = true)
    (ghd : PySem.W.hasDictIn K CL = true)
    (gpo : PySem.W.plainOver K CL = true)
    (gsa : PySem.W.findIn K (.ref CL) "__setattr__" = some (some (.builtin "object.__setattr__")))
    (gmk : PySem.W.makesIn K CL = true)
    (gkc : PySem.W.keepIn K (.ref CL) = true)
    (gn_house : PySem.W.findIn K (.ref CL) "house" = some none)
    (gn_rows : PySem.W.findIn K (.ref CL) "rows" = some none)
    (aCT : PySem.W.nsIn K mainGlobals "WatchError" = some (some (.ref CT)))
    (wbe : PySem.W.subIn K (.ref CT) (.type "BaseException") = some true)
    (wcl : PySem.W.hasDictIn K CT = true)
    (wty : PySem.W.typeIn K (.ref CT) = some (.type "type"))
    (nInvalidHouse : PySem.W.nsIn K mainGlobals "InvalidHouse" = some (some (.ref CInvalidHouse)))
    (xLInvalidHouse : K.lookup CInvalidHouse = some (excClassObj nmInvalidHouse qInvalidHouse CInvalidHouse NInvalidHouse bsInvalidHouse bmInvalidHouse true snInvalidHouse subInvalidHouse abInvalidHouse colInvalidHouse ddInvalidHouse g0InvalidHouse g1InvalidHouse g2InvalidHouse g3InvalidHouse g5InvalidHouse "ValueError.__new__"))
    (xvInvalidHouse : PySem.HandSPX.refsVE bmInvalidHouse = true)
    (xaInvalidHouse : PySem.W.alongIn K "__init__" ((((Value.ref CInvalidHouse :: bmInvalidHouse).dropWhile (· != .ref CInvalidHouse)).drop 1)) = some (some (.builtin "ValueError.__init__")))
    (xsaInvalidHouse : PySem.W.findIn K (.ref CInvalidHouse) "__setattr__" = some (some (.builtin "object.__setattr__")))
    (xexInvalidHouse : PySem.W.subIn K (.ref CInvalidHouse) (.type "BaseException") = some true)
    (xtyInvalidHouse : PySem.W.typeIn K (.ref CInvalidHouse) = some (.type "type"))
    (xkcInvalidHouse : PySem.W.keepIn K (.ref CInvalidHouse) = true)
    (xveInvalidHouse : PySem.W.subIn K (.ref CInvalidHouse) (.type "ValueError") = some true)
    (xseInvalidHouse : PySem.W.mroIn K CInvalidHouse (.ref CInvalidHouse) = some true)
    (xnPInvalidHouse : PySem.W.findIn K (.ref CInvalidHouse) "part" = some none)
    (xnIInvalidHouse : PySem.W.findIn K (.ref CInvalidHouse) "index" = some none)
    (xiInvalidHouse : PySem.W.findIn K (.ref CInvalidHouse) "__init__" = some (some (.ref fIInvalidHouse)))
    (xitInvalidHouse : PySem.W.typeIn K (.ref fIInvalidHouse) = some (.type "function"))
    (xilInvalidHouse : K.lookup fIInvalidHouse = some ⟨ocIInvalidHouse, odIInvalidHouse, .func (PySem.W.ksFn "__init__" "InvalidHouse.__init__" (defArgs sIH) (defBody sIH) (defScope sIH) .none kVIInvalidHouse dcIInvalidHouse pmIInvalidHouse anIInvalidHouse (.ref cdaInvalidHouse) ctIInvalidHouse ccInvalidHouse), slIInvalidHouse⟩)
    (xicInvalidHouse : PySem.W.codeIn K (.ref cdaInvalidHouse) "InvalidHouse.__init__" = true)
    (xclInvalidHouse : K.lookup cdaInvalidHouse = some ⟨cclInvalidHouse, cddInvalidHouse, .fields vsCInvalidHouse, ccsInvalidHouse⟩)
    (xcfInvalidHouse : vsCInvalidHouse[2]? = some (.str filInvalidHouse tfInvalidHouse))
    (xffInvalidHouse : ((l.prog.main.file : Str) == filInvalidHouse) = true)
    (xccInvalidHouse : K.lookup ccInvalidHouse = some ⟨clInvalidHouse, cldInvalidHouse, .cell (some (.ref CInvalidHouse)), cslInvalidHouse⟩)
    (nInvalidHands : PySem.W.nsIn K mainGlobals "InvalidHands" = some (some (.ref CInvalidHands)))
    (xLInvalidHands : K.lookup CInvalidHands = some (excClassObj nmInvalidHands qInvalidHands CInvalidHands NInvalidHands bsInvalidHands bmInvalidHands true snInvalidHands subInvalidHands abInvalidHands colInvalidHands ddInvalidHands g0InvalidHands g1InvalidHands g2InvalidHands g3InvalidHands g5InvalidHands "ValueError.__new__"))
    (xvInvalidHands : PySem.HandSPX.refsVE bmInvalidHands = true)
    (xaInvalidHands : PySem.W.alongIn K "__init__" ((((Value.ref CInvalidHands :: bmInvalidHands).dropWhile (· != .ref CInvalidHands)).drop 1)) = some (some (.builtin "ValueError.__init__")))
    (xsaInvalidHands : PySem.W.findIn K (.ref CInvalidHands) "__setattr__" = some (some (.builtin "object.__setattr__")))
    (xexInvalidHands : PySem.W.subIn K (.ref CInvalidHands) (.type "BaseException") = some true)
    (xtyInvalidHands : PySem.W.typeIn K (.ref CInvalidHands) = some (.type "type"))
    (xkcInvalidHands : PySem.W.keepIn K (.ref CInvalidHands) = true)
    (xveInvalidHands : PySem.W.subIn K (.ref CInvalidHands) (.type "ValueError") = some true)
    (xseInvalidHands : PySem.W.mroIn K CInvalidHands (.ref CInvalidHands) = some true)
    (xnPInvalidHands : PySem.W.findIn K (.ref CInvalidHands) "part" = some none)
    (xnIInvalidHands : PySem.W.findIn K (.ref CInvalidHands) "index" = some none)
    (xiInvalidHands : PySem.W.findIn K (.ref CInvalidHands) "__init__" = some (some (.ref fIInvalidHands)))
    (xitInvalidHands : PySem.W.typeIn K (.ref fIInvalidHands) = some (.type "function"))
    (xilInvalidHands : K.lookup fIInvalidHands = some ⟨ocIInvalidHands, odIInvalidHands, .func (PySem.W.ksFn "__init__" "InvalidHands.__init__" (defArgs sIHands) (defBody sIHands) (defScope sIHands) .none kVIInvalidHands dcIInvalidHands pmIInvalidHands anIInvalidHands (.ref cdaInvalidHands) ctIInvalidHands ccInvalidHands), slIInvalidHands⟩)
    (xicInvalidHands : PySem.W.codeIn K (.ref cdaInvalidHands) "InvalidHands.__init__" = true)
    (xclInvalidHands : K.lookup cdaInvalidHands = some ⟨cclInvalidHands, cddInvalidHands, .fields vsCInvalidHands, ccsInvalidHands⟩)
    (xcfInvalidHands : vsCInvalidHands[2]? = some (.str filInvalidHands tfInvalidHands))
    (xffInvalidHands : ((l.prog.main.file : Str) == filInvalidHands) = true)
    (xccInvalidHands : K.lookup ccInvalidHands = some ⟨clInvalidHands, cldInvalidHands, .cell (some (.ref CInvalidHands)), cslInvalidHands⟩)
    (nInvalidLog : PySem.W.nsIn K mainGlobals "InvalidLog" = some (some (.ref CInvalidLog)))
    (xLInvalidLog : K.lookup CInvalidLog = some (excClassObj nmInvalidLog qInvalidLog CInvalidLog NInvalidLog bsInvalidLog bmInvalidLog true snInvalidLog subInvalidLog abInvalidLog colInvalidLog ddInvalidLog g0InvalidLog g1InvalidLog g2InvalidLog g3InvalidLog g5InvalidLog "ValueError.__new__"))
    (xvInvalidLog : PySem.HandSPX.refsVE bmInvalidLog = true)
    (xaInvalidLog : PySem.W.alongIn K "__init__" ((((Value.ref CInvalidLog :: bmInvalidLog).dropWhile (· != .ref CInvalidLog)).drop 1)) = some (some (.builtin "ValueError.__init__")))
    (xsaInvalidLog : PySem.W.findIn K (.ref CInvalidLog) "__setattr__" = some (some (.builtin "object.__setattr__")))
    (xexInvalidLog : PySem.W.subIn K (.ref CInvalidLog) (.type "BaseException") = some true)
    (xtyInvalidLog : PySem.W.typeIn K (.ref CInvalidLog) = some (.type "type"))
    (xkcInvalidLog : PySem.W.keepIn K (.ref CInvalidLog) = true)
    (xveInvalidLog : PySem.W.subIn K (.ref CInvalidLog) (.type "ValueError") = some true)
    (xseInvalidLog : PySem.W.mroIn K CInvalidLog (.ref CInvalidLog) = some true)
    (xnPInvalidLog : PySem.W.findIn K (.ref CInvalidLog) "part" = some none)
    (xnIInvalidLog : PySem.W.findIn K (.ref CInvalidLog) "index" = some none)
    (xiInvalidLog : PySem.W.findIn K (.ref CInvalidLog) "__init__" = some (some (.ref fIInvalidLog)))
    (xitInvalidLog : PySem.W.typeIn K (.ref fIInvalidLog) = some (.type "function"))
    (xilInvalidLog : K.lookup fIInvalidLog = some ⟨ocIInvalidLog, odIInvalidLog, .func (PySem.W.ksFn "__init__" "InvalidLog.__init__" (defArgs sILog) (defBody sILog) (defScope sILog) .none kVIInvalidLog dcIInvalidLog pmIInvalidLog anIInvalidLog (.ref cdaInvalidLog) ctIInvalidLog ccInvalidLog), slIInvalidLog⟩)
    (xicInvalidLog : PySem.W.codeIn K (.ref cdaInvalidLog) "InvalidLog.__init__" = true)
    (xclInvalidLog : K.lookup cdaInvalidLog = some ⟨cclInvalidLog, cddInvalidLog, .fields vsCInvalidLog, ccsInvalidLog⟩)
    (xcfInvalidLog : vsCInvalidLog[2]? = some (.str filInvalidLog tfInvalidLog))
    (xffInvalidLog : ((l.prog.main.file : Str) == filInvalidLog) = true)
    (xccInvalidLog : K.lookup ccInvalidLog = some ⟨clInvalidLog, cldInvalidLog, .cell (some (.ref CInvalidLog)), cslInvalidLog⟩)
    (nInvalidCourse : PySem.W.nsIn K mainGlobals "InvalidCourse" = some (some (.ref CInvalidCourse)))
    (eexInvalidCourse : PySem.W.excIn K CInvalidCourse [.type "ValueError", .type "Exception", .type "BaseException", .type "object"] "ValueError.__new__" = true)
    (ekpInvalidCourse : PySem.W.keepIn K (.ref CInvalidCourse) = true)
    (esbInvalidCourse : PySem.W.subIn K (.ref CInvalidCourse) (.type "BaseException") = some true)
    (etyInvalidCourse : PySem.W.typeIn K (.ref CInvalidCourse) = some (.type "type"))
    (nUnknownHand : PySem.W.nsIn K mainGlobals "UnknownHand" = some (some (.ref CUnknownHand)))
    (eexUnknownHand : PySem.W.excIn K CUnknownHand [.type "ValueError", .type "Exception", .type "BaseException", .type "object"] "ValueError.__new__" = true)
    (ekpUnknownHand : PySem.W.keepIn K (.ref CUnknownHand) = true)
    (esbUnknownHand : PySem.W.subIn K (.ref CUnknownHand) (.type "BaseException") = some true)
    (etyUnknownHand : PySem.W.typeIn K (.ref CUnknownHand) = some (.type "type"))
    (nUnknownItem : PySem.W.nsIn K mainGlobals "UnknownItem" = some (some (.ref CUnknownItem)))
    (eexUnknownItem : PySem.W.excIn K CUnknownItem [.type "ValueError", .type "Exception", .type "BaseException", .type "object"] "ValueError.__new__" = true)
    (ekpUnknownItem : PySem.W.keepIn K (.ref CUnknownItem) = true)
    (esbUnknownItem : PySem.W.subIn K (.ref CUnknownItem) (.type "BaseException") = some true)
    (etyUnknownItem : PySem.W.typeIn K (.ref CUnknownItem) = some (.type "type"))
    (nUnknownBox : PySem.W.nsIn K mainGlobals "UnknownBox" = some (some (.ref CUnknownBox)))
    (eexUnknownBox : PySem.W.excIn K CUnknownBox [.type "ValueError", .type "Exception", .type "BaseException", .type "object"] "ValueError.__new__" = true)
    (ekpUnknownBox : PySem.W.keepIn K (.ref CUnknownBox) = true)
    (esbUnknownBox : PySem.W.subIn K (.ref CUnknownBox) (.type "BaseException") = some true)
    (etyUnknownBox : PySem.W.typeIn K (.ref CUnknownBox) = some (.type "type"))
    (nUnknownSeal : PySem.W.nsIn K mainGlobals "UnknownSeal" = some (some (.ref CUnknownSeal)))
    (eexUnknownSeal : PySem.W.excIn K CUnknownSeal [.type "ValueError", .type "Exception", .type "BaseException", .type "object"] "ValueError.__new__" = true)
    (ekpUnknownSeal : PySem.W.keepIn K (.ref CUnknownSeal) = true)
    (esbUnknownSeal : PySem.W.subIn K (.ref CUnknownSeal) (.type "BaseException") = some true)
    (etyUnknownSeal : PySem.W.typeIn K (.ref CUnknownSeal) = some (.type "type"))
    (nInsideItself : PySem.W.nsIn K mainGlobals "InsideItself" = some (some (.ref CInsideItself)))
    (eexInsideItself : PySem.W.excIn K CInsideItself [.type "ValueError", .type "Exception", .type "BaseException", .type "object"] "ValueError.__new__" = true)
    (ekpInsideItself : PySem.W.keepIn K (.ref CInsideItself) = true)
    (esbInsideItself : PySem.W.subIn K (.ref CInsideItself) (.type "BaseException") = some true)
    (etyInsideItself : PySem.W.typeIn K (.ref CInsideItself) = some (.type "type"))
    (nNotHeld : PySem.W.nsIn K mainGlobals "NotHeld" = some (some (.ref CNotHeld)))
    (eexNotHeld : PySem.W.excIn K CNotHeld [.type "ValueError", .type "Exception", .type "BaseException", .type "object"] "ValueError.__new__" = true)
    (ekpNotHeld : PySem.W.keepIn K (.ref CNotHeld) = true)
    (esbNotHeld : PySem.W.subIn K (.ref CNotHeld) (.type "BaseException") = some true)
    (etyNotHeld : PySem.W.typeIn K (.ref CNotHeld) = some (.type "type"))
    (nIsSealed : PySem.W.nsIn K mainGlobals "IsSealed" = some (some (.ref CIsSealed)))
    (eexIsSealed : PySem.W.excIn K CIsSealed [.type "ValueError", .type "Exception", .type "BaseException", .type "object"] "ValueError.__new__" = true)
    (ekpIsSealed : PySem.W.keepIn K (.ref CIsSealed) = true)
    (esbIsSealed : PySem.W.subIn K (.ref CIsSealed) (.type "BaseException") = some true)
    (etyIsSealed : PySem.W.typeIn K (.ref CIsSealed) = some (.type "type"))
    (nNotSealed : PySem.W.nsIn K mainGlobals "NotSealed" = some (some (.ref CNotSealed)))
    (eexNotSealed : PySem.W.excIn K CNotSealed [.type "ValueError", .type "Exception", .type "BaseException", .type "object"] "ValueError.__new__" = true)
    (ekpNotSealed : PySem.W.keepIn K (.ref CNotSealed) = true)
    (esbNotSealed : PySem.W.subIn K (.ref CNotSealed) (.type "BaseException") = some true)
    (etyNotSealed : PySem.W.typeIn K (.ref CNotSealed) = some (.type "type"))
    (nNotInside : PySem.W.nsIn K mainGlobals "NotInside" = some (some (.ref CNotInside)))
    (eexNotInside : PySem.W.excIn K CNotInside [.type "ValueError", .type "Exception", .type "BaseException", .type "object"] "ValueError.__new__" = true)
    (ekpNotInside : PySem.W.keepIn K (.ref CNotInside) = true)
    (esbNotInside : PySem.W.subIn K (.ref CNotInside) (.type "BaseException") = some true)
    (etyNotInside : PySem.W.typeIn K (.ref CNotInside) = some (.type "type"))
    (ewsuInvalidHands : PySem.W.subIn K (.ref CInvalidHands) (.ref CT) = some true)
    (ewsuInvalidLog : PySem.W.subIn K (.ref CInvalidLog) (.ref CT) = some true)
    (ewsuInvalidCourse : PySem.W.subIn K (.ref CInvalidCourse) (.ref CT) = some true)
    (ewsuUnknownHand : PySem.W.subIn K (.ref CUnknownHand) (.ref CT) = some true)
    (ewsuUnknownItem : PySem.W.subIn K (.ref CUnknownItem) (.ref CT) = some true)
    (ewsuUnknownBox : PySem.W.subIn K (.ref CUnknownBox) (.ref CT) = some true)
    (ewsuUnknownSeal : PySem.W.subIn K (.ref CUnknownSeal) (.ref CT) = some true)
    (ewsuInsideItself : PySem.W.subIn K (.ref CInsideItself) (.ref CT) = some true)
    (ewsuNotHeld : PySem.W.subIn K (.ref CNotHeld) (.ref CT) = some true)
    (ewsuIsSealed : PySem.W.subIn K (.ref CIsSealed) (.ref CT) = some true)
    (ewsuNotSealed : PySem.W.subIn K (.ref CNotSealed) (.ref CT) = some true)
    (ewsuNotInside : PySem.W.subIn K (.ref CNotInside) (.ref CT) = some true)
    (nInvalidNumber : PySem.W.nsIn K mainGlobals "InvalidNumber" = some (some (.ref CInvalidNumber)))
    (nNoCourse : PySem.W.nsIn K mainGlobals "NoCourse" = some (some (.ref CNoCourse)))
    (egaInvalidCourse : PySem.W.findIn K (.ref CInvalidCourse) "__getattribute__" = some (some (.builtin "BaseException.__getattribute__")))
    (eggInvalidCourse : PySem.W.findIn K (.ref CInvalidCourse) "__getattr__" = some none)
    (ehdInvalidCourse : PySem.W.hasDictIn K CInvalidCourse = true)
    (ehaInvalidCourse : PySem.W.findIn K (.ref CInvalidCourse) "__class__" = some (some (.builtin "object.__class__")))
    (ehmInvalidCourse : PySem.W.mroIn K CInvalidCourse (.type "object") = some true)
    (enPInvalidCourse : PySem.W.findIn K (.ref CInvalidCourse) "part" = some none)
    (enIInvalidCourse : PySem.W.findIn K (.ref CInvalidCourse) "index" = some none)
    (ekveInvalidCourse : PySem.W.kitOne K (.ref CInvalidCourse) (.type "ValueError") = some true)
    (qInvalidCourse_InsideItself : PySem.W.kitOne K (.ref CInvalidCourse) (.ref CInsideItself) = some false)
    (qInvalidCourse_InvalidCourse : PySem.W.kitOne K (.ref CInvalidCourse) (.ref CInvalidCourse) = some true)
    (qInvalidCourse_InvalidHands : PySem.W.kitOne K (.ref CInvalidCourse) (.ref CInvalidHands) = some false)
    (qInvalidCourse_InvalidHouse : PySem.W.kitOne K (.ref CInvalidCourse) (.ref CInvalidHouse) = some false)
    (qInvalidCourse_InvalidLog : PySem.W.kitOne K (.ref CInvalidCourse) (.ref CInvalidLog) = some false)
    (qInvalidCourse_InvalidNumber : PySem.W.kitOne K (.ref CInvalidCourse) (.ref CInvalidNumber) = some false)
    (qInvalidCourse_IsSealed : PySem.W.kitOne K (.ref CInvalidCourse) (.ref CIsSealed) = some false)
    (qInvalidCourse_NoCourse : PySem.W.kitOne K (.ref CInvalidCourse) (.ref CNoCourse) = some false)
    (qInvalidCourse_NotHeld : PySem.W.kitOne K (.ref CInvalidCourse) (.ref CNotHeld) = some false)
    (qInvalidCourse_NotInside : PySem.W.kitOne K (.ref CInvalidCourse) (.ref CNotInside) = some false)
    (qInvalidCourse_NotSealed : PySem.W.kitOne K (.ref CInvalidCourse) (.ref CNotSealed) = some false)
    (qInvalidCourse_UnknownBox : PySem.W.kitOne K (.ref CInvalidCourse) (.ref CUnknownBox) = some false)
    (qInvalidCourse_UnknownHand : PySem.W.kitOne K (.ref CInvalidCourse) (.ref CUnknownHand) = some false)
    (qInvalidCourse_UnknownItem : PySem.W.kitOne K (.ref CInvalidCourse) (.ref CUnknownItem) = some false)
    (qInvalidCourse_UnknownSeal : PySem.W.kitOne K (.ref CInvalidCourse) (.ref CUnknownSeal) = some false)
    (j_MOST_HANDS : PySem.W.nsIn K mainGlobals "MOST_HANDS" = some (some (.int 4 t_MOST_HANDS)))
    (j_MOST_BOXES : PySem.W.nsIn K mainGlobals "MOST_BOXES" = some (some (.int 3 t_MOST_BOXES)))
    (j_MOST_THINGS : PySem.W.nsIn K mainGlobals "MOST_THINGS" = some (some (.int 4 t_MOST_THINGS)))
    (j_MOST_SEALS : PySem.W.nsIn K mainGlobals "MOST_SEALS" = some (some (.int 3 t_MOST_SEALS)))
    (j_MOST_ROWS : PySem.W.nsIn K mainGlobals "MOST_ROWS" = some (some (.int 30 t_MOST_ROWS)))
    (dA : PySem.W.nsIn K mainGlobals "DEED_WORDS" = some (some (.ref aD_)))
    (dL : K.lookup aD_ = some ⟨.type "tuple", none, .seq itD nD, slD⟩)
    (dS : itD.size ≤ sizeLine)
    (dV : L2.Vals [V.str ("give" : Str), V.str ("put" : Str), V.str ("take" : Str), V.str ("seal" : Str), V.str ("break" : Str)] itD.toList)
    (pA : PySem.W.nsIn K mainGlobals "PARTS" = some (some (.ref aP)))
    (pL : K.lookup aP = some ⟨.type "dict", none, .dict esP nP_, #[]⟩)
    (pK : PySem.W.KeysLit w.params esP.toList)
    (p0 : PySem.W.nsIn K aP "box" = some (some (.int 0 tp0)))
    (p1 : PySem.W.nsIn K aP "thing" = some (some (.int 1 tp1)))
    (p2 : PySem.W.nsIn K aP "seal" = some (some (.int 2 tp2)))
    (am0 : PySem.W.nsIn K mainGlobals "is_number" = some (some (.ref fm0)))
    (lm0 : K.lookup fm0 = some ⟨ocm0, odm0, .func (PySem.W.fnOf "is_number" "is_number" (defArgs sNum) (defBody sNum) (defScope sNum) .none kVm0 dcm0 pmm0 anm0 cdm0 ctm0), slm0⟩)
    (cm0 : PySem.W.codeIn K cdm0 "is_number" = true)
    (km0 : PySem.W.keepIn K (.ref fm0) = true)
    (am1 : PySem.W.nsIn K mainGlobals "how_many" = some (some (.ref fm1)))
    (lm1 : K.lookup fm1 = some ⟨ocm1, odm1, .func (PySem.W.fnOf "how_many" "how_many" (defArgs sMany) (defBody sMany) (defScope sMany) .none kVm1 dcm1 pmm1 anm1 cdm1 ctm1), slm1⟩)
    (cm1 : PySem.W.codeIn K cdm1 "how_many" = true)
    (km1 : PySem.W.keepIn K (.ref fm1) = true)
    (am2 : PySem.W.nsIn K mainGlobals "is_place" = some (some (.ref fm2)))
    (lm2 : K.lookup fm2 = some ⟨ocm2, odm2, .func (PySem.W.fnOf "is_place" "is_place" (defArgs sIsPl) (defBody sIsPl) (defScope sIsPl) .none kVm2 dcm2 pmm2 anm2 cdm2 ctm2), slm2⟩)
    (cm2 : PySem.W.codeIn K cdm2 "is_place" = true)
    (km2 : PySem.W.keepIn K (.ref fm2) = true)
    (am3 : PySem.W.nsIn K mainGlobals "need_boxes" = some (some (.ref fm3)))
    (lm3 : K.lookup fm3 = some ⟨ocm3, odm3, .func (PySem.W.fnOf "need_boxes" "need_boxes" (defArgs sBoxes) (defBody sBoxes) (defScope sBoxes) .none kVm3 dcm3 pmm3 anm3 cdm3 ctm3), slm3⟩)
    (cm3 : PySem.W.codeIn K cdm3 "need_boxes" = true)
    (km3 : PySem.W.keepIn K (.ref fm3) = true)
    (am4 : PySem.W.nsIn K mainGlobals "need_house" = some (some (.ref fm4)))
    (lm4 : K.lookup fm4 = some ⟨ocm4, odm4, .func (PySem.W.fnOf "need_house" "need_house" (defArgs sNeed) (defBody sNeed) (defScope sNeed) .none kVm4 dcm4 pmm4 anm4 cdm4 ctm4), slm4⟩)
    (cm4 : PySem.W.codeIn K cdm4 "need_house" = true)
    (km4 : PySem.W.keepIn K (.ref fm4) = true)
    (am5 : PySem.W.nsIn K mainGlobals "need_hand" = some (some (.ref fm5)))
    (lm5 : K.lookup fm5 = some ⟨ocm5, odm5, .func (PySem.W.fnOf "need_hand" "need_hand" (defArgs sNHand) (defBody sNHand) (defScope sNHand) .none kVm5 dcm5 pmm5 anm5 cdm5 ctm5), slm5⟩)
    (cm5 : PySem.W.codeIn K cdm5 "need_hand" = true)
    (km5 : PySem.W.keepIn K (.ref fm5) = true)
    (am6 : PySem.W.nsIn K mainGlobals "need_item" = some (some (.ref fm6)))
    (lm6 : K.lookup fm6 = some ⟨ocm6, odm6, .func (PySem.W.fnOf "need_item" "need_item" (defArgs sNItem) (defBody sNItem) (defScope sNItem) .none kVm6 dcm6 pmm6 anm6 cdm6 ctm6), slm6⟩)
    (cm6 : PySem.W.codeIn K cdm6 "need_item" = true)
    (km6 : PySem.W.keepIn K (.ref fm6) = true)
    (am7 : PySem.W.nsIn K mainGlobals "need_load" = some (some (.ref fm7)))
    (lm7 : K.lookup fm7 = some ⟨ocm7, odm7, .func (PySem.W.fnOf "need_load" "need_load" (defArgs sNLoad) (defBody sNLoad) (defScope sNLoad) .none kVm7 dcm7 pmm7 anm7 cdm7 ctm7), slm7⟩)
    (cm7 : PySem.W.codeIn K cdm7 "need_load" = true)
    (km7 : PySem.W.keepIn K (.ref fm7) = true)
    (am8 : PySem.W.nsIn K mainGlobals "need_box" = some (some (.ref fm8)))
    (lm8 : K.lookup fm8 = some ⟨ocm8, odm8, .func (PySem.W.fnOf "need_box" "need_box" (defArgs sNBox) (defBody sNBox) (defScope sNBox) .none kVm8 dcm8 pmm8 anm8 cdm8 ctm8), slm8⟩)
    (cm8 : PySem.W.codeIn K cdm8 "need_box" = true)
    (km8 : PySem.W.keepIn K (.ref fm8) = true)
    (am9 : PySem.W.nsIn K mainGlobals "need_seal" = some (some (.ref fm9)))
    (lm9 : K.lookup fm9 = some ⟨ocm9, odm9, .func (PySem.W.fnOf "need_seal" "need_seal" (defArgs sNSeal) (defBody sNSeal) (defScope sNSeal) .none kVm9 dcm9 pmm9 anm9 cdm9 ctm9), slm9⟩)
    (cm9 : PySem.W.codeIn K cdm9 "need_seal" = true)
    (km9 : PySem.W.keepIn K (.ref fm9) = true)
    (am10 : PySem.W.nsIn K mainGlobals "need_place" = some (some (.ref fm10)))
    (lm10 : K.lookup fm10 = some ⟨ocm10, odm10, .func (PySem.W.fnOf "need_place" "need_place" (defArgs sNPlace) (defBody sNPlace) (defScope sNPlace) .none kVm10 dcm10 pmm10 anm10 cdm10 ctm10), slm10⟩)
    (cm10 : PySem.W.codeIn K cdm10 "need_place" = true)
    (km10 : PySem.W.keepIn K (.ref fm10) = true)
    (am11 : PySem.W.nsIn K mainGlobals "need_sight" = some (some (.ref fm11)))
    (lm11 : K.lookup fm11 = some ⟨ocm11, odm11, .func (PySem.W.fnOf "need_sight" "need_sight" (defArgs sNSight) (defBody sNSight) (defScope sNSight) .none kVm11 dcm11 pmm11 anm11 cdm11 ctm11), slm11⟩)
    (cm11 : PySem.W.codeIn K cdm11 "need_sight" = true)
    (km11 : PySem.W.keepIn K (.ref fm11) = true)
    (am12 : PySem.W.nsIn K mainGlobals "need_loads" = some (some (.ref fm12)))
    (lm12 : K.lookup fm12 = some ⟨ocm12, odm12, .func (PySem.W.fnOf "need_loads" "need_loads" (defArgs sNLoads) (defBody sNLoads) (defScope sNLoads) .none kVm12 dcm12 pmm12 anm12 cdm12 ctm12), slm12⟩)
    (cm12 : PySem.W.codeIn K cdm12 "need_loads" = true)
    (km12 : PySem.W.keepIn K (.ref fm12) = true)
    (am13 : PySem.W.nsIn K mainGlobals "need_move" = some (some (.ref fm13)))
    (lm13 : K.lookup fm13 = some ⟨ocm13, odm13, .func (PySem.W.fnOf "need_move" "need_move" (defArgs sNMove) (defBody sNMove) (defScope sNMove) .none kVm13 dcm13 pmm13 anm13 cdm13 ctm13), slm13⟩)
    (cm13 : PySem.W.codeIn K cdm13 "need_move" = true)
    (km13 : PySem.W.keepIn K (.ref fm13) = true)
    (am14 : PySem.W.nsIn K mainGlobals "need_deed" = some (some (.ref fm14)))
    (lm14 : K.lookup fm14 = some ⟨ocm14, odm14, .func (PySem.W.fnOf "need_deed" "need_deed" (defArgs sNDeed) (defBody sNDeed) (defScope sNDeed) .none kVm14 dcm14 pmm14 anm14 cdm14 ctm14), slm14⟩)
    (cm14 : PySem.W.codeIn K cdm14 "need_deed" = true)
    (km14 : PySem.W.keepIn K (.ref fm14) = true)
    (am15 : PySem.W.nsIn K mainGlobals "need_hands" = some (some (.ref fm15)))
    (lm15 : K.lookup fm15 = some ⟨ocm15, odm15, .func (PySem.W.fnOf "need_hands" "need_hands" (defArgs sNHands) (defBody sNHands) (defScope sNHands) .none kVm15 dcm15 pmm15 anm15 cdm15 ctm15), slm15⟩)
    (cm15 : PySem.W.codeIn K cdm15 "need_hands" = true)
    (km15 : PySem.W.keepIn K (.ref fm15) = true)
    (am16 : PySem.W.nsIn K mainGlobals "need_row" = some (some (.ref fm16)))
    (lm16 : K.lookup fm16 = some ⟨ocm16, odm16, .func (PySem.W.fnOf "need_row" "need_row" (defArgs sNRow) (defBody sNRow) (defScope sNRow) .none kVm16 dcm16 pmm16 anm16 cdm16 ctm16), slm16⟩)
    (cm16 : PySem.W.codeIn K cdm16 "need_row" = true)
    (km16 : PySem.W.keepIn K (.ref fm16) = true)
    (am17 : PySem.W.nsIn K mainGlobals "need_rows" = some (some (.ref fm17)))
    (lm17 : K.lookup fm17 = some ⟨ocm17, odm17, .func (PySem.W.fnOf "need_rows" "need_rows" (defArgs sNRows) (defBody sNRows) (defScope sNRows) .none kVm17 dcm17 pmm17 anm17 cdm17 ctm17), slm17⟩)
    (cm17 : PySem.W.codeIn K cdm17 "need_rows" = true)
    (km17 : PySem.W.keepIn K (.ref fm17) = true)
    (am18 : PySem.W.nsIn K mainGlobals "place_in" = some (some (.ref fm18)))
    (lm18 : K.lookup fm18 = some ⟨ocm18, odm18, .func (PySem.W.fnOf "place_in" "place_in" (defArgs sPlace) (defBody sPlace) (defScope sPlace) .none kVm18 dcm18 pmm18 anm18 cdm18 ctm18), slm18⟩)
    (cm18 : PySem.W.codeIn K cdm18 "place_in" = true)
    (km18 : PySem.W.keepIn K (.ref fm18) = true)
    (am19 : PySem.W.nsIn K mainGlobals "with_place" = some (some (.ref fm19)))
    (lm19 : K.lookup fm19 = some ⟨ocm19, odm19, .func (PySem.W.fnOf "with_place" "with_place" (defArgs sWith) (defBody sWith) (defScope sWith) .none kVm19 dcm19 pmm19 anm19 cdm19 ctm19), slm19⟩)
    (cm19 : PySem.W.codeIn K cdm19 "with_place" = true)
    (km19 : PySem.W.keepIn K (.ref fm19) = true)
    (am20 : PySem.W.nsIn K mainGlobals "seal_on" = some (some (.ref fm20)))
    (lm20 : K.lookup fm20 = some ⟨ocm20, odm20, .func (PySem.W.fnOf "seal_on" "seal_on" (defArgs sOn) (defBody sOn) (defScope sOn) .none kVm20 dcm20 pmm20 anm20 cdm20 ctm20), slm20⟩)
    (cm20 : PySem.W.codeIn K cdm20 "seal_on" = true)
    (km20 : PySem.W.keepIn K (.ref fm20) = true)
    (am21 : PySem.W.nsIn K mainGlobals "loads_at" = some (some (.ref fm21)))
    (lm21 : K.lookup fm21 = some ⟨ocm21, odm21, .func (PySem.W.fnOf "loads_at" "loads_at" (defArgs sLoads) (defBody sLoads) (defScope sLoads) .none kVm21 dcm21 pmm21 anm21 cdm21 ctm21), slm21⟩)
    (cm21 : PySem.W.codeIn K cdm21 "loads_at" = true)
    (km21 : PySem.W.keepIn K (.ref fm21) = true)
    (am22 : PySem.W.nsIn K mainGlobals "state_behind" = some (some (.ref fm22)))
    (lm22 : K.lookup fm22 = some ⟨ocm22, odm22, .func (PySem.W.fnOf "state_behind" "state_behind" (defArgs sBehind) (defBody sBehind) (defScope sBehind) .none kVm22 dcm22 pmm22 anm22 cdm22 ctm22), slm22⟩)
    (cm22 : PySem.W.codeIn K cdm22 "state_behind" = true)
    (km22 : PySem.W.keepIn K (.ref fm22) = true)
    (am23 : PySem.W.nsIn K mainGlobals "state_behind_break" = some (some (.ref fm23)))
    (lm23 : K.lookup fm23 = some ⟨ocm23, odm23, .func (PySem.W.fnOf "state_behind_break" "state_behind_break" (defArgs sBreak) (defBody sBreak) (defScope sBreak) .none kVm23 dcm23 pmm23 anm23 cdm23 ctm23), slm23⟩)
    (cm23 : PySem.W.codeIn K cdm23 "state_behind_break" = true)
    (km23 : PySem.W.keepIn K (.ref fm23) = true)
    (am24 : PySem.W.nsIn K mainGlobals "need_held" = some (some (.ref fm24)))
    (lm24 : K.lookup fm24 = some ⟨ocm24, odm24, .func (PySem.W.fnOf "need_held" "need_held" (defArgs sHeld) (defBody sHeld) (defScope sHeld) .none kVm24 dcm24 pmm24 anm24 cdm24 ctm24), slm24⟩)
    (cm24 : PySem.W.codeIn K cdm24 "need_held" = true)
    (km24 : PySem.W.keepIn K (.ref fm24) = true)
    (am25 : PySem.W.nsIn K mainGlobals "need_bare" = some (some (.ref fm25)))
    (lm25 : K.lookup fm25 = some ⟨ocm25, odm25, .func (PySem.W.fnOf "need_bare" "need_bare" (defArgs sBare) (defBody sBare) (defScope sBare) .none kVm25 dcm25 pmm25 anm25 cdm25 ctm25), slm25⟩)
    (cm25 : PySem.W.codeIn K cdm25 "need_bare" = true)
    (km25 : PySem.W.keepIn K (.ref fm25) = true)
    (am26 : PySem.W.nsIn K mainGlobals "is_true" = some (some (.ref fm26)))
    (lm26 : K.lookup fm26 = some ⟨ocm26, odm26, .func (PySem.W.fnOf "is_true" "is_true" (defArgs sTrue) (defBody sTrue) (defScope sTrue) .none kVm26 dcm26 pmm26 anm26 cdm26 ctm26), slm26⟩)
    (cm26 : PySem.W.codeIn K cdm26 "is_true" = true)
    (km26 : PySem.W.keepIn K (.ref fm26) = true)
    (am27 : PySem.W.nsIn K mainGlobals "first_fault" = some (some (.ref fm27)))
    (lm27 : K.lookup fm27 = some ⟨ocm27, odm27, .func (PySem.W.fnOf "first_fault" "first_fault" (defArgs sFF) (defBody sFF) (defScope sFF) .none kVm27 dcm27 pmm27 anm27 cdm27 ctm27), slm27⟩)
    (cm27 : PySem.W.codeIn K cdm27 "first_fault" = true)
    (km27 : PySem.W.keepIn K (.ref fm27) = true)
    (am28 : PySem.W.nsIn K mainGlobals "state_behind_secret" = some (some (.ref fm28)))
    (lm28 : K.lookup fm28 = some ⟨ocm28, odm28, .func (PySem.W.fnOf "state_behind_secret" "state_behind_secret" (defArgs sSS) (defBody sSS) (defScope sSS) .none kVm28 dcm28 pmm28 anm28 cdm28 ctm28), slm28⟩)
    (cm28 : PySem.W.codeIn K cdm28 "state_behind_secret" = true)
    (km28 : PySem.W.keepIn K (.ref fm28) = true)
    (am29 : PySem.W.nsIn K mainGlobals "state_behind_row" = some (some (.ref fm29)))
    (lm29 : K.lookup fm29 = some ⟨ocm29, odm29, .func (PySem.W.fnOf "state_behind_row" "state_behind_row" (defArgs sSR) (defBody sSR) (defScope sSR) .none kVm29 dcm29 pmm29 anm29 cdm29 ctm29), slm29⟩)
    (cm29 : PySem.W.codeIn K cdm29 "state_behind_row" = true)
    (km29 : PySem.W.keepIn K (.ref fm29) = true)
    (am30 : PySem.W.nsIn K mainGlobals "_law_begun" = some (some (.ref fm30)))
    (lm30 : K.lookup fm30 = some ⟨ocm30, odm30, .func (PySem.W.fnOf "_law_begun" "_law_begun" (defArgs sBegun) (defBody sBegun) (defScope sBegun) .none kVm30 dcm30 pmm30 anm30 cdm30 ctm30), slm30⟩)
    (cm30 : PySem.W.codeIn K cdm30 "_law_begun" = true)
    (km30 : PySem.W.keepIn K (.ref fm30) = true)
    (am31 : PySem.W.nsIn K mainGlobals "_law_take" = some (some (.ref fm31)))
    (lm31 : K.lookup fm31 = some ⟨ocm31, odm31, .func (PySem.W.fnOf "_law_take" "_law_take" (defArgs sTake) (defBody sTake) (defScope sTake) .none kVm31 dcm31 pmm31 anm31 cdm31 ctm31), slm31⟩)
    (cm31 : PySem.W.codeIn K cdm31 "_law_take" = true)
    (km31 : PySem.W.keepIn K (.ref fm31) = true)
    (am32 : PySem.W.nsIn K mainGlobals "_law_alike" = some (some (.ref fm32)))
    (lm32 : K.lookup fm32 = some ⟨ocm32, odm32, .func (PySem.W.fnOf "_law_alike" "_law_alike" (defArgs sAlike) (defBody sAlike) (defScope sAlike) .none kVm32 dcm32 pmm32 anm32 cdm32 ctm32), slm32⟩)
    (cm32 : PySem.W.codeIn K cdm32 "_law_alike" = true)
    (km32 : PySem.W.keepIn K (.ref fm32) = true)
    (am33 : PySem.W.nsIn K mainGlobals "_law_places" = some (some (.ref fm33)))
    (lm33 : K.lookup fm33 = some ⟨ocm33, odm33, .func (PySem.W.fnOf "_law_places" "_law_places" (defArgs sPlaces) (defBody sPlaces) (defScope sPlaces) .none kVm33 dcm33 pmm33 anm33 cdm33 ctm33), slm33⟩)
    (cm33 : PySem.W.codeIn K cdm33 "_law_places" = true)
    (km33 : PySem.W.keepIn K (.ref fm33) = true)
    (am34 : PySem.W.nsIn K mainGlobals "_law_house" = some (some (.ref fm34)))
    (lm34 : K.lookup fm34 = some ⟨ocm34, odm34, .func (PySem.W.fnOf "_law_house" "_law_house" (defArgs sHouse) (defBody sHouse) (defScope sHouse) .none kVm34 dcm34 pmm34 anm34 cdm34 ctm34), slm34⟩)
    (cm34 : PySem.W.codeIn K cdm34 "_law_house" = true)
    (km34 : PySem.W.keepIn K (.ref fm34) = true)
    (am35 : PySem.W.nsIn K mainGlobals "_law_where" = some (some (.ref fm35)))
    (lm35 : K.lookup fm35 = some ⟨ocm35, odm35, .func (PySem.W.fnOf "_law_where" "_law_where" (defArgs sWhere) (defBody sWhere) (defScope sWhere) .none kVm35 dcm35 pmm35 anm35 cdm35 ctm35), slm35⟩)
    (cm35 : PySem.W.codeIn K cdm35 "_law_where" = true)
    (km35 : PySem.W.keepIn K (.ref fm35) = true)
    (am36 : PySem.W.nsIn K mainGlobals "_law_set" = some (some (.ref fm36)))
    (lm36 : K.lookup fm36 = some ⟨ocm36, odm36, .func (PySem.W.fnOf "_law_set" "_law_set" (defArgs sSet) (defBody sSet) (defScope sSet) .none kVm36 dcm36 pmm36 anm36 cdm36 ctm36), slm36⟩)
    (cm36 : PySem.W.codeIn K cdm36 "_law_set" = true)
    (km36 : PySem.W.keepIn K (.ref fm36) = true)
    (am37 : PySem.W.nsIn K mainGlobals "_law_bar" = some (some (.ref fm37)))
    (lm37 : K.lookup fm37 = some ⟨ocm37, odm37, .func (PySem.W.fnOf "_law_bar" "_law_bar" (defArgs sBar) (defBody sBar) (defScope sBar) .none kVm37 dcm37 pmm37 anm37 cdm37 ctm37), slm37⟩)
    (cm37 : PySem.W.codeIn K cdm37 "_law_bar" = true)
    (km37 : PySem.W.keepIn K (.ref fm37) = true)
    (am38 : PySem.W.nsIn K mainGlobals "_law_next" = some (some (.ref fm38)))
    (lm38 : K.lookup fm38 = some ⟨ocm38, odm38, .func (PySem.W.fnOf "_law_next" "_law_next" (defArgs sNext) (defBody sNext) (defScope sNext) .none kVm38 dcm38 pmm38 anm38 cdm38 ctm38), slm38⟩)
    (cm38 : PySem.W.codeIn K cdm38 "_law_next" = true)
    (km38 : PySem.W.keepIn K (.ref fm38) = true)
    (am39 : PySem.W.nsIn K mainGlobals "_law_deeds" = some (some (.ref fm39)))
    (lm39 : K.lookup fm39 = some ⟨ocm39, odm39, .func (PySem.W.fnOf "_law_deeds" "_law_deeds" (defArgs sDeeds) (defBody sDeeds) (defScope sDeeds) .none kVm39 dcm39 pmm39 anm39 cdm39 ctm39), slm39⟩)
    (cm39 : PySem.W.codeIn K cdm39 "_law_deeds" = true)
    (km39 : PySem.W.keepIn K (.ref fm39) = true)
    (am40 : PySem.W.nsIn K mainGlobals "_law_inside" = some (some (.ref fm40)))
    (lm40 : K.lookup fm40 = some ⟨ocm40, odm40, .func (PySem.W.fnOf "_law_inside" "_law_inside" (defArgs sInside) (defBody sInside) (defScope sInside) .none kVm40 dcm40 pmm40 anm40 cdm40 ctm40), slm40⟩)
    (cm40 : PySem.W.codeIn K cdm40 "_law_inside" = true)
    (km40 : PySem.W.keepIn K (.ref fm40) = true)
    (am41 : PySem.W.nsIn K mainGlobals "_law_is" = some (some (.ref fm41)))
    (lm41 : K.lookup fm41 = some ⟨ocm41, odm41, .func (PySem.W.fnOf "_law_is" "_law_is" (defArgs sIs) (defBody sIs) (defScope sIs) .none kVm41 dcm41 pmm41 anm41 cdm41 ctm41), slm41⟩)
    (cm41 : PySem.W.codeIn K cdm41 "_law_is" = true)
    (km41 : PySem.W.keepIn K (.ref fm41) = true)
    (am42 : PySem.W.nsIn K mainGlobals "_law_sight" = some (some (.ref fm42)))
    (lm42 : K.lookup fm42 = some ⟨ocm42, odm42, .func (PySem.W.fnOf "_law_sight" "_law_sight" (defArgs sSight) (defBody sSight) (defScope sSight) .none kVm42 dcm42 pmm42 anm42 cdm42 ctm42), slm42⟩)
    (cm42 : PySem.W.codeIn K cdm42 "_law_sight" = true)
    (km42 : PySem.W.keepIn K (.ref fm42) = true)
    (am43 : PySem.W.nsIn K mainGlobals "_law_hands" = some (some (.ref fm43)))
    (lm43 : K.lookup fm43 = some ⟨ocm43, odm43, .func (PySem.W.fnOf "_law_hands" "_law_hands" (defArgs sHands) (defBody sHands) (defScope sHands) .none kVm43 dcm43 pmm43 anm43 cdm43 ctm43), slm43⟩)
    (cm43 : PySem.W.codeIn K cdm43 "_law_hands" = true)
    (km43 : PySem.W.keepIn K (.ref fm43) = true)
    (am44 : PySem.W.nsIn K mainGlobals "_law_story" = some (some (.ref fm44)))
    (lm44 : K.lookup fm44 = some ⟨ocm44, odm44, .func (PySem.W.fnOf "_law_story" "_law_story" (defArgs sStory) (defBody sStory) (defScope sStory) .none kVm44 dcm44 pmm44 anm44 cdm44 ctm44), slm44⟩)
    (cm44 : PySem.W.codeIn K cdm44 "_law_story" = true)
    (km44 : PySem.W.keepIn K (.ref fm44) = true)
    (am45 : PySem.W.nsIn K mainGlobals "_law_behind" = some (some (.ref fm45)))
    (lm45 : K.lookup fm45 = some ⟨ocm45, odm45, .func (PySem.W.fnOf "_law_behind" "_law_behind" (defArgs sBeh) (defBody sBeh) (defScope sBeh) .none kVm45 dcm45 pmm45 anm45 cdm45 ctm45), slm45⟩)
    (cm45 : PySem.W.codeIn K cdm45 "_law_behind" = true)
    (km45 : PySem.W.keepIn K (.ref fm45) = true)
    (am46 : PySem.W.nsIn K mainGlobals "_law_error" = some (some (.ref fm46)))
    (lm46 : K.lookup fm46 = some ⟨ocm46, odm46, .func (PySem.W.fnOf "_law_error" "_law_error" (defArgs sErr) (defBody sErr) (defScope sErr) .none kVm46 dcm46 pmm46 anm46 cdm46 ctm46), slm46⟩)
    (cm46 : PySem.W.codeIn K cdm46 "_law_error" = true)
    (km46 : PySem.W.keepIn K (.ref fm46) = true)
    (am47 : PySem.W.nsIn K mainGlobals "_law_known" = some (some (.ref fm47)))
    (lm47 : K.lookup fm47 = some ⟨ocm47, odm47, .func (PySem.W.fnOf "_law_known" "_law_known" (defArgs sKnown) (defBody sKnown) (defScope sKnown) .none kVm47 dcm47 pmm47 anm47 cdm47 ctm47), slm47⟩)
    (cm47 : PySem.W.codeIn K cdm47 "_law_known" = true)
    (km47 : PySem.W.keepIn K (.ref fm47) = true)
    (am48 : PySem.W.nsIn K mainGlobals "_law_fault" = some (some (.ref fm48)))
    (lm48 : K.lookup fm48 = some ⟨ocm48, odm48, .func (PySem.W.fnOf "_law_fault" "_law_fault" (defArgs sFault) (defBody sFault) (defScope sFault) .none kVm48 dcm48 pmm48 anm48 cdm48 ctm48), slm48⟩)
    (cm48 : PySem.W.codeIn K cdm48 "_law_fault" = true)
    (km48 : PySem.W.keepIn K (.ref fm48) = true)
    (ah0 : PySem.W.findIn K (.ref C) "__init__" = some (some (.ref fh0)))
    (lh0 : K.lookup fh0 = some ⟨och0, odh0, .func (PySem.W.fnOf "__init__" "House.__init__" (defArgs sInit) (defBody sInit) (defScope sInit) .none kVh0 dch0 pmh0 anh0 cdh0 cth0), slh0⟩)
    (ch0 : PySem.W.codeIn K cdh0 "House.__init__" = true)
    (kh0 : PySem.W.keepIn K (.ref fh0) = true)
    (ih0 : PySem.W.isFn K (.ref fh0) = true)
    (ah1 : PySem.W.findIn K (.ref C) "__contains__" = some (some (.ref fh1)))
    (lh1 : K.lookup fh1 = some ⟨och1, odh1, .func (PySem.W.fnOf "__contains__" "House.__contains__" (defArgs sHas) (defBody sHas) (defScope sHas) .none kVh1 dch1 pmh1 anh1 cdh1 cth1), slh1⟩)
    (ch1 : PySem.W.codeIn K cdh1 "House.__contains__" = true)
    (kh1 : PySem.W.keepIn K (.ref fh1) = true)
    (ih1 : PySem.W.isFn K (.ref fh1) = true)
    (ppahp : PySem.W.findIn K (.ref C) "all_items" = some (some (.ref php)))
    (ahp : PySem.W.recIn K php "property" = some (.ref fhp :: rhp))
    (lhp : K.lookup fhp = some ⟨ochp, odhp, .func (PySem.W.fnOf "all_items" "House.all_items" (defArgs sItems) (defBody sItems) (defScope sItems) .none kVhp dchp pmhp anhp cdhp cthp), slhp⟩)
    (chp : PySem.W.codeIn K cdhp "House.all_items" = true)
    (khp : PySem.W.keepIn K (.ref fhp) = true)
    (ppghp : PySem.W.specialIn K (.ref php) "__get__" = some (some (.builtin "property.__get__")))
    (ppthp : PySem.W.takesIn K (.ref php) = some true)
    (ag0 : PySem.W.findIn K (.ref CL) "__init__" = some (some (.ref fg0)))
    (lg0 : K.lookup fg0 = some ⟨ocg0, odg0, .func (PySem.W.fnOf "__init__" "Log.__init__" (defArgs sLInit) (defBody sLInit) (defScope sLInit) .none kVg0 dcg0 pmg0 ang0 cdg0 ctg0), slg0⟩)
    (cg0 : PySem.W.codeIn K cdg0 "Log.__init__" = true)
    (kg0 : PySem.W.keepIn K (.ref fg0) = true)
    (ig0 : PySem.W.isFn K (.ref fg0) = true)
    (ppagp : PySem.W.findIn K (.ref CL) "gaps" = some (some (.ref pgp)))
    (agp : PySem.W.recIn K pgp "property" = some (.ref fgp :: rgp))
    (lgp : K.lookup fgp = some ⟨ocgp, odgp, .func (PySem.W.fnOf "gaps" "Log.gaps" (defArgs sLGaps) (defBody sLGaps) (defScope sLGaps) .none kVgp dcgp pmgp angp cdgp ctgp), slgp⟩)
    (cgp : PySem.W.codeIn K cdgp "Log.gaps" = true)
    (kgp : PySem.W.keepIn K (.ref fgp) = true)
    (ppggp : PySem.W.specialIn K (.ref pgp) "__get__" = some (some (.builtin "property.__get__")))
    (pptgp : PySem.W.takesIn K (.ref pgp) = some true)
    (ag4 : PySem.W.findIn K (.ref CL) "__add__" = some (some (.ref fg4)))
    (lg4 : K.lookup fg4 = some ⟨ocg4, odg4, .func (PySem.W.fnOf "__add__" "Log.__add__" (defArgs sLAdd) (defBody sLAdd) (defScope sLAdd) .none kVg4 dcg4 pmg4 ang4 cdg4 ctg4), slg4⟩)
    (cg4 : PySem.W.codeIn K cdg4 "Log.__add__" = true)
    (kg4 : PySem.W.keepIn K (.ref fg4) = true)
    (ig4 : PySem.W.isFn K (.ref fg4) = true)
    (adf : PySem.W.selfFirst K CL = true)
    (adl : PySem.W.findIn K (.type "list") "__add__" = some adfo)
    (adq : (adfo.isSome && !isSeqSlot adfo) = false)
    (adr : PySem.W.findIn K (.type "list") "__radd__" = some none)
    (zisinstance : PySem.W.nsIn K mainGlobals "isinstance" = some none)
    (zint : PySem.W.nsIn K mainGlobals "int" = some none)
    (zbool : PySem.W.nsIn K mainGlobals "bool" = some none)
    (zlen : PySem.W.nsIn K mainGlobals "len" = some none)
    (zenumerate : PySem.W.nsIn K mainGlobals "enumerate" = some none)
    (ztuple : PySem.W.nsIn K mainGlobals "tuple" = some none)
    (zlist : PySem.W.nsIn K mainGlobals "list" = some none)
    (zrange : PySem.W.nsIn K mainGlobals "range" = some none)
    (zstr : PySem.W.nsIn K mainGlobals "str" = some none)
    (zsuper : PySem.W.nsIn K mainGlobals "super" = some none)
    (zsorted : PySem.W.nsIn K mainGlobals "sorted" = some none)
    (zdict : PySem.W.nsIn K mainGlobals "dict" = some none)
    (zValueError : PySem.W.nsIn K mainGlobals "ValueError" = some none)
    (aL : PySem.W.nsIn K mainGlobals "law" = some (some (.ref fL)))
    (lL : K.lookup fL = some ⟨ocL, odL, .func (PySem.W.fnOf "law" "law" (defArgs sLaw) (defBody sLaw) (defScope sLaw) .none kVL dcL pmL anL (.ref cd) ctL), slL⟩)
    (cL : PySem.W.codeIn K (.ref cd) "law" = true)
    (hcd : PySem.W.codeHdIn K cd tb = true)
    (ntb : K.lookup tb = none)
    (hT : h.get? tb = some { cls := .none, data := .fields #[] }) : LamX.LawAtS l w K CX0 12 63 "_law_script" mg fa h := by
  have e := hfa.symm.trans (PySem.W.mg_of X G aL)
  cases e
  have clh : Cls K C := ⟨hpg, hhd, hpo, hsa⟩
  have gh := PySem.W.mg_of X G hC
  have clg : Cls K CL := ⟨gpg, ghd, gpo, gsa⟩
  have gg := PySem.W.mg_of X G gC
  have oexInvalidHouse : OexC K CInvalidHouse := ⟨⟨nmInvalidHouse, qInvalidHouse, NInvalidHouse, bsInvalidHouse, bmInvalidHouse, snInvalidHouse, subInvalidHouse, abInvalidHouse, colInvalidHouse, ddInvalidHouse, g0InvalidHouse, g1InvalidHouse, g2InvalidHouse, g3InvalidHouse, g5InvalidHouse, xLInvalidHouse, xvInvalidHouse⟩, xsaInvalidHouse, xexInvalidHouse, xtyInvalidHouse, xkcInvalidHouse⟩
  have supInvalidHouse : SupC l.prog K mg CInvalidHouse := ⟨oexInvalidHouse, ⟨nmInvalidHouse, qInvalidHouse, NInvalidHouse, bsInvalidHouse, bmInvalidHouse, snInvalidHouse, subInvalidHouse, abInvalidHouse, colInvalidHouse, ddInvalidHouse, g0InvalidHouse, g1InvalidHouse, g2InvalidHouse, g3InvalidHouse, g5InvalidHouse, xLInvalidHouse, xvInvalidHouse, xaInvalidHouse⟩, xtp, PySem.W.mg_none_of X G zsuper, xveInvalidHouse, xseInvalidHouse, xtop⟩
  have bIInvalidHouse : Binds K (PySem.W.ksFn "__init__" "InvalidHouse.__init__" (defArgs sIH) (defBody sIH) (defScope sIH) .none kVIInvalidHouse dcIInvalidHouse pmIInvalidHouse anIInvalidHouse (.ref cdaInvalidHouse) ctIInvalidHouse ccInvalidHouse) (["self", "part", "index"] : List Str) [] := Binds.all fun us hl => match us, hl with | [_, _, _], _ => rfl
  have TInvalidHouse : ExcI l.prog K mg "InvalidHouse" "InvalidHouse.__init__" sIH CInvalidHouse fIInvalidHouse (PySem.W.ksFn "__init__" "InvalidHouse.__init__" (defArgs sIH) (defBody sIH) (defScope sIH) .none kVIInvalidHouse dcIInvalidHouse pmIInvalidHouse anIInvalidHouse (.ref cdaInvalidHouse) ctIInvalidHouse ccInvalidHouse) :=
    ⟨supInvalidHouse, xiInvalidHouse, xitInvalidHouse, PySem.W.mg_of X G nInvalidHouse, ⟨ocIInvalidHouse, odIInvalidHouse, kVIInvalidHouse, dcIInvalidHouse, pmIInvalidHouse, anIInvalidHouse, ctIInvalidHouse, slIInvalidHouse, ccInvalidHouse, cdaInvalidHouse, rfl, xilInvalidHouse, xicInvalidHouse, ⟨cclInvalidHouse, cddInvalidHouse, vsCInvalidHouse, ccsInvalidHouse, filInvalidHouse, tfInvalidHouse, xclInvalidHouse, xcfInvalidHouse, xffInvalidHouse⟩, ⟨_, cldInvalidHouse, cslInvalidHouse, xccInvalidHouse⟩⟩, bIInvalidHouse⟩
  have oexInvalidHands : OexC K CInvalidHands := ⟨⟨nmInvalidHands, qInvalidHands, NInvalidHands, bsInvalidHands, bmInvalidHands, snInvalidHands, subInvalidHands, abInvalidHands, colInvalidHands, ddInvalidHands, g0InvalidHands, g1InvalidHands, g2InvalidHands, g3InvalidHands, g5InvalidHands, xLInvalidHands, xvInvalidHands⟩, xsaInvalidHands, xexInvalidHands, xtyInvalidHands, xkcInvalidHands⟩
  have supInvalidHands : SupC l.prog K mg CInvalidHands := ⟨oexInvalidHands, ⟨nmInvalidHands, qInvalidHands, NInvalidHands, bsInvalidHands, bmInvalidHands, snInvalidHands, subInvalidHands, abInvalidHands, colInvalidHands, ddInvalidHands, g0InvalidHands, g1InvalidHands, g2InvalidHands, g3InvalidHands, g5InvalidHands, xLInvalidHands, xvInvalidHands, xaInvalidHands⟩, xtp, PySem.W.mg_none_of X G zsuper, xveInvalidHands, xseInvalidHands, xtop⟩
  have bIInvalidHands : Binds K (PySem.W.ksFn "__init__" "InvalidHands.__init__" (defArgs sIHands) (defBody sIHands) (defScope sIHands) .none kVIInvalidHands dcIInvalidHands pmIInvalidHands anIInvalidHands (.ref cdaInvalidHands) ctIInvalidHands ccInvalidHands) (["self", "index"] : List Str) [] := Binds.all fun us hl => match us, hl with | [_, _], _ => rfl
  have TInvalidHands : ExcX l.prog K mg "InvalidHands" "InvalidHands.__init__" sIHands CInvalidHands fIInvalidHands (PySem.W.ksFn "__init__" "InvalidHands.__init__" (defArgs sIHands) (defBody sIHands) (defScope sIHands) .none kVIInvalidHands dcIInvalidHands pmIInvalidHands anIInvalidHands (.ref cdaInvalidHands) ctIInvalidHands ccInvalidHands) :=
    ⟨supInvalidHands, xiInvalidHands, xitInvalidHands, PySem.W.mg_of X G nInvalidHands, ⟨ocIInvalidHands, odIInvalidHands, kVIInvalidHands, dcIInvalidHands, pmIInvalidHands, anIInvalidHands, ctIInvalidHands, slIInvalidHands, ccInvalidHands, cdaInvalidHands, rfl, xilInvalidHands, xicInvalidHands, ⟨cclInvalidHands, cddInvalidHands, vsCInvalidHands, ccsInvalidHands, filInvalidHands, tfInvalidHands, xclInvalidHands, xcfInvalidHands, xffInvalidHands⟩, ⟨_, cldInvalidHands, cslInvalidHands, xccInvalidHands⟩⟩, bIInvalidHands⟩
  have oexInvalidLog : OexC K CInvalidLog := ⟨⟨nmInvalidLog, qInvalidLog, NInvalidLog, bsInvalidLog, bmInvalidLog, snInvalidLog, subInvalidLog, abInvalidLog, colInvalidLog, ddInvalidLog, g0InvalidLog, g1InvalidLog, g2InvalidLog, g3InvalidLog, g5InvalidLog, xLInvalidLog, xvInvalidLog⟩, xsaInvalidLog, xexInvalidLog, xtyInvalidLog, xkcInvalidLog⟩
  have supInvalidLog : SupC l.prog K mg CInvalidLog := ⟨oexInvalidLog, ⟨nmInvalidLog, qInvalidLog, NInvalidLog, bsInvalidLog, bmInvalidLog, snInvalidLog, subInvalidLog, abInvalidLog, colInvalidLog, ddInvalidLog, g0InvalidLog, g1InvalidLog, g2InvalidLog, g3InvalidLog, g5InvalidLog, xLInvalidLog, xvInvalidLog, xaInvalidLog⟩, xtp, PySem.W.mg_none_of X G zsuper, xveInvalidLog, xseInvalidLog, xtop⟩
  have bIInvalidLog : Binds K (PySem.W.ksFn "__init__" "InvalidLog.__init__" (defArgs sILog) (defBody sILog) (defScope sILog) .none kVIInvalidLog dcIInvalidLog pmIInvalidLog anIInvalidLog (.ref cdaInvalidLog) ctIInvalidLog ccInvalidLog) (["self", "index"] : List Str) [] := Binds.all fun us hl => match us, hl with | [_, _], _ => rfl
  have TInvalidLog : ExcX l.prog K mg "InvalidLog" "InvalidLog.__init__" sILog CInvalidLog fIInvalidLog (PySem.W.ksFn "__init__" "InvalidLog.__init__" (defArgs sILog) (defBody sILog) (defScope sILog) .none kVIInvalidLog dcIInvalidLog pmIInvalidLog anIInvalidLog (.ref cdaInvalidLog) ctIInvalidLog ccInvalidLog) :=
    ⟨supInvalidLog, xiInvalidLog, xitInvalidLog, PySem.W.mg_of X G nInvalidLog, ⟨ocIInvalidLog, odIInvalidLog, kVIInvalidLog, dcIInvalidLog, pmIInvalidLog, anIInvalidLog, ctIInvalidLog, slIInvalidLog, ccInvalidLog, cdaInvalidLog, rfl, xilInvalidLog, xicInvalidLog, ⟨cclInvalidLog, cddInvalidLog, vsCInvalidLog, ccsInvalidLog, filInvalidLog, tfInvalidLog, xclInvalidLog, xcfInvalidLog, xffInvalidLog⟩, ⟨_, cldInvalidLog, cslInvalidLog, xccInvalidLog⟩⟩, bIInvalidLog⟩
  have PInvalidCourse : PErr K mg "InvalidCourse" CInvalidCourse := ⟨eexInvalidCourse, PySem.W.mg_of X G nInvalidCourse, ekpInvalidCourse, esbInvalidCourse, etyInvalidCourse⟩
  have PUnknownHand : PErr K mg "UnknownHand" CUnknownHand := ⟨eexUnknownHand, PySem.W.mg_of X G nUnknownHand, ekpUnknownHand, esbUnknownHand, etyUnknownHand⟩
  have PUnknownItem : PErr K mg "UnknownItem" CUnknownItem := ⟨eexUnknownItem, PySem.W.mg_of X G nUnknownItem, ekpUnknownItem, esbUnknownItem, etyUnknownItem⟩
  have PUnknownBox : PErr K mg "UnknownBox" CUnknownBox := ⟨eexUnknownBox, PySem.W.mg_of X G nUnknownBox, ekpUnknownBox, esbUnknownBox, etyUnknownBox⟩
  have PUnknownSeal : PErr K mg "UnknownSeal" CUnknownSeal := ⟨eexUnknownSeal, PySem.W.mg_of X G nUnknownSeal, ekpUnknownSeal, esbUnknownSeal, etyUnknownSeal⟩
  have PInsideItself : PErr K mg "InsideItself" CInsideItself := ⟨eexInsideItself, PySem.W.mg_of X G nInsideItself, ekpInsideItself, esbInsideItself, etyInsideItself⟩
  have PNotHeld : PErr K mg "NotHeld" CNotHeld := ⟨eexNotHeld, PySem.W.mg_of X G nNotHeld, ekpNotHeld, esbNotHeld, etyNotHeld⟩
  have PIsSealed : PErr K mg "IsSealed" CIsSealed := ⟨eexIsSealed, PySem.W.mg_of X G nIsSealed, ekpIsSealed, esbIsSealed, etyIsSealed⟩
  have PNotSealed : PErr K mg "NotSealed" CNotSealed := ⟨eexNotSealed, PySem.W.mg_of X G nNotSealed, ekpNotSealed, esbNotSealed, etyNotSealed⟩
  have PNotInside : PErr K mg "NotInside" CNotInside := ⟨eexNotInside, PySem.W.mg_of X G nNotInside, ekpNotInside, esbNotInside, etyNotInside⟩
  have v_MOST_HANDS := PySem.W.mg_of X G j_MOST_HANDS
  have v_MOST_BOXES := PySem.W.mg_of X G j_MOST_BOXES
  have v_MOST_THINGS := PySem.W.mg_of X G j_MOST_THINGS
  have v_MOST_SEALS := PySem.W.mg_of X G j_MOST_SEALS
  have v_MOST_ROWS := PySem.W.mg_of X G j_MOST_ROWS
  have Fis_number := fun_mk (st := sNum) lm0 cm0 km0
  have bis_number := Fis_number.binds (ps := ["value", "limit"]) fun _ _ _ _ _ _ us hl => match us, hl with | [_, _], _ => rfl
  have gis_number := PySem.W.mg_of X G am0
  have Fhow_many := fun_mk (st := sMany) lm1 cm1 km1
  have bhow_many := Fhow_many.binds (ps := ["house", "word"]) fun _ _ _ _ _ _ us hl => match us, hl with | [_, _], _ => rfl
  have ghow_many := PySem.W.mg_of X G am1
  have Fis_place := fun_mk (st := sIsPl) lm2 cm2 km2
  have bis_place := Fis_place.binds (ps := ["place", "hands", "boxes"]) fun _ _ _ _ _ _ us hl => match us, hl with | [_, _, _], _ => rfl
  have gis_place := PySem.W.mg_of X G am2
  have Fneed_boxes := fun_mk (st := sBoxes) lm3 cm3 km3
  have bneed_boxes := Fneed_boxes.binds (ps := ["hands", "boxes"]) fun _ _ _ _ _ _ us hl => match us, hl with | [_, _], _ => rfl
  have gneed_boxes := PySem.W.mg_of X G am3
  have Fneed_house := fun_mk (st := sNeed) lm4 cm4 km4
  have bneed_house := Fneed_house.binds (ps := ["hands", "boxes", "things", "seals"]) fun _ _ _ _ _ _ us hl => match us, hl with | [_, _, _, _], _ => rfl
  have gneed_house := PySem.W.mg_of X G am4
  have Fneed_hand := fun_mk (st := sNHand) lm5 cm5 km5
  have bneed_hand := Fneed_hand.binds (ps := ["house", "hand"]) fun _ _ _ _ _ _ us hl => match us, hl with | [_, _], _ => rfl
  have gneed_hand := PySem.W.mg_of X G am5
  have Fneed_item := fun_mk (st := sNItem) lm6 cm6 km6
  have bneed_item := Fneed_item.binds (ps := ["house", "item"]) fun _ _ _ _ _ _ us hl => match us, hl with | [_, _], _ => rfl
  have gneed_item := PySem.W.mg_of X G am6
  have Fneed_load := fun_mk (st := sNLoad) lm7 cm7 km7
  have bneed_load := Fneed_load.binds (ps := ["house", "item"]) fun _ _ _ _ _ _ us hl => match us, hl with | [_, _], _ => rfl
  have gneed_load := PySem.W.mg_of X G am7
  have Fneed_box := fun_mk (st := sNBox) lm8 cm8 km8
  have bneed_box := Fneed_box.binds (ps := ["house", "box"]) fun _ _ _ _ _ _ us hl => match us, hl with | [_, _], _ => rfl
  have gneed_box := PySem.W.mg_of X G am8
  have Fneed_seal := fun_mk (st := sNSeal) lm9 cm9 km9
  have bneed_seal := Fneed_seal.binds (ps := ["house", "seal"]) fun _ _ _ _ _ _ us hl => match us, hl with | [_, _], _ => rfl
  have gneed_seal := PySem.W.mg_of X G am9
  have Fneed_place := fun_mk (st := sNPlace) lm10 cm10 km10
  have bneed_place := Fneed_place.binds (ps := ["house", "place"]) fun _ _ _ _ _ _ us hl => match us, hl with | [_, _], _ => rfl
  have gneed_place := PySem.W.mg_of X G am10
  have Fneed_sight := fun_mk (st := sNSight) lm11 cm11 km11
  have bneed_sight := Fneed_sight.binds (ps := ["house", "sight"]) fun _ _ _ _ _ _ us hl => match us, hl with | [_, _], _ => rfl
  have gneed_sight := PySem.W.mg_of X G am11
  have Fneed_loads := fun_mk (st := sNLoads) lm12 cm12 km12
  have bneed_loads := Fneed_loads.binds (ps := ["house", "items"]) fun _ _ _ _ _ _ us hl => match us, hl with | [_, _], _ => rfl
  have gneed_loads := PySem.W.mg_of X G am12
  have Fneed_move := fun_mk (st := sNMove) lm13 cm13 km13
  have bneed_move := Fneed_move.binds (ps := ["house", "item", "box"]) fun _ _ _ _ _ _ us hl => match us, hl with | [_, _, _], _ => rfl
  have gneed_move := PySem.W.mg_of X G am13
  have Fneed_deed := fun_mk (st := sNDeed) lm14 cm14 km14
  have bneed_deed := Fneed_deed.binds (ps := ["house", "deed"]) fun _ _ _ _ _ _ us hl => match us, hl with | [_, _], _ => rfl
  have gneed_deed := PySem.W.mg_of X G am14
  have Fneed_hands := fun_mk (st := sNHands) lm15 cm15 km15
  have bneed_hands := Fneed_hands.binds (ps := ["house", "hands"]) fun _ _ _ _ _ _ us hl => match us, hl with | [_, _], _ => rfl
  have gneed_hands := PySem.W.mg_of X G am15
  have Fneed_row := fun_mk (st := sNRow) lm16 cm16 km16
  have bneed_row := Fneed_row.binds (ps := ["house", "row"]) fun _ _ _ _ _ _ us hl => match us, hl with | [_, _], _ => rfl
  have gneed_row := PySem.W.mg_of X G am16
  have Fneed_rows := fun_mk (st := sNRows) lm17 cm17 km17
  have bneed_rows := Fneed_rows.binds (ps := ["house", "rows"]) fun _ _ _ _ _ _ us hl => match us, hl with | [_, _], _ => rfl
  have gneed_rows := PySem.W.mg_of X G am17
  have Fplace_in := fun_mk (st := sPlace) lm18 cm18 km18
  have bplace_in := Fplace_in.binds (ps := ["state", "item"]) fun _ _ _ _ _ _ us hl => match us, hl with | [_, _], _ => rfl
  have gplace_in := PySem.W.mg_of X G am18
  have Fwith_place := fun_mk (st := sWith) lm19 cm19 km19
  have bwith_place := Fwith_place.binds (ps := ["state", "item", "place"]) fun _ _ _ _ _ _ us hl => match us, hl with | [_, _, _], _ => rfl
  have gwith_place := PySem.W.mg_of X G am19
  have Fseal_on := fun_mk (st := sOn) lm20 cm20 km20
  have bseal_on := Fseal_on.binds (ps := ["state", "box"]) fun _ _ _ _ _ _ us hl => match us, hl with | [_, _], _ => rfl
  have gseal_on := PySem.W.mg_of X G am20
  have Floads_at := fun_mk (st := sLoads) lm21 cm21 km21
  have bloads_at := Floads_at.binds (ps := ["state", "place"]) fun _ _ _ _ _ _ us hl => match us, hl with | [_, _], _ => rfl
  have gloads_at := PySem.W.mg_of X G am21
  have Fstate_behind := fun_mk (st := sBehind) lm22 cm22 km22
  have bstate_behind := Fstate_behind.binds (ps := ["state", "deed"]) fun _ _ _ _ _ _ us hl => match us, hl with | [_, _], _ => rfl
  have gstate_behind := PySem.W.mg_of X G am22
  have Fstate_behind_break := fun_mk (st := sBreak) lm23 cm23 km23
  have bstate_behind_break := Fstate_behind_break.binds (ps := ["state", "hand", "box"]) fun _ _ _ _ _ _ us hl => match us, hl with | [_, _, _], _ => rfl
  have gstate_behind_break := PySem.W.mg_of X G am23
  have Fneed_held := fun_mk (st := sHeld) lm24 cm24 km24
  have bneed_held := Fneed_held.binds (ps := ["state", "hand", "item"]) fun _ _ _ _ _ _ us hl => match us, hl with | [_, _, _], _ => rfl
  have gneed_held := PySem.W.mg_of X G am24
  have Fneed_bare := fun_mk (st := sBare) lm25 cm25 km25
  have bneed_bare := Fneed_bare.binds (ps := ["state", "hand", "box"]) fun _ _ _ _ _ _ us hl => match us, hl with | [_, _, _], _ => rfl
  have gneed_bare := PySem.W.mg_of X G am25
  have Fis_true := fun_mk (st := sTrue) lm26 cm26 km26
  have bis_true := Fis_true.binds (ps := ["state", "sight"]) fun _ _ _ _ _ _ us hl => match us, hl with | [_, _], _ => rfl
  have gis_true := PySem.W.mg_of X G am26
  have Ffirst_fault := fun_mk (st := sFF) lm27 cm27 km27
  have bfirst_fault := Ffirst_fault.binds (ps := ["log", "course"]) fun _ _ _ _ _ _ us hl => match us, hl with | [_, _], _ => rfl
  have gfirst_fault := PySem.W.mg_of X G am27
  have Fstate_behind_secret := fun_mk (st := sSS) lm28 cm28 km28
  have bstate_behind_secret := Fstate_behind_secret.binds (ps := ["house", "state", "hands", "deed"]) fun _ _ _ _ _ _ us hl => match us, hl with | [_, _, _, _], _ => rfl
  have gstate_behind_secret := PySem.W.mg_of X G am28
  have Fstate_behind_row := fun_mk (st := sSR) lm29 cm29 km29
  have bstate_behind_row := Fstate_behind_row.binds (ps := ["house", "state", "row"]) fun _ _ _ _ _ _ us hl => match us, hl with | [_, _, _], _ => rfl
  have gstate_behind_row := PySem.W.mg_of X G am29
  have F_law_begun := fun_mk (st := sBegun) lm30 cm30 km30
  have b_law_begun := F_law_begun.binds (ps := ["_law_script"]) fun _ _ _ _ _ _ us hl => match us, hl with | [_], _ => rfl
  have g_law_begun := PySem.W.mg_of X G am30
  have F_law_take := fun_mk (st := sTake) lm31 cm31 km31
  have b_law_take := F_law_take.binds (ps := ["_law_box", "_law_many"]) fun _ _ _ _ _ _ us hl => match us, hl with | [_, _], _ => rfl
  have g_law_take := PySem.W.mg_of X G am31
  have F_law_alike := fun_mk (st := sAlike) lm32 cm32 km32
  have b_law_alike := F_law_alike.binds (ps := ["_law_found", "_law_due"]) fun _ _ _ _ _ _ us hl => match us, hl with | [_, _], _ => rfl
  have g_law_alike := PySem.W.mg_of X G am32
  have F_law_places := fun_mk (st := sPlaces) lm33 cm33 km33
  have b_law_places := F_law_places.binds (ps := ["_law_box", "_law_hands_here", "_law_many"]) fun _ _ _ _ _ _ us hl => match us, hl with | [_, _, _], _ => rfl
  have g_law_places := PySem.W.mg_of X G am33
  have F_law_house := fun_mk (st := sHouse) lm34 cm34 km34
  have b_law_house := F_law_house.binds (ps := ["_law_box", "_law_sizes"]) fun _ _ _ _ _ _ us hl => match us, hl with | [_, _], _ => rfl
  have g_law_house := PySem.W.mg_of X G am34
  have F_law_where := fun_mk (st := sWhere) lm35 cm35 km35
  have b_law_where := F_law_where.binds (ps := ["_law_state", "_law_item"]) fun _ _ _ _ _ _ us hl => match us, hl with | [_, _], _ => rfl
  have g_law_where := PySem.W.mg_of X G am35
  have F_law_set := fun_mk (st := sSet) lm36 cm36 km36
  have b_law_set := F_law_set.binds (ps := ["_law_state", "_law_item", "_law_place"]) fun _ _ _ _ _ _ us hl => match us, hl with | [_, _, _], _ => rfl
  have g_law_set := PySem.W.mg_of X G am36
  have F_law_bar := fun_mk (st := sBar) lm37 cm37 km37
  have b_law_bar := F_law_bar.binds (ps := ["_law_state", "_law_deed"]) fun _ _ _ _ _ _ us hl => match us, hl with | [_, _], _ => rfl
  have g_law_bar := PySem.W.mg_of X G am37
  have F_law_next := fun_mk (st := sNext) lm38 cm38 km38
  have b_law_next := F_law_next.binds (ps := ["_law_state", "_law_deed"]) fun _ _ _ _ _ _ us hl => match us, hl with | [_, _], _ => rfl
  have g_law_next := PySem.W.mg_of X G am38
  have F_law_deeds := fun_mk (st := sDeeds) lm39 cm39 km39
  have b_law_deeds := F_law_deeds.binds (ps := ["_law_state", "_law_hands_here"]) fun _ _ _ _ _ _ us hl => match us, hl with | [_, _], _ => rfl
  have g_law_deeds := PySem.W.mg_of X G am39
  have F_law_inside := fun_mk (st := sInside) lm40 cm40 km40
  have b_law_inside := F_law_inside.binds (ps := ["_law_state", "_law_box"]) fun _ _ _ _ _ _ us hl => match us, hl with | [_, _], _ => rfl
  have g_law_inside := PySem.W.mg_of X G am40
  have F_law_is := fun_mk (st := sIs) lm41 cm41 km41
  have b_law_is := F_law_is.binds (ps := ["_law_state", "_law_sight_here"]) fun _ _ _ _ _ _ us hl => match us, hl with | [_, _], _ => rfl
  have g_law_is := PySem.W.mg_of X G am41
  have F_law_sight := fun_mk (st := sSight) lm42 cm42 km42
  have b_law_sight := F_law_sight.binds (ps := ["_law_box", "_law_house_here", "_law_state"]) fun _ _ _ _ _ _ us hl => match us, hl with | [_, _, _], _ => rfl
  have g_law_sight := PySem.W.mg_of X G am42
  have F_law_hands := fun_mk (st := sHands) lm43 cm43 km43
  have b_law_hands := F_law_hands.binds (ps := ["_law_box", "_law_house_here"]) fun _ _ _ _ _ _ us hl => match us, hl with | [_, _], _ => rfl
  have g_law_hands := PySem.W.mg_of X G am43
  have F_law_story := fun_mk (st := sStory) lm44 cm44 km44
  have b_law_story := F_law_story.binds (ps := ["_law_box", "_law_house_here", "_law_many", "_law_secret"]) fun _ _ _ _ _ _ us hl => match us, hl with | [_, _, _, _], _ => rfl
  have g_law_story := PySem.W.mg_of X G am44
  have F_law_behind := fun_mk (st := sBeh) lm45 cm45 km45
  have b_law_behind := F_law_behind.binds (ps := ["_law_states", "_law_row"]) fun _ _ _ _ _ _ us hl => match us, hl with | [_, _], _ => rfl
  have g_law_behind := PySem.W.mg_of X G am45
  have F_law_error := fun_mk (st := sErr) lm46 cm46 km46
  have b_law_error := F_law_error.binds (ps := ["_law_work"]) fun _ _ _ _ _ _ us hl => match us, hl with | [_], _ => rfl
  have g_law_error := PySem.W.mg_of X G am46
  have F_law_known := fun_mk (st := sKnown) lm47 cm47 km47
  have b_law_known := F_law_known.binds (ps := ["_law_house_here", "_law_deed"]) fun _ _ _ _ _ _ us hl => match us, hl with | [_, _], _ => rfl
  have g_law_known := PySem.W.mg_of X G am47
  have F_law_fault := fun_mk (st := sFault) lm48 cm48 km48
  have b_law_fault := F_law_fault.binds (ps := ["_law_house_here", "_law_rows", "_law_course"]) fun _ _ _ _ _ _ us hl => match us, hl with | [_, _, _], _ => rfl
  have g_law_fault := PySem.W.mg_of X G am48
  have Fh0 := fun_mk (st := sInit) lh0 ch0 kh0
  have bh0 := Fh0.binds (ps := ["self", "hands", "boxes", "things", "seals"]) fun _ _ _ _ _ _ us hl => match us, hl with | [_, _, _, _, _], _ => rfl
  have Fh1 := fun_mk (st := sHas) lh1 ch1 kh1
  have bh1 := Fh1.binds (ps := ["self", "item"]) fun _ _ _ _ _ _ us hl => match us, hl with | [_, _], _ => rfl
  have Fhp := fun_mk (st := sItems) lhp chp khp
  have bhp := Fhp.binds (ps := ["self"]) fun _ _ _ _ _ _ us hl => match us, hl with | [_], _ => rfl
  have Fg0 := fun_mk (st := sLInit) lg0 cg0 kg0
  have bg0 := Fg0.binds (ps := ["self", "house", "rows"]) fun _ _ _ _ _ _ us hl => match us, hl with | [_, _, _], _ => rfl
  have Fgp := fun_mk (st := sLGaps) lgp cgp kgp
  have bgp := Fgp.binds (ps := ["self"]) fun _ _ _ _ _ _ us hl => match us, hl with | [_], _ => rfl
  have Fg4 := fun_mk (st := sLAdd) lg4 cg4 kg4
  have bg4 := Fg4.binds (ps := ["self", "rows"]) fun _ _ _ _ _ _ us hl => match us, hl with | [_, _], _ => rfl
  have Mh : Mk K _ fh0 := ⟨hmk, ah0, ih0, hkc⟩
  have Mg : Mk K _ fg0 := ⟨gmk, ag0, ig0, gkc⟩
  have z_isinstance := PySem.W.mg_none_of X G zisinstance
  have z_int := PySem.W.mg_none_of X G zint
  have z_bool := PySem.W.mg_none_of X G zbool
  have z_len := PySem.W.mg_none_of X G zlen
  have z_enumerate := PySem.W.mg_none_of X G zenumerate
  have z_tuple := PySem.W.mg_none_of X G ztuple
  have z_list := PySem.W.mg_none_of X G zlist
  have z_range := PySem.W.mg_none_of X G zrange
  have z_str := PySem.W.mg_none_of X G zstr
  have z_super := PySem.W.mg_none_of X G zsuper
  have z_sorted := PySem.W.mg_none_of X G zsorted
  have z_dict := PySem.W.mg_none_of X G zdict
  have z_ValueError := PySem.W.mg_none_of X G zValueError
  obtain ⟨ce, hce⟩ : ∃ ce, ce = ce12 CInvalidHands CInvalidLog CInvalidCourse CUnknownHand CUnknownItem CUnknownBox CUnknownSeal CInsideItself CNotHeld CIsSealed CNotSealed CNotInside := ⟨_, rfl⟩
  have vInvalidHands : ce "InvalidHands" = CInvalidHands := by rw [hce]; exact ce12_InvalidHands CInvalidHands CInvalidLog CInvalidCourse CUnknownHand CUnknownItem CUnknownBox CUnknownSeal CInsideItself CNotHeld CIsSealed CNotSealed CNotInside
  have vInvalidLog : ce "InvalidLog" = CInvalidLog := by rw [hce]; exact ce12_InvalidLog CInvalidHands CInvalidLog CInvalidCourse CUnknownHand CUnknownItem CUnknownBox CUnknownSeal CInsideItself CNotHeld CIsSealed CNotSealed CNotInside
  have vInvalidCourse : ce "InvalidCourse" = CInvalidCourse := by rw [hce]; exact ce12_InvalidCourse CInvalidHands CInvalidLog CInvalidCourse CUnknownHand CUnknownItem CUnknownBox CUnknownSeal CInsideItself CNotHeld CIsSealed CNotSealed CNotInside
  have vUnknownHand : ce "UnknownHand" = CUnknownHand := by rw [hce]; exact ce12_UnknownHand CInvalidHands CInvalidLog CInvalidCourse CUnknownHand CUnknownItem CUnknownBox CUnknownSeal CInsideItself CNotHeld CIsSealed CNotSealed CNotInside
  have vUnknownItem : ce "UnknownItem" = CUnknownItem := by rw [hce]; exact ce12_UnknownItem CInvalidHands CInvalidLog CInvalidCourse CUnknownHand CUnknownItem CUnknownBox CUnknownSeal CInsideItself CNotHeld CIsSealed CNotSealed CNotInside
  have vUnknownBox : ce "UnknownBox" = CUnknownBox := by rw [hce]; exact ce12_UnknownBox CInvalidHands CInvalidLog CInvalidCourse CUnknownHand CUnknownItem CUnknownBox CUnknownSeal CInsideItself CNotHeld CIsSealed CNotSealed CNotInside
  have vUnknownSeal : ce "UnknownSeal" = CUnknownSeal := by rw [hce]; exact ce12_UnknownSeal CInvalidHands CInvalidLog CInvalidCourse CUnknownHand CUnknownItem CUnknownBox CUnknownSeal CInsideItself CNotHeld CIsSealed CNotSealed CNotInside
  have vInsideItself : ce "InsideItself" = CInsideItself := by rw [hce]; exact ce12_InsideItself CInvalidHands CInvalidLog CInvalidCourse CUnknownHand CUnknownItem CUnknownBox CUnknownSeal CInsideItself CNotHeld CIsSealed CNotSealed CNotInside
  have vNotHeld : ce "NotHeld" = CNotHeld := by rw [hce]; exact ce12_NotHeld CInvalidHands CInvalidLog CInvalidCourse CUnknownHand CUnknownItem CUnknownBox CUnknownSeal CInsideItself CNotHeld CIsSealed CNotSealed CNotInside
  have vIsSealed : ce "IsSealed" = CIsSealed := by rw [hce]; exact ce12_IsSealed CInvalidHands CInvalidLog CInvalidCourse CUnknownHand CUnknownItem CUnknownBox CUnknownSeal CInsideItself CNotHeld CIsSealed CNotSealed CNotInside
  have vNotSealed : ce "NotSealed" = CNotSealed := by rw [hce]; exact ce12_NotSealed CInvalidHands CInvalidLog CInvalidCourse CUnknownHand CUnknownItem CUnknownBox CUnknownSeal CInsideItself CNotHeld CIsSealed CNotSealed CNotInside
  have vNotInside : ce "NotInside" = CNotInside := by rw [hce]; exact ce12_NotInside CInvalidHands CInvalidLog CInvalidCourse CUnknownHand CUnknownItem CUnknownBox CUnknownSeal CInsideItself CNotHeld CIsSealed CNotSealed CNotInside
  clear hce
  have P2InvalidCourse : PErr K mg "InvalidCourse" (ce "InvalidCourse") := by rw [vInvalidCourse]; exact PInvalidCourse
  have P2UnknownHand : PErr K mg "UnknownHand" (ce "UnknownHand") := by rw [vUnknownHand]; exact PUnknownHand
  have P2UnknownItem : PErr K mg "UnknownItem" (ce "UnknownItem") := by rw [vUnknownItem]; exact PUnknownItem
  have P2UnknownBox : PErr K mg "UnknownBox" (ce "UnknownBox") := by rw [vUnknownBox]; exact PUnknownBox
  have P2UnknownSeal : PErr K mg "UnknownSeal" (ce "UnknownSeal") := by rw [vUnknownSeal]; exact PUnknownSeal
  have P2InsideItself : PErr K mg "InsideItself" (ce "InsideItself") := by rw [vInsideItself]; exact PInsideItself
  have P2NotHeld : PErr K mg "NotHeld" (ce "NotHeld") := by rw [vNotHeld]; exact PNotHeld
  have P2IsSealed : PErr K mg "IsSealed" (ce "IsSealed") := by rw [vIsSealed]; exact PIsSealed
  have P2NotSealed : PErr K mg "NotSealed" (ce "NotSealed") := by rw [vNotSealed]; exact PNotSealed
  have P2NotInside : PErr K mg "NotInside" (ce "NotInside") := by rw [vNotInside]; exact PNotInside
  have wInvalidHands : PySem.W.exmOne K (.ref (ce "InvalidHands")) (.ref CT) = some true := by rw [vInvalidHands]; exact PySem.W.exm_ref wbe wcl wty ewsuInvalidHands
  have wInvalidLog : PySem.W.exmOne K (.ref (ce "InvalidLog")) (.ref CT) = some true := by rw [vInvalidLog]; exact PySem.W.exm_ref wbe wcl wty ewsuInvalidLog
  have wInvalidCourse : PySem.W.exmOne K (.ref (ce "InvalidCourse")) (.ref CT) = some true := by rw [vInvalidCourse]; exact PySem.W.exm_ref wbe wcl wty ewsuInvalidCourse
  have wUnknownHand : PySem.W.exmOne K (.ref (ce "UnknownHand")) (.ref CT) = some true := by rw [vUnknownHand]; exact PySem.W.exm_ref wbe wcl wty ewsuUnknownHand
  have wUnknownItem : PySem.W.exmOne K (.ref (ce "UnknownItem")) (.ref CT) = some true := by rw [vUnknownItem]; exact PySem.W.exm_ref wbe wcl wty ewsuUnknownItem
  have wUnknownBox : PySem.W.exmOne K (.ref (ce "UnknownBox")) (.ref CT) = some true := by rw [vUnknownBox]; exact PySem.W.exm_ref wbe wcl wty ewsuUnknownBox
  have wUnknownSeal : PySem.W.exmOne K (.ref (ce "UnknownSeal")) (.ref CT) = some true := by rw [vUnknownSeal]; exact PySem.W.exm_ref wbe wcl wty ewsuUnknownSeal
  have wInsideItself : PySem.W.exmOne K (.ref (ce "InsideItself")) (.ref CT) = some true := by rw [vInsideItself]; exact PySem.W.exm_ref wbe wcl wty ewsuInsideItself
  have wNotHeld : PySem.W.exmOne K (.ref (ce "NotHeld")) (.ref CT) = some true := by rw [vNotHeld]; exact PySem.W.exm_ref wbe wcl wty ewsuNotHeld
  have wIsSealed : PySem.W.exmOne K (.ref (ce "IsSealed")) (.ref CT) = some true := by rw [vIsSealed]; exact PySem.W.exm_ref wbe wcl wty ewsuIsSealed
  have wNotSealed : PySem.W.exmOne K (.ref (ce "NotSealed")) (.ref CT) = some true := by rw [vNotSealed]; exact PySem.W.exm_ref wbe wcl wty ewsuNotSealed
  have wNotInside : PySem.W.exmOne K (.ref (ce "NotInside")) (.ref CT) = some true := by rw [vNotInside]; exact PySem.W.exm_ref wbe wcl wty ewsuNotInside
  have Ct : Caught K ce (ce "InvalidHands") CT := ⟨wInvalidHands, by
    rintro z (rfl | rfl | rfl | rfl | rfl)
    · exact wUnknownHand
    · exact wUnknownItem
    · exact wUnknownBox
    · exact wUnknownSeal
    · exact wInsideItself⟩
  have Cb : CaughtB K ce CT := ⟨by
    rintro z (rfl | rfl | rfl | rfl)
    · exact wNotHeld
    · exact wIsSealed
    · exact wNotSealed
    · exact wNotInside⟩
  have B : Bt mg := ⟨z_isinstance, z_int, z_bool, z_len, z_enumerate, z_tuple, z_list, z_range, z_str⟩
  have Zc : Cs mg := ⟨⟨_, v_MOST_HANDS⟩, ⟨_, v_MOST_BOXES⟩, ⟨_, v_MOST_THINGS⟩, ⟨_, v_MOST_SEALS⟩⟩
  have hc : HouseC K C := ⟨clh, hn_hands, hn_boxes, hn_things, hn_seals, hn_state⟩
  have LC : LogC K CL := ⟨clg, gn_house, gn_rows⟩
  have gT := PySem.W.mg_of X G aCT
  have JInvalidCourse : ErrJ K mg CInvalidCourse CT 1 := ⟨⟨egaInvalidCourse, eggInvalidCourse, esbInvalidCourse, ehdInvalidCourse, ehaInvalidCourse, chn, cht, ehmInvalidCourse⟩, ⟨egaInvalidCourse, eggInvalidCourse, esbInvalidCourse, ehdInvalidCourse⟩, enPInvalidCourse, enIInvalidCourse, gT, PySem.W.exm_ref wbe wcl wty ewsuInvalidCourse, z_ValueError, ekveInvalidCourse, ⟨_, PySem.W.mg_of X G nInsideItself, qInvalidCourse_InsideItself⟩, ⟨_, PySem.W.mg_of X G nInvalidCourse, qInvalidCourse_InvalidCourse⟩, ⟨_, PySem.W.mg_of X G nInvalidHands, qInvalidCourse_InvalidHands⟩, ⟨_, PySem.W.mg_of X G nInvalidHouse, qInvalidCourse_InvalidHouse⟩, ⟨_, PySem.W.mg_of X G nInvalidLog, qInvalidCourse_InvalidLog⟩, ⟨_, PySem.W.mg_of X G nInvalidNumber, qInvalidCourse_InvalidNumber⟩, ⟨_, PySem.W.mg_of X G nIsSealed, qInvalidCourse_IsSealed⟩, ⟨_, PySem.W.mg_of X G nNoCourse, qInvalidCourse_NoCourse⟩, ⟨_, PySem.W.mg_of X G nNotHeld, qInvalidCourse_NotHeld⟩, ⟨_, PySem.W.mg_of X G nNotInside, qInvalidCourse_NotInside⟩, ⟨_, PySem.W.mg_of X G nNotSealed, qInvalidCourse_NotSealed⟩, ⟨_, PySem.W.mg_of X G nUnknownBox, qInvalidCourse_UnknownBox⟩, ⟨_, PySem.W.mg_of X G nUnknownHand, qInvalidCourse_UnknownHand⟩, ⟨_, PySem.W.mg_of X G nUnknownItem, qInvalidCourse_UnknownItem⟩, ⟨_, PySem.W.mg_of X G nUnknownSeal, qInvalidCourse_UnknownSeal⟩⟩
  have knC : Known K mg ce CT "InvalidCourse" := ⟨1, by rw [vInvalidCourse]; exact JInvalidCourse, by decide, ⟨by decide, by decide, by decide⟩, by decide +kernel⟩
  have Wd : WordsF K mg aD_ := ⟨PySem.W.mg_of X G dA, fun _ => .inr ⟨_, itD, nD, dL, rfl, rfl, dS, dV⟩⟩
  have PT : PartsF K w mg aP := ⟨fun k => by
    cases k
    · exact ⟨esP, nP_, _, pL, pK, p0, ⟨tp0, rfl⟩⟩
    · exact ⟨esP, nP_, _, pL, pK, p1, ⟨tp1, rfl⟩⟩
    · exact ⟨esP, nP_, _, pL, pK, p2, ⟨tp2, rfl⟩⟩, PySem.W.mg_of X G pA⟩
  refine ⟨PySem.W.fnOf "law" "law" (defArgs sLaw) (defBody sLaw) (defScope sLaw) .none kVL dcL pmL anL (.ref cd) ctL, [(cd, tb)], spLaw K tb, fun p hp => by rw [List.mem_singleton.mp hp]; exact hT, fun p hp => by rw [List.mem_singleton.mp hp]; exact ntb, fun p hp => by rw [List.mem_singleton.mp hp]; exact PySem.W.codeHd_of_K X hcd, fun s v => .of_eq rfl, fun H a ns hl _ hTb hS => ⟨a, ns, rfl, hTb (cd, tb) List.mem_cons_self, hS, hl, fun _ => rfl⟩, fun base hb hg hTB => ?_⟩
  have TB : LamX.TabB base mg cd tb := hTB (cd, tb) List.mem_cons_self
  have TInvalidHands2 : ExcX l.prog K mg "InvalidHands" "InvalidHands.__init__" sIHands (ce "InvalidHands") fIInvalidHands (PySem.W.ksFn "__init__" "InvalidHands.__init__" (defArgs sIHands) (defBody sIHands) (defScope sIHands) .none kVIInvalidHands dcIInvalidHands pmIInvalidHands anIInvalidHands (.ref cdaInvalidHands) ctIInvalidHands ccInvalidHands) := by rw [vInvalidHands]; exact TInvalidHands
  have TInvalidLog2 : ExcX l.prog K mg "InvalidLog" "InvalidLog.__init__" sILog (ce "InvalidLog") fIInvalidLog (PySem.W.ksFn "__init__" "InvalidLog.__init__" (defArgs sILog) (defBody sILog) (defScope sILog) .none kVIInvalidLog dcIInvalidLog pmIInvalidLog anIInvalidLog (.ref cdaInvalidLog) ctIInvalidLog ccInvalidLog) := by rw [vInvalidLog]; exact TInvalidLog
  have xnInvalidHands : PySem.W.findIn K (.ref (ce "InvalidHands")) "index" = some none := by rw [vInvalidHands]; exact xnIInvalidHands
  have xnInvalidLog : PySem.W.findIn K (.ref (ce "InvalidLog")) "index" = some none := by rw [vInvalidLog]; exact xnIInvalidLog
  have GN : FnOk l.prog w K mg base CX0 1 fm0 (PySem.W.fnOf "is_number" "is_number" (defArgs sNum) (defBody sNum) (defScope sNum) .none kVm0 dcm0 pmm0 anm0 cdm0 ctm0) ["value", "limit"] (spNum) := ok_num Fis_number B
  have GM : FnOk l.prog w K mg base CX0 1 fm1 (PySem.W.fnOf "how_many" "how_many" (defArgs sMany) (defBody sMany) (defScope sMany) .none kVm1 dcm1 pmm1 anm1 cdm1 ctm1) ["house", "word"] (spMany K C) := ok_many Fhow_many B hc
  have GP : FnOk l.prog w K mg base CX0 2 fm2 (PySem.W.fnOf "is_place" "is_place" (defArgs sIsPl) (defBody sIsPl) (defScope sIsPl) .none kVm2 dcm2 pmm2 anm2 cdm2 ctm2) ["place", "hands", "boxes"] (spIsPl K) := ok_ispl Fis_place Fis_number B gis_number bis_number
  have GI0 : FnOk l.prog w K mg base CX0 1 fIInvalidHouse _ ["self", "part", "index"] (spIH CInvalidHouse) := ok_ih TInvalidHouse xnPInvalidHouse xnIInvalidHouse
  have GIHa : FnOk l.prog w K mg base CX0 1 fIInvalidHands _ ["self", "index"] (spIx (ce "InvalidHands")) := ok_ihands TInvalidHands2 xnInvalidHands
  have GB := ok_boxes (P := l.prog) (w := w) (mg := mg) (base := base) Fneed_boxes B Zc GP gis_place Fis_place.kp bis_place TInvalidHouse GI0
  have GNH := ok_need (P := l.prog) (w := w) (mg := mg) (base := base) Fneed_house B Zc GP gis_place Fis_place.kp bis_place GN gis_number Fis_number.kp bis_number GB gneed_boxes Fneed_boxes.kp bneed_boxes TInvalidHouse GI0
  have GH := ok_house (P := l.prog) (w := w) (mg := mg) (base := base) Fh0 B hc GNH gneed_house Fneed_house.kp bneed_house
  have GT : FnOk l.prog w K mg base CX0 1 fm31 (PySem.W.fnOf "_law_take" "_law_take" (defArgs sTake) (defBody sTake) (defScope sTake) .none kVm31 dcm31 pmm31 anm31 cdm31 ctm31) ["_law_box", "_law_many"] (spTake) := ok_take F_law_take B
  have GPL := ok_places (P := l.prog) (w := w) (mg := mg) (base := base) F_law_places GT g_law_take F_law_take.kp b_law_take
  have GLH := ok_lhouse (P := l.prog) (w := w) (mg := mg) (base := base) F_law_house B GT g_law_take F_law_take.kp b_law_take GPL g_law_places F_law_places.kp b_law_places Mh GH gh bh0
  have GHa := ok_has (P := l.prog) (w := w) (mg := mg) (base := base) Fh1 B GM ghow_many Fhow_many.kp bhow_many GN gis_number Fis_number.kp bis_number
  have GBe : FnOk l.prog w K mg base CX0 1 fm30 (PySem.W.fnOf "_law_begun" "_law_begun" (defArgs sBegun) (defBody sBegun) (defScope sBegun) .none kVm30 dcm30 pmm30 anm30 cdm30 ctm30) ["_law_script"] (spBegun K) := ok_begun F_law_begun B
  have GWh : FnOk l.prog w K mg base CX0 1 fm35 (PySem.W.fnOf "_law_where" "_law_where" (defArgs sWhere) (defBody sWhere) (defScope sWhere) .none kVm35 dcm35 pmm35 anm35 cdm35 ctm35) ["_law_state", "_law_item"] (spWhere K) := ok_where F_law_where B
  have GSe : FnOk l.prog w K mg base CX0 1 fm36 (PySem.W.fnOf "_law_set" "_law_set" (defArgs sSet) (defBody sSet) (defScope sSet) .none kVm36 dcm36 pmm36 anm36 cdm36 ctm36) ["_law_state", "_law_item", "_law_place"] (spSet K) := ok_set F_law_set B
  have GBa := ok_bar (P := l.prog) (w := w) (mg := mg) (base := base) F_law_bar B GWh g_law_where F_law_where.kp b_law_where
  have GNx := ok_next (P := l.prog) (w := w) (mg := mg) (base := base) F_law_next B GSe g_law_set F_law_set.kp b_law_set
  have GDs := ok_deedsXL (P := l.prog) (w := w) (mg := mg) (base := base) F_law_deeds B z_sorted GBa g_law_bar F_law_bar.kp b_law_bar
  have GDt := ok_deedsXT (P := l.prog) (w := w) (mg := mg) (base := base) F_law_deeds B z_sorted GBa g_law_bar F_law_bar.kp b_law_bar
  have NF : NumF l.prog w K mg base fm0 _ := ⟨GN, gis_number, Fis_number.kp, bis_number⟩
  have HF : HasF l.prog w K mg base C fh1 _ := ⟨GHa, ah1, ih1, bh1⟩
  have G1 := ok_nhand (P := l.prog) (w := w) (mg := mg) (base := base) Fneed_hand hc NF P2UnknownHand
  have G2 := ok_nitem (P := l.prog) (w := w) (mg := mg) (base := base) Fneed_item HF P2UnknownItem
  have G3 := ok_nload (P := l.prog) (w := w) (mg := mg) (base := base) Fneed_load HF P2UnknownItem
  have G4 := ok_nbox (P := l.prog) (w := w) (mg := mg) (base := base) Fneed_box B hc NF P2UnknownBox
  have G5 := ok_nseal (P := l.prog) (w := w) (mg := mg) (base := base) Fneed_seal B hc NF P2UnknownSeal
  have Q3 : NLoadF l.prog w K mg base C (ce "UnknownItem") fm7 _ := ⟨G3, gneed_load, Fneed_load.kp, bneed_load⟩
  have Q4 : NBoxF l.prog w K mg base C (ce "UnknownBox") fm8 _ := ⟨G4, gneed_box, Fneed_box.kp, bneed_box⟩
  have Q2 : NItemF l.prog w K mg base C (ce "UnknownItem") fm6 _ := ⟨G2, gneed_item, Fneed_item.kp, bneed_item⟩
  have Q1 : NHandF l.prog w K mg base C (ce "UnknownHand") fm5 _ := ⟨G1, gneed_hand, Fneed_hand.kp, bneed_hand⟩
  have Q5 : NSealF l.prog w K mg base C (ce "UnknownSeal") fm9 _ := ⟨G5, gneed_seal, Fneed_seal.kp, bneed_seal⟩
  have GPc := ok_nplace (P := l.prog) (w := w) (mg := mg) (base := base) Fneed_place Q1 Q4
  have OPc : OnceX l.prog w K mg base "need_place" 3 ["house", "place"] (spNPlace K C ce) fm10 _ := ⟨GPc, gneed_place, Fneed_place.kp, bneed_place⟩
  have GLs := ok_nloads (P := l.prog) (w := w) (mg := mg) (base := base) Fneed_loads B Q3 P2UnknownItem
  have OLs : OnceX l.prog w K mg base "need_loads" 4 ["house", "items"] (spNLoads K C (ce "UnknownItem")) fm12 _ := ⟨GLs, gneed_loads, Fneed_loads.kp, bneed_loads⟩
  have GMv0 := ok_nmove (P := l.prog) (w := w) (mg := mg) (base := base) Fneed_move Q3 Q4 P2InsideItself
  have QM : NMoveF l.prog w K mg base C ce fm13 _ := ⟨GMv0, gneed_move, Fneed_move.kp, bneed_move⟩
  have GDd := ok_ndeed (P := l.prog) (w := w) (mg := mg) (base := base) Fneed_deed Q2 Q1 QM Q4 Q5 P2UnknownHand
  have ODd : OnceX l.prog w K mg base "need_deed" 5 ["house", "deed"] (spNDeed K C ce) fm14 _ := ⟨GDd, gneed_deed, Fneed_deed.kp, bneed_deed⟩
  have GSi := ok_nsight (P := l.prog) (w := w) (mg := mg) (base := base) Fneed_sight gneed_sight bneed_sight Q2 OPc Q4 OLs Q5 2
  have OSi : OnceX l.prog w K mg base "need_sight" 6 ["house", "sight"] (spNSight K C ce 2) fm11 _ := ⟨GSi, gneed_sight, Fneed_sight.kp, bneed_sight⟩
  have GNs := ok_nhands (P := l.prog) (w := w) (mg := mg) (base := base) Fneed_hands B hc NF TInvalidHands2 GIHa
  have ONs : OnceX l.prog w K mg base "need_hands" 3 ["house", "hands"] (spNHands K C (ce "InvalidHands")) fm15 _ := ⟨GNs, gneed_hands, Fneed_hands.kp, bneed_hands⟩
  have GRw := ok_nrow (P := l.prog) (w := w) (mg := mg) (base := base) Fneed_row Wd ONs ODd OSi
  have ORw : OnceX l.prog w K mg base "need_row" 7 ["house", "row"] (spNRow K C (ce "InvalidHands") ce) fm16 _ := ⟨GRw, gneed_row, Fneed_row.kp, bneed_row⟩
  have GRs := ok_nrows (tm := 0) (P := l.prog) (w := w) (mg := mg) (base := base) Fneed_rows B ORw v_MOST_ROWS gT Ct TInvalidLog2 xnInvalidLog
  have ORs : OnceY l.prog w K mg base "need_rows" 8 ["house", "rows"] (spNRows K C (ce "InvalidLog")) fm17 _ := ⟨GRs, gneed_rows, Fneed_rows.kp, bneed_rows⟩
  have GLI := ok_linit (P := l.prog) (w := w) (mg := mg) (base := base) Fg0 B LC ORs
  have LM : LMk l.prog w K mg base C CL (ce "InvalidLog") fg0 _ := ⟨Mg, GLI, gg, bg0⟩
  have GIt : FnOk l.prog w K mg base CX0 1 fhp _ ["self"] (spItemsA K C) := ok_itemsA Fhp B hc
  have ITF : ItF l.prog w K mg base C php fhp _ := ⟨⟨ppahp, ppghp, ppthp, ⟨rhp, ahp⟩⟩, GIt, bhp⟩
  have OT : OnceF l.prog w K mg base "_law_take" 1 ["_law_box", "_law_many"] (spTake) fm31 _ := ⟨GT, g_law_take, F_law_take.kp, b_law_take⟩
  have OP : OnceF l.prog w K mg base "_law_places" 2 ["_law_box", "_law_hands_here", "_law_many"] (spPlaces K) fm33 _ := ⟨GPL, g_law_places, F_law_places.kp, b_law_places⟩
  have OW : OnceF l.prog w K mg base "_law_where" 1 ["_law_state", "_law_item"] (spWhere K) fm35 _ := ⟨GWh, g_law_where, F_law_where.kp, b_law_where⟩
  have GOIn : FnOk l.prog w K mg base CX0 1 fm40 (PySem.W.fnOf "_law_inside" "_law_inside" (defArgs sInside) (defBody sInside) (defScope sInside) .none kVm40 dcm40 pmm40 anm40 cdm40 ctm40) ["_law_state", "_law_box"] (spInside K) := ok_inside F_law_inside B
  have OIn : OnceF l.prog w K mg base "_law_inside" 1 ["_law_state", "_law_box"] (spInside K) fm40 _ := ⟨GOIn, g_law_inside, F_law_inside.kp, b_law_inside⟩
  have GIs := ok_is (P := l.prog) (w := w) (mg := mg) (base := base) F_law_is g_law_is b_law_is GWh g_law_where F_law_where.kp b_law_where GOIn g_law_inside F_law_inside.kp b_law_inside 2
  have OIs : OnceF l.prog w K mg base "_law_is" 3 ["_law_state", "_law_sight_here"] (spIs K 2) fm41 _ := ⟨GIs, g_law_is, F_law_is.kp, b_law_is⟩
  have GSg := ok_sight (P := l.prog) (w := w) (mg := mg) (base := base) F_law_sight B hc OT OP OW OIn ITF
  have OSg : OnceF l.prog w K mg base "_law_sight" 3 ["_law_box", "_law_house_here", "_law_state"] (spSight K C) fm42 _ := ⟨GSg, g_law_sight, F_law_sight.kp, b_law_sight⟩
  have GHs := ok_hands (P := l.prog) (w := w) (mg := mg) (base := base) F_law_hands B hc OT
  have OHs : OnceF l.prog w K mg base "_law_hands" 2 ["_law_box", "_law_house_here"] (spHands K C) fm43 _ := ⟨GHs, g_law_hands, F_law_hands.kp, b_law_hands⟩
  have OD : OnceF l.prog w K mg base "_law_deeds" 3 ["_law_state", "_law_hands_here"] (spDeedsXL K) fm39 _ := ⟨GDs, g_law_deeds, F_law_deeds.kp, b_law_deeds⟩
  have ODt : OnceF l.prog w K mg base "_law_deeds" 3 ["_law_state", "_law_hands_here"] (spDeedsXT K) fm39 _ := ⟨GDt, g_law_deeds, F_law_deeds.kp, b_law_deeds⟩
  have ON : OnceF l.prog w K mg base "_law_next" 2 ["_law_state", "_law_deed"] (spNext K) fm38 _ := ⟨GNx, g_law_next, F_law_next.kp, b_law_next⟩
  have OBa : OnceF l.prog w K mg base "_law_bar" 2 ["_law_state", "_law_deed"] (spBar K) fm37 _ := ⟨GBa, g_law_bar, F_law_bar.kp, b_law_bar⟩
  have GSt := ok_storyX (P := l.prog) (w := w) (mg := mg) (base := base) F_law_story B hc OT OD ODt ON OHs OSg OIs
  have OSt : OnceF l.prog w K mg base "_law_story" 4 ["_law_box", "_law_house_here", "_law_many", "_law_secret"] (spStX K C) fm44 _ := ⟨GSt, g_law_story, F_law_story.kp, b_law_story⟩
  have OLH : OnceF l.prog w K mg base "_law_house" 7 ["_law_box", "_law_sizes"] (spLHouse K C) fm34 _ := ⟨GLH, g_law_house, F_law_house.kp, b_law_house⟩
  have GAl := ok_alike (P := l.prog) (w := w) (mg := mg) (base := base) F_law_alike B g_law_alike b_law_alike 8
  have OAl : OnceF l.prog w K mg base "_law_alike" 8 ["_law_found", "_law_due"] (spAlike K 8) fm32 _ := ⟨GAl, g_law_alike, F_law_alike.kp, b_law_alike⟩
  have OBe : OnceF l.prog w K mg base "_law_begun" 1 ["_law_script"] (spBegun K) fm30 _ := ⟨GBe, g_law_begun, F_law_begun.kp, b_law_begun⟩
  have G6 : FnOk l.prog w K mg base CX0 1 fm18 (PySem.W.fnOf "place_in" "place_in" (defArgs sPlace) (defBody sPlace) (defScope sPlace) .none kVm18 dcm18 pmm18 anm18 cdm18 ctm18) ["state", "item"] (spWhere K) := ok_place Fplace_in PT
  have G7 : FnOk l.prog w K mg base CX0 1 fm19 (PySem.W.fnOf "with_place" "with_place" (defArgs sWith) (defBody sWith) (defScope sWith) .none kVm19 dcm19 pmm19 anm19 cdm19 ctm19) ["state", "item", "place"] (spWith K) := ok_with Fwith_place PT
  have G8 : FnOk l.prog w K mg base CX0 1 fm20 (PySem.W.fnOf "seal_on" "seal_on" (defArgs sOn) (defBody sOn) (defScope sOn) .none kVm20 dcm20 pmm20 anm20 cdm20 ctm20) ["state", "box"] (spOn K) := ok_on Fseal_on B
  have Q6 : PlF l.prog w K mg base fm18 _ := ⟨G6, gplace_in, Fplace_in.kp, bplace_in⟩
  have Q7 : WithF l.prog w K mg base fm19 _ := ⟨G7, gwith_place, Fwith_place.kp, bwith_place⟩
  have Q8 : OnF l.prog w K mg base fm20 _ := ⟨G8, gseal_on, Fseal_on.kp, bseal_on⟩
  have G9 := ok_held (P := l.prog) (w := w) (mg := mg) (base := base) Fneed_held Q6 P2NotHeld
  have Q9 : HeldF l.prog w K mg base (ce "NotHeld") fm24 _ := ⟨G9, gneed_held, Fneed_held.kp, bneed_held⟩
  have G10 := ok_bare (P := l.prog) (w := w) (mg := mg) (base := base) Fneed_bare Q9 Q8 P2IsSealed
  have Q10 : BareF l.prog w K mg base (ce "NotHeld") (ce "IsSealed") fm25 _ := ⟨G10, gneed_bare, Fneed_bare.kp, bneed_bare⟩
  have G11 := ok_break (P := l.prog) (w := w) (mg := mg) (base := base) Fstate_behind_break Q9 Q8 Q7 P2NotSealed
  have Q11 : BreakF l.prog w K mg base (ce "NotHeld") (ce "NotSealed") fm23 _ := ⟨G11, gstate_behind_break, Fstate_behind_break.kp, bstate_behind_break⟩
  have G12 := ok_behind (P := l.prog) (w := w) (mg := mg) (base := base) (ce := ce) Fstate_behind Q9 Q10 Q7 Q6 Q11 P2NotInside
  have OSB : OnceY l.prog w K mg base "state_behind" 4 ["state", "deed"] (spBehind K ce) fm22 _ := ⟨G12, gstate_behind, Fstate_behind.kp, bstate_behind⟩
  have GOLd : FnOk l.prog w K mg base CX0 1 fm21 (PySem.W.fnOf "loads_at" "loads_at" (defArgs sLoads) (defBody sLoads) (defScope sLoads) .none kVm21 dcm21 pmm21 anm21 cdm21 ctm21) ["state", "place"] (spLoads K) := ok_loads Floads_at B
  have OLd : OnceF l.prog w K mg base "loads_at" 1 ["state", "place"] (spLoads K) fm21 _ := ⟨GOLd, gloads_at, Floads_at.kp, bloads_at⟩
  have GTr := ok_true (P := l.prog) (w := w) (mg := mg) (base := base) Fis_true B gis_true bis_true Q6 Q8 OLd 2
  have OTr : OnceF l.prog w K mg base "is_true" 3 ["state", "sight"] (spIs K 2) fm26 _ := ⟨GTr, gis_true, Fis_true.kp, bis_true⟩
  have ODY : OnceY l.prog w K mg base "need_deed" 5 ["house", "deed"] (spNDeed K C ce) fm14 _ := ⟨weakN GDd, gneed_deed, Fneed_deed.kp, bneed_deed⟩
  have GSR := ok_sr (P := l.prog) (w := w) (mg := mg) (base := base) Fstate_behind_row Wd gT Ct Cb OTr ODY OSB
  have OSR : OnceF l.prog w K mg base "state_behind_row" 6 ["house", "state", "row"] (spSR K C) fm29 _ := ⟨GSR, gstate_behind_row, Fstate_behind_row.kp, bstate_behind_row⟩
  have GSS := ok_ss (P := l.prog) (w := w) (mg := mg) (base := base) Fstate_behind_secret Wd OSR
  have OSS : OnceF l.prog w K mg base "state_behind_secret" 7 ["house", "state", "hands", "deed"] (spSS K C) fm28 _ := ⟨GSS, gstate_behind_secret, Fstate_behind_secret.kp, bstate_behind_secret⟩
  have GGp := ok_lgaps (P := l.prog) (w := w) (mg := mg) (base := base) (C := C) Fgp B LC
  have GFF := ok_ff (P := l.prog) (w := w) (mg := mg) (base := base) Ffirst_fault B hc LC P2InvalidCourse OSR OSS ⟨ppagp, ppggp, pptgp, ⟨rgp, agp⟩⟩ GGp bgp
  have OFF : OnceY l.prog w K mg base "first_fault" 8 ["log", "course"] (spFF K C CL (ce "InvalidCourse")) fm27 _ := ⟨GFF, gfirst_fault, Ffirst_fault.kp, bfirst_fault⟩
  have GAd := ok_ladd (P := l.prog) (w := w) (mg := mg) (base := base) Fg4 B LC LM
  have LA : LAddF l.prog w K mg base C CL (ce "InvalidLog") fg4 _ := ⟨GAd, ⟨adf, ag4, ig4, ⟨_, adl, adq⟩, adr⟩, bg4⟩
  have GKn := ok_known (P := l.prog) (w := w) (mg := mg) (base := base) F_law_known B hc HF
  have OKn : OnceF l.prog w K mg base "_law_known" 3 ["_law_house_here", "_law_deed"] (spKnB K C) fm47 _ := ⟨GKn, g_law_known, F_law_known.kp, b_law_known⟩
  have GBh := ok_beh (P := l.prog) (w := w) (mg := mg) (base := base) F_law_behind z_dict ON OBa OIs
  have OBh : OnceF l.prog w K mg base "_law_behind" 4 ["_law_states", "_law_row"] (spBeh l.prog w K) fm45 _ := ⟨GBh, g_law_behind, F_law_behind.kp, b_law_behind⟩
  have GFt := ok_fault (P := l.prog) (w := w) (mg := mg) (base := base) F_law_fault B hc OKn ODt ON OBh
  have OFt : OnceF l.prog w K mg base "_law_fault" 5 ["_law_house_here", "_law_rows", "_law_course"] (spFlt K C) fm48 _ := ⟨GFt, g_law_fault, F_law_fault.kp, b_law_fault⟩
  have LF : LawF l.prog w K mg base C CL CT ce := { Bg := ⟨_, _, OBe⟩, T := ⟨_, _, OT⟩, A := ⟨_, _, OAl⟩, H := ⟨_, _, OLH⟩, ST := ⟨_, _, OSt⟩, D := ⟨_, _, OD⟩, FT := ⟨_, _, OFt⟩, FF := ⟨_, _, OFF⟩, E := ⟨_, _, F_law_error, g_law_error, b_law_error⟩, wat := gT, knC := knC, hc := hc, LC := LC, M := ⟨_, _, LM⟩, LA := ⟨_, _, LA⟩ }
  exact ok_law LF B TB lL cL
end Kw

set_option Elab.async false
set_option linter.all false
open PySem PySem.W PyProof.Rows
set_option maxRecDepth 100000 in
set_option maxHeartbeats 0 in
theorem PySem.Challenge.cw_sealwatch_k10_whole_courses_judged_holds : PySem.Challenge.rw_sealwatch_k10_whole_courses_judged.Holds := by
  w_on; o_law; k_head; (case hw => w_witness2)
  k_fill
  refine LamX.walk_ofTs (l := PySem.Challenge.rw_sealwatch_k10_whole_courses_judged) (n := 63) (k := 12) (CX := fun _ => L2.CX0) (x := "_law_script") rfl (by decide) rfl ⟨rfl, by decide, by decide⟩ (fun w h Y => PySem.W.km_in_of Y) ?F (fun _ _ _ _ _ z => z)
  case F =>
    intro w mg fa h Y KX G hmg
    refine' Kw.all_mk (tb := 688) KX G hmg ?chn ?cht ?xtp ?xtop ?hC ?hpg ?hhd ?hpo ?hsa ?hmk ?hkc ?hn_hands ?hn_boxes ?hn_things ?hn_seals ?hn_state ?gC ?gpg ?ghd ?gpo ?gsa ?gmk ?gkc ?gn_house ?gn_rows ?aCT ?wbe ?wcl ?wty ?nInvalidHouse ?xLInvalidHouse ?xvInvalidHouse ?xaInvalidHouse ?xsaInvalidHouse ?xexInvalidHouse ?xtyInvalidHouse ?xkcInvalidHouse ?xveInvalidHouse ?xseInvalidHouse ?xnPInvalidHouse ?xnIInvalidHouse ?xiInvalidHouse ?xitInvalidHouse ?xilInvalidHouse ?xicInvalidHouse ?xclInvalidHouse ?xcfInvalidHouse ?xffInvalidHouse ?xccInvalidHouse ?nInvalidHands ?xLInvalidHands ?xvInvalidHands ?xaInvalidHands ?xsaInvalidHands ?xexInvalidHands ?xtyInvalidHands ?xkcInvalidHands ?xveInvalidHands ?xseInvalidHands ?xnPInvalidHands ?xnIInvalidHands ?xiInvalidHands ?xitInvalidHands ?xilInvalidHands ?xicInvalidHands ?xclInvalidHands ?xcfInvalidHands ?xffInvalidHands ?xccInvalidHands ?nInvalidLog ?xLInvalidLog ?xvInvalidLog ?xaInvalidLog ?xsaInvalidLog ?xexInvalidLog ?xtyInvalidLog ?xkcInvalidLog ?xveInvalidLog ?xseInvalidLog ?xnPInvalidLog ?xnIInvalidLog ?xiInvalidLog ?xitInvalidLog ?xilInvalidLog ?xicInvalidLog ?xclInvalidLog ?xcfInvalidLog ?xffInvalidLog ?xccInvalidLog ?nInvalidCourse ?eexInvalidCourse ?ekpInvalidCourse ?esbInvalidCourse ?etyInvalidCourse ?nUnknownHand ?eexUnknownHand ?ekpUnknownHand ?esbUnknownHand ?etyUnknownHand ?nUnknownItem ?eexUnknownItem ?ekpUnknownItem ?esbUnknownItem ?etyUnknownItem ?nUnknownBox ?eexUnknownBox ?ekpUnknownBox ?esbUnknownBox ?etyUnknownBox ?nUnknownSeal ?eexUnknownSeal ?ekpUnknownSeal ?esbUnknownSeal ?etyUnknownSeal ?nInsideItself ?eexInsideItself ?ekpInsideItself ?esbInsideItself ?etyInsideItself ?nNotHeld ?eexNotHeld ?ekpNotHeld ?esbNotHeld ?etyNotHeld ?nIsSealed ?eexIsSealed ?ekpIsSealed ?esbIsSealed ?etyIsSealed ?nNotSealed ?eexNotSealed ?ekpNotSealed ?esbNotSealed ?etyNotSealed ?nNotInside ?eexNotInside ?ekpNotInside ?esbNotInside ?etyNotInside ?ewsuInvalidHands ?ewsuInvalidLog ?ewsuInvalidCourse ?ewsuUnknownHand ?ewsuUnknownItem ?ewsuUnknownBox ?ewsuUnknownSeal ?ewsuInsideItself ?ewsuNotHeld ?ewsuIsSealed ?ewsuNotSealed ?ewsuNotInside ?nInvalidNumber ?nNoCourse ?egaInvalidCourse ?eggInvalidCourse ?ehdInvalidCourse ?ehaInvalidCourse ?ehmInvalidCourse ?enPInvalidCourse ?enIInvalidCourse ?ekveInvalidCourse ?qInvalidCourse_InsideItself ?qInvalidCourse_InvalidCourse ?qInvalidCourse_InvalidHands ?qInvalidCourse_InvalidHouse ?qInvalidCourse_InvalidLog ?qInvalidCourse_InvalidNumber ?qInvalidCourse_IsSealed ?qInvalidCourse_NoCourse ?qInvalidCourse_NotHeld ?qInvalidCourse_NotInside ?qInvalidCourse_NotSealed ?qInvalidCourse_UnknownBox ?qInvalidCourse_UnknownHand ?qInvalidCourse_UnknownItem ?qInvalidCourse_UnknownSeal ?j_MOST_HANDS ?j_MOST_BOXES ?j_MOST_THINGS ?j_MOST_SEALS ?j_MOST_ROWS ?dA ?dL ?dS ?dV ?pA ?pL ?pK ?p0 ?p1 ?p2 ?am0 ?lm0 ?cm0 ?km0 ?am1 ?lm1 ?cm1 ?km1 ?am2 ?lm2 ?cm2 ?km2 ?am3 ?lm3 ?cm3 ?km3 ?am4 ?lm4 ?cm4 ?km4 ?am5 ?lm5 ?cm5 ?km5 ?am6 ?lm6 ?cm6 ?km6 ?am7 ?lm7 ?cm7 ?km7 ?am8 ?lm8 ?cm8 ?km8 ?am9 ?lm9 ?cm9 ?km9 ?am10 ?lm10 ?cm10 ?km10 ?am11 ?lm11 ?cm11 ?km11 ?am12 ?lm12 ?cm12 ?km12 ?am13 ?lm13 ?cm13 ?km13 ?am14 ?lm14 ?cm14 ?km14 ?am15 ?lm15 ?cm15 ?km15 ?am16 ?lm16 ?cm16 ?km16 ?am17 ?lm17 ?cm17 ?km17 ?am18 ?lm18 ?cm18 ?km18 ?am19 ?lm19 ?cm19 ?km19 ?am20 ?lm20 ?cm20 ?km20 ?am21 ?lm21 ?cm21 ?km21 ?am22 ?lm22 ?cm22 ?km22 ?am23 ?lm23 ?cm23 ?km23 ?am24 ?lm24 ?cm24 ?km24 ?am25 ?lm25 ?cm25 ?km25 ?am26 ?lm26 ?cm26 ?km26 ?am27 ?lm27 ?cm27 ?km27 ?am28 ?lm28 ?cm28 ?km28 ?am29 ?lm29 ?cm29 ?km29 ?am30 ?lm30 ?cm30 ?km30 ?am31 ?lm31 ?cm31 ?km31 ?am32 ?lm32 ?cm32 ?km32 ?am33 ?lm33 ?cm33 ?km33 ?am34 ?lm34 ?cm34 ?km34 ?am35 ?lm35 ?cm35 ?km35 ?am36 ?lm36 ?cm36 ?km36 ?am37 ?lm37 ?cm37 ?km37 ?am38 ?lm38 ?cm38 ?km38 ?am39 ?lm39 ?cm39 ?km39 ?am40 ?lm40 ?cm40 ?km40 ?am41 ?lm41 ?cm41 ?km41 ?am42 ?lm42 ?cm42 ?km42 ?am43 ?lm43 ?cm43 ?km43 ?am44 ?lm44 ?cm44 ?km44 ?am45 ?lm45 ?cm45 ?km45 ?am46 ?lm46 ?cm46 ?km46 ?am47 ?lm47 ?cm47 ?km47 ?am48 ?lm48 ?cm48 ?km48 ?ah0 ?lh0 ?ch0 ?kh0 ?ih0 ?ah1 ?lh1 ?ch1 ?kh1 ?ih1 ?ppahp ?ahp ?lhp ?chp ?khp ?ppghp ?ppthp ?ag0 ?lg0 ?cg0 ?kg0 ?ig0 ?ppagp ?agp ?lgp ?cgp ?kgp ?ppggp ?pptgp ?ag4 ?lg4 ?cg4 ?kg4 ?ig4 ?adf ?adl ?adq ?adr ?zisinstance ?zint ?zbool ?zlen ?zenumerate ?ztuple ?zlist ?zrange ?zstr ?zsuper ?zsorted ?zdict ?zValueError ?aL ?lL ?cL ?hcd ?ntb ?hT
    (case chn => k_is)
    (case cht => k_is)
    (case xtp => k_is)
    (case xtop => first | rfl | kernel_rfl | decide +kernel)
    (case hC => k_is)
    (case hpg => k_is)
    (case hhd => k_is)
    (case hpo => k_is)
    (case hsa => k_is)
    (case hmk => k_is)
    (case hkc => k_is)
    (case hn_hands => k_is)
    (case hn_boxes => k_is)
    (case hn_things => k_is)
    (case hn_seals => k_is)
    (case hn_state => k_is)
    (case gC => k_is)
    (case gpg => k_is)
    (case ghd => k_is)
    (case gpo => k_is)
    (case gsa => k_is)
    (case gmk => k_is)
    (case gkc => k_is)
    (case gn_house => k_is)
    (case gn_rows => k_is)
    (case aCT => k_is)
    (case wbe => k_is)
    (case wcl => k_is)
    (case wty => k_is)
    (case nInvalidHouse => k_is)
    (case xLInvalidHouse => k_is)
    (case xvInvalidHouse => first | rfl | kernel_rfl | decide +kernel)
    (case xaInvalidHouse => first | rfl | kernel_rfl | decide +kernel)
    (case xsaInvalidHouse => k_is)
    (case xexInvalidHouse => k_is)
    (case xtyInvalidHouse => k_is)
    (case xkcInvalidHouse => k_is)
    (case xveInvalidHouse => k_is)
    (case xseInvalidHouse => k_is)
    (case xnPInvalidHouse => k_is)
    (case xnIInvalidHouse => k_is)
    (case xiInvalidHouse => k_is)
    (case xitInvalidHouse => k_is)
    (case xilInvalidHouse => k_is)
    (case xicInvalidHouse => k_is)
    (case xclInvalidHouse => k_is)
    (case xcfInvalidHouse => first | rfl | kernel_rfl | decide +kernel)
    (case xffInvalidHouse => first | rfl | kernel_rfl | decide +kernel)
    (case xccInvalidHouse => k_is)
    (case nInvalidHands => k_is)
    (case xLInvalidHands => k_is)
    (case xvInvalidHands => first | rfl | kernel_rfl | decide +kernel)
    (case xaInvalidHands => first | rfl | kernel_rfl | decide +kernel)
    (case xsaInvalidHands => k_is)
    (case xexInvalidHands => k_is)
    (case xtyInvalidHands => k_is)
    (case xkcInvalidHands => k_is)
    (case xveInvalidHands => k_is)
    (case xseInvalidHands => k_is)
    (case xnPInvalidHands => k_is)
    (case xnIInvalidHands => k_is)
    (case xiInvalidHands => k_is)
    (case xitInvalidHands => k_is)
    (case xilInvalidHands => k_is)
    (case xicInvalidHands => k_is)
    (case xclInvalidHands => k_is)
    (case xcfInvalidHands => first | rfl | kernel_rfl | decide +kernel)
    (case xffInvalidHands => first | rfl | kernel_rfl | decide +kernel)
    (case xccInvalidHands => k_is)
    (case nInvalidLog => k_is)
    (case xLInvalidLog => k_is)
    (case xvInvalidLog => first | rfl | kernel_rfl | decide +kernel)
    (case xaInvalidLog => first | rfl | kernel_rfl | decide +kernel)
    (case xsaInvalidLog => k_is)
    (case xexInvalidLog => k_is)
    (case xtyInvalidLog => k_is)
    (case xkcInvalidLog => k_is)
    (case xveInvalidLog => k_is)
    (case xseInvalidLog => k_is)
    (case xnPInvalidLog => k_is)
    (case xnIInvalidLog => k_is)
    (case xiInvalidLog => k_is)
    (case xitInvalidLog => k_is)
    (case xilInvalidLog => k_is)
    (case xicInvalidLog => k_is)
    (case xclInvalidLog => k_is)
    (case xcfInvalidLog => first | rfl | kernel_rfl | decide +kernel)
    (case xffInvalidLog => first | rfl | kernel_rfl | decide +kernel)
    (case xccInvalidLog => k_is)
    (case nInvalidCourse => k_is)
    (case eexInvalidCourse => first | rfl | kernel_rfl | decide +kernel)
    (case ekpInvalidCourse => k_is)
    (case esbInvalidCourse => k_is)
    (case etyInvalidCourse => k_is)
    (case nUnknownHand => k_is)
    (case eexUnknownHand => first | rfl | kernel_rfl | decide +kernel)
    (case ekpUnknownHand => k_is)
    (case esbUnknownHand => k_is)
    (case etyUnknownHand => k_is)
    (case nUnknownItem => k_is)
    (case eexUnknownItem => first | rfl | kernel_rfl | decide +kernel)
    (case ekpUnknownItem => k_is)
    (case esbUnknownItem => k_is)
    (case etyUnknownItem => k_is)
    (case nUnknownBox => k_is)
    (case eexUnknownBox => first | rfl | kernel_rfl | decide +kernel)
    (case ekpUnknownBox => k_is)
    (case esbUnknownBox => k_is)
    (case etyUnknownBox => k_is)
    (case nUnknownSeal => k_is)
    (case eexUnknownSeal => first | rfl | kernel_rfl | decide +kernel)
    (case ekpUnknownSeal => k_is)
    (case esbUnknownSeal => k_is)
    (case etyUnknownSeal => k_is)
    (case nInsideItself => k_is)
    (case eexInsideItself => first | rfl | kernel_rfl | decide +kernel)
    (case ekpInsideItself => k_is)
    (case esbInsideItself => k_is)
    (case etyInsideItself => k_is)
    (case nNotHeld => k_is)
    (case eexNotHeld => first | rfl | kernel_rfl | decide +kernel)
    (case ekpNotHeld => k_is)
    (case esbNotHeld => k_is)
    (case etyNotHeld => k_is)
    (case nIsSealed => k_is)
    (case eexIsSealed => first | rfl | kernel_rfl | decide +kernel)
    (case ekpIsSealed => k_is)
    (case esbIsSealed => k_is)
    (case etyIsSealed => k_is)
    (case nNotSealed => k_is)
    (case eexNotSealed => first | rfl | kernel_rfl | decide +kernel)
    (case ekpNotSealed => k_is)
    (case esbNotSealed => k_is)
    (case etyNotSealed => k_is)
    (case nNotInside => k_is)
    (case eexNotInside => first | rfl | kernel_rfl | decide +kernel)
    (case ekpNotInside => k_is)
    (case esbNotInside => k_is)
    (case etyNotInside => k_is)
    (case ewsuInvalidHands => k_is)
    (case ewsuInvalidLog => k_is)
    (case ewsuInvalidCourse => k_is)
    (case ewsuUnknownHand => k_is)
    (case ewsuUnknownItem => k_is)
    (case ewsuUnknownBox => k_is)
    (case ewsuUnknownSeal => k_is)
    (case ewsuInsideItself => k_is)
    (case ewsuNotHeld => k_is)
    (case ewsuIsSealed => k_is)
    (case ewsuNotSealed => k_is)
    (case ewsuNotInside => k_is)
    (case nInvalidNumber => k_is)
    (case nNoCourse => k_is)
    (case egaInvalidCourse => k_is)
    (case eggInvalidCourse => k_is)
    (case ehdInvalidCourse => k_is)
    (case ehaInvalidCourse => k_is)
    (case ehmInvalidCourse => k_is)
    (case enPInvalidCourse => k_is)
    (case enIInvalidCourse => k_is)
    (case ekveInvalidCourse => kit_is)
    (case qInvalidCourse_InsideItself => kit_is)
    (case qInvalidCourse_InvalidCourse => kit_is)
    (case qInvalidCourse_InvalidHands => kit_is)
    (case qInvalidCourse_InvalidHouse => kit_is)
    (case qInvalidCourse_InvalidLog => kit_is)
    (case qInvalidCourse_InvalidNumber => kit_is)
    (case qInvalidCourse_IsSealed => kit_is)
    (case qInvalidCourse_NoCourse => kit_is)
    (case qInvalidCourse_NotHeld => kit_is)
    (case qInvalidCourse_NotInside => kit_is)
    (case qInvalidCourse_NotSealed => kit_is)
    (case qInvalidCourse_UnknownBox => kit_is)
    (case qInvalidCourse_UnknownHand => kit_is)
    (case qInvalidCourse_UnknownItem => kit_is)
    (case qInvalidCourse_UnknownSeal => kit_is)
    (case j_MOST_HANDS => k_is)
    (case j_MOST_BOXES => k_is)
    (case j_MOST_THINGS => k_is)
    (case j_MOST_SEALS => k_is)
    (case j_MOST_ROWS => k_is)
    (case dA => k_is)
    (case dL => k_is)
    (case dS => decide)
    (case dV => exact .cons ⟨_, rfl⟩ (.cons ⟨_, rfl⟩ (.cons ⟨_, rfl⟩ (.cons ⟨_, rfl⟩ (.cons ⟨_, rfl⟩ .nil)))))
    (case pA => k_is)
    (case pL => k_is)
    (case pK => first | exact ⟨⟨_, _, rfl, rfl⟩, ⟨_, _, rfl, rfl⟩, ⟨_, _, rfl, rfl⟩, trivial⟩ | decide +kernel)
    (case p0 => k_is)
    (case p1 => k_is)
    (case p2 => k_is)
    (case am0 => k_is)
    (case lm0 => k_is)
    (case cm0 => k_is)
    (case km0 => k_is)
    (case am1 => k_is)
    (case lm1 => k_is)
    (case cm1 => k_is)
    (case km1 => k_is)
    (case am2 => k_is)
    (case lm2 => k_is)
    (case cm2 => k_is)
    (case km2 => k_is)
    (case am3 => k_is)
    (case lm3 => k_is)
    (case cm3 => k_is)
    (case km3 => k_is)
    (case am4 => k_is)
    (case lm4 => k_is)
    (case cm4 => k_is)
    (case km4 => k_is)
    (case am5 => k_is)
    (case lm5 => k_is)
    (case cm5 => k_is)
    (case km5 => k_is)
    (case am6 => k_is)
    (case lm6 => k_is)
    (case cm6 => k_is)
    (case km6 => k_is)
    (case am7 => k_is)
    (case lm7 => k_is)
    (case cm7 => k_is)
    (case km7 => k_is)
    (case am8 => k_is)
    (case lm8 => k_is)
    (case cm8 => k_is)
    (case km8 => k_is)
    (case am9 => k_is)
    (case lm9 => k_is)
    (case cm9 => k_is)
    (case km9 => k_is)
    (case am10 => k_is)
    (case lm10 => k_is)
    (case cm10 => k_is)
    (case km10 => k_is)
    (case am11 => k_is)
    (case lm11 => k_is)
    (case cm11 => k_is)
    (case km11 => k_is)
    (case am12 => k_is)
    (case lm12 => k_is)
    (case cm12 => k_is)
    (case km12 => k_is)
    (case am13 => k_is)
    (case lm13 => k_is)
    (case cm13 => k_is)
    (case km13 => k_is)
    (case am14 => k_is)
    (case lm14 => k_is)
    (case cm14 => k_is)
    (case km14 => k_is)
    (case am15 => k_is)
    (case lm15 => k_is)
    (case cm15 => k_is)
    (case km15 => k_is)
    (case am16 => k_is)
    (case lm16 => k_is)
    (case cm16 => k_is)
    (case km16 => k_is)
    (case am17 => k_is)
    (case lm17 => k_is)
    (case cm17 => k_is)
    (case km17 => k_is)
    (case am18 => k_is)
    (case lm18 => k_is)
    (case cm18 => k_is)
    (case km18 => k_is)
    (case am19 => k_is)
    (case lm19 => k_is)
    (case cm19 => k_is)
    (case km19 => k_is)
    (case am20 => k_is)
    (case lm20 => k_is)
    (case cm20 => k_is)
    (case km20 => k_is)
    (case am21 => k_is)
    (case lm21 => k_is)
    (case cm21 => k_is)
    (case km21 => k_is)
    (case am22 => k_is)
    (case lm22 => k_is)
    (case cm22 => k_is)
    (case km22 => k_is)
    (case am23 => k_is)
    (case lm23 => k_is)
    (case cm23 => k_is)
    (case km23 => k_is)
    (case am24 => k_is)
    (case lm24 => k_is)
    (case cm24 => k_is)
    (case km24 => k_is)
    (case am25 => k_is)
    (case lm25 => k_is)
    (case cm25 => k_is)
    (case km25 => k_is)
    (case am26 => k_is)
    (case lm26 => k_is)
    (case cm26 => k_is)
    (case km26 => k_is)
    (case am27 => k_is)
    (case lm27 => k_is)
    (case cm27 => k_is)
    (case km27 => k_is)
    (case am28 => k_is)
    (case lm28 => k_is)
    (case cm28 => k_is)
    (case km28 => k_is)
    (case am29 => k_is)
    (case lm29 => k_is)
    (case cm29 => k_is)
    (case km29 => k_is)
    (case am30 => k_is)
    (case lm30 => k_is)
    (case cm30 => k_is)
    (case km30 => k_is)
    (case am31 => k_is)
    (case lm31 => k_is)
    (case cm31 => k_is)
    (case km31 => k_is)
    (case am32 => k_is)
    (case lm32 => k_is)
    (case cm32 => k_is)
    (case km32 => k_is)
    (case am33 => k_is)
    (case lm33 => k_is)
    (case cm33 => k_is)
    (case km33 => k_is)
    (case am34 => k_is)
    (case lm34 => k_is)
    (case cm34 => k_is)
    (case km34 => k_is)
    (case am35 => k_is)
    (case lm35 => k_is)
    (case cm35 => k_is)
    (case km35 => k_is)
    (case am36 => k_is)
    (case lm36 => k_is)
    (case cm36 => k_is)
    (case km36 => k_is)
    (case am37 => k_is)
    (case lm37 => k_is)
    (case cm37 => k_is)
    (case km37 => k_is)
    (case am38 => k_is)
    (case lm38 => k_is)
    (case cm38 => k_is)
    (case km38 => k_is)
    (case am39 => k_is)
    (case lm39 => k_is)
    (case cm39 => k_is)
    (case km39 => k_is)
    (case am40 => k_is)
    (case lm40 => k_is)
    (case cm40 => k_is)
    (case km40 => k_is)
    (case am41 => k_is)
    (case lm41 => k_is)
    (case cm41 => k_is)
    (case km41 => k_is)
    (case am42 => k_is)
    (case lm42 => k_is)
    (case cm42 => k_is)
    (case km42 => k_is)
    (case am43 => k_is)
    (case lm43 => k_is)
    (case cm43 => k_is)
    (case km43 => k_is)
    (case am44 => k_is)
    (case lm44 => k_is)
    (case cm44 => k_is)
    (case km44 => k_is)
    (case am45 => k_is)
    (case lm45 => k_is)
    (case cm45 => k_is)
    (case km45 => k_is)
    (case am46 => k_is)
    (case lm46 => k_is)
    (case cm46 => k_is)
    (case km46 => k_is)
    (case am47 => k_is)
    (case lm47 => k_is)
    (case cm47 => k_is)
    (case km47 => k_is)
    (case am48 => k_is)
    (case lm48 => k_is)
    (case cm48 => k_is)
    (case km48 => k_is)
    (case ah0 => k_is)
    (case lh0 => k_is)
    (case ch0 => k_is)
    (case kh0 => k_is)
    (case ih0 => k_is)
    (case ah1 => k_is)
    (case lh1 => k_is)
    (case ch1 => k_is)
    (case kh1 => k_is)
    (case ih1 => k_is)
    (case ppahp => k_is)
    (case ahp => k_is)
    (case lhp => k_is)
    (case chp => k_is)
    (case khp => k_is)
    (case ppghp => k_is)
    (case ppthp => k_is)
    (case ag0 => k_is)
    (case lg0 => k_is)
    (case cg0 => k_is)
    (case kg0 => k_is)
    (case ig0 => k_is)
    (case ppagp => k_is)
    (case agp => k_is)
    (case lgp => k_is)
    (case cgp => k_is)
    (case kgp => k_is)
    (case ppggp => k_is)
    (case pptgp => k_is)
    (case ag4 => k_is)
    (case lg4 => k_is)
    (case cg4 => k_is)
    (case kg4 => k_is)
    (case ig4 => k_is)
    (case adf => k_is)
    (case adl => k_is)
    (case adq => first | rfl | kernel_rfl | decide +kernel)
    (case adr => k_is)
    (case zisinstance => k_is)
    (case zint => k_is)
    (case zbool => k_is)
    (case zlen => k_is)
    (case zenumerate => k_is)
    (case ztuple => k_is)
    (case zlist => k_is)
    (case zrange => k_is)
    (case zstr => k_is)
    (case zsuper => k_is)
    (case zsorted => k_is)
    (case zdict => k_is)
    (case zValueError => k_is)
    (case aL => k_is)
    (case lL => k_is)
    (case cL => k_is)
    (case hcd => first | rfl | kernel_rfl | decide +kernel)
    (case ntb => first | rfl | kernel_rfl | decide +kernel)
    (case hT => exact PySem.W.km_tabs_of Y 688 (by decide))
#print axioms PySem.Challenge.cw_sealwatch_k10_whole_courses_judged_holds
