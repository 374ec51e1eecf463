import PyProof.Rows.All
import Wide.All
import OpenK.AllK
import Wide.FinOn
import PyProof.EqAt
import PyProof.EqKinds
import PyProof.TupleCall
import KE.KExcSuper
import HandS.Base
import HandS.Call
import HandS.List
import HandS.Ends
import HandS.Exc
import HandS.ExcInit
import KE.GoesMore
import HandS.Iter
import KE.KIsAll
import KE.KTryMore
import HandS.ExcIs
import HandS.Deep
import HandS.Words
import HandS.Strs
import HandS.ForExc
import HandS.Comp
import HandS.FStr
import HandS.Property
import HandS.IsInst
import HandS.TupAny
import HandS.RaiseMore
import PySem.Challenge.RW_sealwatch_k41_rounds_refused
import HandS.StrMore
import HandS.Lambda
import HandS.ExcField
import PyProof.Rows.MatchSeqLen
import HandS.FStrTup
import HandS.Sort
import HandS.TupLe
import PyProof.P3Eq
import KE.KSortTup
import KE.KCallOwn
import HandS.TryOnly
import HandS.Conv
import PyProof.FString5
import HandS.SortRule
import HandS.SortOrd
import HandS.More
import HandS.EndTab
import HandS.ExcCtx
import HandS.Hot
import HandS.HotCalls
import HandS.SuiteRaise
import HandS.RaiseFrom
import HandS.ExcInitHot
import KE.KOpsOwn
import HandS.SetFor
import HandS.Style
import PyProof.InstNe
import KE.KDictDisplayH
import HandS.Dict
import KE.KDflt
set_option Elab.async false
set_option linter.all false
set_option maxRecDepth 100000
set_option maxHeartbeats 4000000
/-! An own exception class (over own classes over ValueError) whose `__init__` begins with `super().__init__(text)` and then stores fields: its promise (FnOk), so that pmk_oex serves it. -/
namespace Kw
open PySem PySem.Spec PyProof.Rows L2

/-- the scope of such an __init__: parameters alone, the class's cell, the name super -/
structure SupScope (N : List Str) (sc : Scope) : Prop where
  kind : sc.kind = .function
  co : sc.isCoroutine = false
  gen : sc.isGenerator = false
  nd : N.Nodup
  par : ∀ x ∈ N, sc.names.lookup x = some .local
  nocell : ∀ y ∈ sc.names, y.2 ≠ .cell
  onlyFree : ∀ y, sc.names.lookup y = some .free → y = ("__class__" : Str)
  cls : sc.names.lookup ("__class__" : Str) = some .free
  sup : sc.names.lookup ("super" : Str) = some .globalImplicit

abbrev sEnv (qual : Str) (scope : Scope) (L f : Addr) (cd : Value) (cc : Addr) : Env := PySem.W.ksEnv qual scope L f cd cc

/-- the context of the body -/
def supCx (CX : CXT) (P : Program) (w : World) (K : PySem.W.Frag) (mg : Str → Option Value) (base : Heap) (N : List Str) (qual : Str) (scope : Scope) (f : Addr) (cd : Value) (cc : Addr) (A : Around) (outer : List Env) (s : Shared) (H : Hp) (E : XK) : Cx where
  prog := P
  w := w
  K := K
  mg := mg
  base := base
  A := A.deeper (sEnv qual scope s.heap.objs.size f cd cc)
  N := N
  s_0 := s
  H_0 := H
  env := sEnv qual scope s.heap.objs.size f cd cc
  outer := outer
  stack := sEnv qual scope s.heap.objs.size f cd cc :: outer
  ex := []
  calm := true
  fn := fun _ => false
  pn := []
  xe := fun e s' => wpAny (model P w) (A.deeper (sEnv qual scope s.heap.objs.size f cd cc)) (leaving (sEnv qual scope s.heap.objs.size f cd cc) e) (fun _ s'' => CX outer H s E e s'') (fun e' s'' => CX outer H s E e' s'') s'

section
variable {CX : CXT} {P : Program} {w : World} {K : PySem.W.Frag} {mg : Str → Option Value} {base : Heap} {N : List Str} {qual : Str} {scope : Scope} {f cc : Addr} {cd : Value} {A : Around} {outer : List Env} {s : Shared} {H : Hp} {E : XK}
theorem sup_start {us : List Value} {vs : List V} {h1 : Heap} {tk : Nat} {D : Addr} {ccl : Value} {ccd : Option Addr} {ccs : Array (Option Value)} (S : SupScope N scope) (hd : A.handled = none) (e0 : Env0 P w K mg base A outer s H) (hl : vs.length = N.length) (r : Vals vs us)
    (hcell : K.lookup cc = some ⟨ccl, ccd, .cell (some (.ref D)), ccs⟩)
    (hns : h1.Ns s.heap.objs.size (fun x => (N.zip us).reverse.lookup x)) (hk : ∀ b o, s.heap.get? b = some o → h1.get? b = some o) :
    Inv (supCx CX P w K mg base N qual scope f cd cc A outer s H E) [] (vs.map some) H { s with heap := h1, toks := tk } := by
  have noA : ∀ b : Addr, b ∉ (supCx CX P w K mg base N qual scope f cd cc A outer s H E).ex := fun b z => absurd (show b ∈ ([] : List Addr) from z) (by simp)
  have KX := e0.mod.kin
  have hcb := KX _ _ hcell
  have cells : ∀ {y c}, (supCx CX P w K mg base N qual scope f cd cc A outer s H E).env.cells.lookup y = some c → y = ("__class__" : Str) ∧ c = cc := fun {y c} h => by
    have h' : List.lookup y [(("__class__" : Str), cc)] = some c := h
    by_cases e : y = ("__class__" : Str)
    · subst e
      have q : List.lookup ("__class__" : Str) [(("__class__" : Str), cc)] = some cc := by simp [List.lookup]
      rw [q] at h'
      exact ⟨rfl, (Option.some.inj h').symm⟩
    · have q : (y == ("__class__" : Str)) = false := by simpa using e
      simp [List.lookup, q] at h'
  refine ⟨⟨e0.mod, S.kind, rfl, rfl, Nat.le_refl _, fun y z c h1 h2 => (cells h1).1.trans (cells h2).1.symm, fun y hy => ?_, fun y c h _ => Bool.noConfusion (show false = true from h), fun _ => hd, Around.frames_deeper e0.frames, .inr ⟨rfl, rfl⟩, fun b z => absurd z (noA b), e0.bs, e0.bsz, fun b _ _ => noA b, fun b z => absurd z (noA b), e0.funs, e0.frf⟩,
    rfl, e0.bare, Un.kept hk, ⟨_, hns, fun i y v h1 h2 h3 => ?_⟩, fun y c h => ?_, e0.hok.fresh (Nat.le_refl _), fun y c h => ?_, fun p hp => absurd (show p ∈ ([] : List (Addr × Obj)) from hp) (by simp), e0.hok.kept hk, ?_⟩
  · have hy : scope.names.lookup y = some .cell ∨ scope.names.lookup y = some .free := hy
    rcases hy with hy | hy
    · exact absurd rfl (S.nocell _ (PySem.mem_of_lookup hy))
    · have e := S.onlyFree y hy
      subst e
      exact ⟨cc, by show List.lookup ("__class__" : Str) [(("__class__" : Str), cc)] = some cc; simp [List.lookup]⟩
  · rw [List.getElem?_map] at h2
    cases e : vs[i]? with
    | none =>
      rw [e] at h2
      cases h2
    | some a =>
      rw [e] at h2
      cases h2
      obtain ⟨u, hu, rv⟩ := r.get e
      have hp : N[i]? = some y := h1
      refine ⟨u, rv, .inl ⟨S.par y (List.mem_of_getElem? hp), ?_⟩⟩
      have hlen := r.length
      -- the place of y in the reversed bindings
      have key : ∀ (N : List Str) (us : List Value) (i : Nat), N.Nodup → N[i]? = some y → us[i]? = some u → (N.zip us).reverse.lookup y = some u := by
        intro N
        induction N with
        | nil => intro us i _ h; simp at h
        | cons n N ih =>
          intro us i nd h1 h2
          cases us with
          | nil => simp at h2
          | cons u0 us =>
            rw [List.zip_cons_cons, List.reverse_cons]
            cases i with
            | zero =>
              simp at h1 h2
              subst h1 h2
              have hn : (N.zip us).reverse.lookup n = none := by
                have hnn := (List.nodup_cons.mp nd).1
                cases q : (N.zip us).reverse.lookup n with
                | none => rfl
                | some z =>
                  have hm := PySem.mem_of_lookup q
                  exact absurd (List.of_mem_zip (List.mem_reverse.mp hm)).1 hnn
              rw [List.lookup_append, hn]
              simp [List.lookup]
            | succ i =>
              have q := ih us i (List.nodup_cons.mp nd).2 (by simpa using h1) (by simpa using h2)
              rw [List.lookup_append, q]
              rfl
      exact key N us i S.nd hp hu
  · obtain ⟨_, rfl⟩ := cells h
    exact ⟨_, _, hk _ _ (e0.bs _ _ hcb).1, rfl⟩
  · obtain ⟨_, rfl⟩ := cells h
    exact (e0.bs _ _ hcb).2
  · show (vs.map some).length = N.length
    rw [List.length_map, hl]
end

/-! ### super().__init__(text) on an exception that is being made -/
/-- what the written part says: the class at C that is made, the class at D in whose body the __init__ stands (here the same) -/
structure SupC (prog : Program) (K : PySem.W.Frag) (mg : Str → Option Value) (C : Addr) : Prop where
  oex : OexC K C
  along : ∃ nm q N bs bm sn sub ab col dd k0 k1 k2 k3 k5, K.lookup C = some (excClassObj nm q C N bs bm true sn sub ab col dd k0 k1 k2 k3 k5 "ValueError.__new__") ∧ PySem.HandSPX.refsVE bm = true ∧
    PySem.W.alongIn K "__init__" ((((Value.ref C :: bm).dropWhile (· != .ref C)).drop 1)) = some (some (.builtin "ValueError.__init__"))
  tp : PySem.W.nsIn K cStatics "thirdparty.any" = some none
  sup : mg "super" = none
  isVE : PySem.W.subIn K (.ref C) (.type "ValueError") = some true
  self : PySem.W.mroIn K C (.ref C) = some true
  htop : (prog.main.scope.names.lookup ("super" : Str)).isSome = false

theorem boot_super : bootBuiltins "super" = some (.type "super") := by first | boot_by_name | rfl | kernel_rfl

section
variable {X : Cx} {pins : List (Addr × Obj)} {σ : L2.St} {H : Hp} {s : Shared} {a C : Addr} {E : Value → Shared → Prop} {A : Around}
/-- the built-in __init__, bound: nothing of it is told -/
theorem bw_ok {us : List Value} {u : Addr} {Q : Value → Shared → Prop} (T : OexC X.K C) (I : Inv X pins σ H s) (e : H a = some (exo a C none)) (hu : s.heap.get? u = some (PySem.W.kxs_mw "ValueError.__init__" a)) (hl : us.length ≤ sizeLine) (h : ∀ s', Inv X pins σ H s' → Q .none s') :
    wpAny (model X.prog X.w) A (call (.ref u) us) Q E s := by
  obtain ⟨nm, q, N, bs, bm, sn, sub, ab, col, dd, k0, k1, k2, k3, k5, hC, hbm⟩ := T.cls
  obtain ⟨t1, ho⟩ := exo_at I.hok e
  have hCk := I.kIn _ _ hC
  obtain ⟨hp, g, d, t, os⟩ := s
  have fin : ∀ h' : Heap, (∀ b o, b ≠ a → hp.get? b = some o → h'.get? b = some o) → h'.get? a = some (PySem.HandSPX.excO C hp.objs.size) → h'.get? hp.objs.size = some (PySem.W.excTup us) → Q .none ⟨h', g, d, t, os⟩ := fun h' k hx _ => by
    have J := I.write (t' := t) (x := a) (e := a) (o := exo a C none) (by rw [e]; exact True.intro) (.inl rfl) k ⟨_, hx⟩ (exo_ok hx)
    have eu : upd H a (exo a C none) = H := by
      funext b
      by_cases hb : b = a
      · rw [hb, upd_same, e]
      · rw [upd_ne hb]
    rw [eu] at J
    exact h _ J
  refine wpAny_call (codeAny_of_tree ?_)
  show wpAny _ A.in1 (callAny (.ref u) ⟨us, []⟩) _ _ _
  simp only [callAny]
  refine wpAny_bind (wpAny_load hu ?_)
  simp only [PySem.W.kxs_mw, show (Value.type "method-wrapper" == Value.type "method" || Value.type "method-wrapper" == Value.type "builtin_function_or_method" || Value.type "method-wrapper" == Value.type "method-wrapper") = true by decide, if_true]
  refine PySem.W.KFB.if_so (by decide) ?_
  refine wpAny_bind (PySem.W.check_bound_init F.excBase_ValueError.toExcCallFacts hCk ho rfl ?_)
  refine wpAny_bind (wpAny_pure (wpAny_pure ?_))
  refine ⟨plainId_quiet F.excBase_ValueError.init.plain _, codeAny_builtin F.excBase_ValueError.initEntry ?_⟩
  exact PySem.W.exc_init_tree (cls := .ref C) (t0 := t1) (dv := none) (c2 := .none) (c3 := .none) (b4 := .bool false) ho hl fin
end

/-! ### the body: super().__init__(e); the rest -/
/-- the reading: e a text, then self is an exception that is being made, then the rest -/
def tSup (C : Addr) (te : TE) (t : TS) : TS := fun D σ H => te σ H fun v H1 => (∃ z, v = .str z) ∧ ∃ a, σ[0]? = some (some (.ref a)) ∧ H1 a = some (exo a C none) ∧ t D σ H1
abbrev supCall (e : Expr) (p0 p1 p2 p3 : Pos) : Expr := .Call (.Attribute (.Call (.Name "super" p0) [] [] p1) "__init__" p2) [e] [] p3
section
variable {CX : CXT} {P : Program} {w : World} {K : PySem.W.Frag} {mg : Str → Option Value} {base : Heap} {k : Nat} {N : List Str} {name qual : Str} {scope : Scope} {params : Arguments} {f cc cda C : Addr} {ar : Arg} {vsC : Array Value} {fileS : Str} {tf : Tok}
  {dV kV doc pm ct oc ccl cl : Value} {an od cdd cld : Option Addr} {osl ccs csl : Array (Option Value)} {e : Expr} {rest : List Stmt} {p0 p1 p2 p3 p4 : Pos} {sp : Sp} {pl : Addr → Sem Bool}
theorem fn_super (T : SupC P K mg C)
    (lk : K.lookup f = some ⟨oc, od, .func (PySem.W.ksFn name qual params (.Expr (supCall e p0 p1 p2 p3) p4 :: rest) scope dV kV doc pm an (.ref cda) ct cc), osl⟩) (hcd : PySem.W.codeIn K (.ref cda) qual = true)
    (hp : (params.posonlyargs ++ params.args).head? = some ar) (hself : N[0]? = some ar.arg)
    (hcode : K.lookup cda = some ⟨ccl, cdd, .fields vsC, ccs⟩) (hvs : vsC[2]? = some (.str fileS tf)) (hfile : ((P.main.file : Str) == fileS) = true)
    (hcell : K.lookup cc = some ⟨cl, cld, .cell (some (.ref C)), csl⟩)
    (S : SupScope N scope) (len : ∀ vs H Q E, sp vs H Q E → vs.length = N.length)
    (hsw : ∀ L, swapsWith (supCall e p0 p1 p2 p3) none p4.line (sEnv qual scope L f (.ref cda) cc) = pure false)
    (hev : ∀ L, eval (supCall e p0 p1 p2 p3) (sEnv qual scope L f (.ref cda) cc) = (do
      let ov ← attributeBase (.Call (.Name "super" p0) [] [] p1) "__init__" (sEnv qual scope L f (.ref cda) cc) (eval (.Call (.Name "super" p0) [] [] p1) (sEnv qual scope L f (.ref cda) cc))
      standAt p2.atName
      let (g, first) ← holding [ov] (getMethod ov "__init__" (pl L))
      callWith p3 g first (backTo p3 (starEach [e] (sEnv qual scope L f (.ref cda) cc))) []))
    (hst : ∀ L, starEach [e] (sEnv qual scope L f (.ref cda) cc) = [(false, eval e (sEnv qual scope L f (.ref cda) cc))])
    (hbody : ∀ (A : Around) (outer : List Env) (s : Shared) (H : Hp) (vs : List V) (Q : VK) (E : XK), Room k (A.deeper (sEnv qual scope s.heap.objs.size f (.ref cda) cc)) → sp vs H Q E →
      ∃ te t, PE (supCx CX P w K mg base N qual scope f (.ref cda) cc A outer s H E) e te ∧ PSs (supCx CX P w K mg base N qual scope f (.ref cda) cc A outer s H E) rest t ∧
        (∃ a, vs[0]? = some (V.ref a) ∧ H a = some (exo a C none)) ∧ tSup C te t { nx := fun _ H' => Q .non H', rt := Q } (vs.map some) H) :
    FnOk P w K mg base CX (k + 1) f (PySem.W.ksFn name qual params (.Expr (supCall e p0 p1 p2 p3) p4 :: rest) scope dV kV doc pm an (.ref cda) ct cc) N sp := by
  refine ⟨len, fun A outer s H args us vs Q E hr e0 hb r hsp => ?_⟩
  have hl := len _ _ _ _ hsp
  have KX : K.In s.heap := e0.mod.kin.keeps fun b o e => (e0.bs b o e).1
  have lim : s.heap.NoLimit := e0.mod.nolimit.keeps fun b o e => (e0.bs b o e).1
  refine PySem.ks_codeAny_call_defAt (binds := N.zip us) hr.depth (KX _ _ lk) rfl lim (PySem.W.codeRec_of KX hcd) rfl hb S.nocell (fun y hy => S.par y.1 (List.of_mem_zip hy).1) (fun h1 hns hk => ?_) S.co S.gen S.kind
  obtain ⟨te, t, pe, pss, ⟨a, hva, hHa⟩, hq⟩ := hbody A outer s H vs Q E (hr.deeper _) hsp
  have I : L2.Inv (supCx CX P w K mg base N qual scope f (.ref cda) cc A outer s H E) [] (vs.map some) H { s with heap := h1, toks := s.toks + (N.zip us).length } := sup_start S hr.hd e0 hl r hcell hns hk
  have fin : ∀ {σ' : L2.St} {H' : Hp} {v : V} {u : Value} {s' : Shared}, L2.Inv (supCx CX P w K mg base N qual scope f (.ref cda) cc A outer s H E) [] σ' H' s' → RelV v u → Q v H' → CE outer P w H s Q u s' :=
    fun {σ' H' v u s'} J rv q => ⟨v, H', J.os, J.bare, J.base, J.hok, rv, q⟩
  show PySem.wpAt _ _ _ (execs _ (sEnv qual scope s.heap.objs.size f (.ref cda) cc)) _ _ _
  refine PySem.ks_wpAt_execs_cons (PySem.ks_wpAt_Expr_any (PySem.ks_wpAt_MethodCall (pl := pl s.heap.objs.size) ?_ (hev _)) I.quiet (hsw _))
  obtain ⟨nm, q, N', bs, bm, sn, sub, ab, col, dd, k0, k1, k2, k3, k5, hC, hbm, hal⟩ := T.along
  have KX1 : K.In h1 := KX.keeps hk
  have hcl : PySem.W.clsIn K C = some { name := nm, bases := bs, mro := .ref C :: bm, ns := N', qualname := q, hasDict := true, slotNames := sn, subclasses := sub, abstract := ab, collection := col, hasDel := false } := by unfold PySem.W.clsIn; rw [hC] <;> rfl
  have e0' : (vs.map some)[0]? = some (some (V.ref a)) := by rw [List.getElem?_map, hva]; rfl
  -- self, a
  obtain ⟨m, hnm, hlm⟩ := id I.loc
  obtain ⟨uS, ruS, lkS⟩ := hlm 0 ar.arg (V.ref a) hself e0' (.inl (S.par _ (List.mem_of_getElem? hself)))
  obtain rfl : uS = Value.ref a := ruS
  have hma : m ar.arg = some (.ref a) := by
    rcases lkS with ⟨_, z⟩ | ⟨z, _⟩
    · exact z
    · have z' : scope.names.lookup ar.arg = some .cell ∨ scope.names.lookup ar.arg = some .free := z
      rw [S.par _ (List.mem_of_getElem? hself)] at z'
      rcases z' with z' | z' <;> cases z'
  obtain ⟨t1, ho⟩ := exo_at I.hok hHa
  obtain ⟨mb, hmb, hmb2⟩ := I.mod.blt
  refine PySem.ks_wpAt_super_base (env := sEnv qual scope s.heap.objs.size f (.ref cda) cc) S.sup S.cls (by decide) rfl (KX1 _ _ lk) rfl hp rfl (KX1 _ _ hcode) rfl hvs hfile T.htop ?_
  refine PySem.W.ks_loadName_global S.kind S.sup (Calls.loadGlobal_builtin (env := sEnv qual scope s.heap.objs.size f (.ref cda) cc) (I.mod.glob.keeps I.bk) T.sup (hmb.keeps I.bk) ((hmb2 _ (by decide +kernel)).trans boot_super) ⟨rfl, ?_⟩)
  refine wpAny_loadName_free S.kind S.cls rfl ⟨_, KX1 _ _ hcell, rfl⟩ ?_
  refine wpAny_loadName_local S.kind (S.par _ (List.mem_of_getElem? hself)) hnm hma ?_
  obtain ⟨oD, hD1, hD2⟩ : ∃ oD, h1.get? C = some oD ∧ oD.data = .cls { name := nm, bases := bs, mro := .ref C :: bm, ns := N', qualname := q, hasDict := true, slotNames := sn, subclasses := sub, abstract := ab, collection := col, hasDel := false } := ⟨_, KX1 _ _ hC, rfl⟩
  refine PySem.ks_wpAny_isType_cls hD1 hD2 ⟨rfl, ?_⟩
  refine PySem.ks_wpAny_call_super hD1 hD2 ho rfl (fun c e => nomatch e) (PySem.W.looks_mroIn KX1 T.self) (fun h2 eso kk => ?_)
  -- the super object stands; its method
  have I2 := I.kept (t' := s.toks + (N.zip us).length) kk
  have KX2 : K.In h2 := KX1.keeps kk
  have ho2 := kk _ _ ho
  have It : PySem.W.InstAt h2 a { cls := .ref C, dict := none, data := .fields #[.ref t1, .none, .none, .none, .bool false, .none] } C none := ⟨ho2, rfl, rfl, trivial⟩
  refine PySem.W.kxs_getMethod PySem.W.kxs_ValueError eso (PySem.W.looks_opaque KX2 T.tp) (l₀ := .ref C :: bm) (fun A Q E s k q => wpAny_bind ((PySem.W.looks_clsIn KX2 hcl) A _ E s k (wpAny_pure q))) rfl KX2 hal (It.type.andThen (PySem.W.looks_subIn KX2 T.isVE)) (PySem.W.ks_ne KX2 It hcl) (by decide) ?_
  have I3 := I2.kept (t' := s.toks + (N.zip us).length + 1) (h' := h2.push (PySem.W.kxs_mw "ValueError.__init__" a)) fun b o e => Heap.get?_push_of_some _ e
  have hu : (h2.push (PySem.W.kxs_mw "ValueError.__init__" a)).get? h2.objs.size = some (PySem.W.kxs_mw "ValueError.__init__" a) := Heap.get?_push_at rfl rfl
  have I4 := I3.pins_of (pins' := [(h2.objs.size, PySem.W.kxs_mw "ValueError.__init__" a)]) (fun p hp => by
    obtain rfl := List.mem_singleton.mp hp
    exact ⟨hu, I2.hok.fresh (Nat.le_refl _), Nat.ne_of_gt I2.lt, I2.nofs (Nat.le_refl _), fun v z => nomatch z⟩)
  show wpAny _ _ (callWith p3 (.ref h2.objs.size) [] (backTo p3 (starEach [e] (sEnv qual scope s.heap.objs.size f (.ref cda) cc))) []) _ _ _
  have pa : PA (supCx CX P w K mg base N qual scope f (.ref cda) cc A outer s H E) [e] (tCons te tNil) := pa_cons pe pa_nil (hst _)
  have ru := pa.run p3 _ _ (vs.map some) H (fun ws H1 => match ws with | [v] => (∃ z, v = .str z) ∧ ∃ a, (vs.map some)[0]? = some (some (.ref a)) ∧ H1 a = some (exo a C none) ∧ t { nx := fun _ H' => Q .non H', rt := Q } (vs.map some) H1 | _ => False) I4 hq
  have ehs : starEach [e] (supCx CX P w K mg base N qual scope f (.ref cda) cc A outer s H E).env = [(false, eval e (sEnv qual scope s.heap.objs.size f (.ref cda) cc))] := hst _
  rw [ehs] at ru
  rw [hst]
  refine PySem.W.kxs_callWith (i := "ValueError.__init__") (x := a) rfl (Calls.evalArgs_plain (thn ru fun ws s5 hw => ?_))
  obtain ⟨vs5, H5, I5, r5, q5⟩ := hw
  have hu5 : s5.heap.get? h2.objs.size = some (PySem.W.kxs_mw "ValueError.__init__" a) := (I5.pin (h2.objs.size, PySem.W.kxs_mw "ValueError.__init__" a) (List.mem_append.mpr (.inr (List.mem_singleton.mpr rfl)))).1
  refine ⟨hu5, ?_⟩
  cases r5 with
  | nil => exact q5.elim
  | @cons v5 u5 vr ur rv rr =>
    cases rr with
    | cons _ _ => exact q5.elim
    | nil =>
      obtain ⟨_, a', ea', hH5, q5⟩ := q5
      have ea : a' = a := by
        have z := ea'.symm.trans e0'
        cases z
        rfl
      subst ea
      refine bw_ok (X := supCx CX P w K mg base N qual scope f (.ref cda) cc A outer s H E) T.oex I5 hH5 hu5 (by show 1 ≤ sizeLine; rw [sizeLine_eq]; decide) fun s6 I6 => ?_
      have I7 : L2.Inv (supCx CX P w K mg base N qual scope f (.ref cda) cc A outer s H E) [] (vs.map some) H5 s6 := I6.unpinned (pins := []) (pl := [(h2.objs.size, PySem.W.kxs_mw "ValueError.__init__" a')])
      show PySem.wpAt _ _ _ (execs rest _) _ _ _
      refine PySem.wpAt_of_wpAny (wpAny_mono (pss.run [] s6 (vs.map some) H5 _ I7 q5) (fun fl s' hs => ?_) fun _ _ x => x)
      cases fl with
      | ret u =>
        obtain ⟨v, σ', H', J, rv, q⟩ := hs
        exact fin J rv q
      | next =>
        obtain ⟨σ', H', J, q⟩ := hs
        exact fin (v := V.non) (u := Value.none) J rfl q
      | brk =>
        obtain ⟨_, _, _, q⟩ := hs
        exact False.elim q
      | cont =>
        obtain ⟨_, _, _, q⟩ := hs
        exact False.elim q
end
end Kw




set_option Elab.async false
set_option linter.all false
set_option maxRecDepth 100000
set_option maxHeartbeats 4000000
/-! More operators: `in` by an own `__contains__`, `==` by an own `__eq__`, enumerate(tuple), `in` over a tuple of data, list.count of bools. -/
namespace Kw
open PySem PySem.Spec PyProof.Rows L2
section
variable {X : Cx} {CX : CXT} {C f : Addr} {fd : FuncData} {k : Nat} {ps : List Str} {sp : Sp} {E : XK}
def rNotInOwn (C : Addr) (sp : Sp) (E : XK) : R2 := fun x y H Q => ∃ b dx fs, y = .ref b ∧ H b = some (.ins C dx fs) ∧ sp [y, x] H (fun v H' => ∃ k, v = .bl k ∧ Q (.bl (!k)) H') E
theorem op_notInOwn (F : FnOk X.prog X.w X.K X.mg X.base CX k f fd ps sp) (hs : PySem.W.findIn X.K (.ref C) "__contains__" = some (some (.ref f))) (hf : PySem.W.isFn X.K (.ref f) = true) (hr : Room k X.A) (hb : Binds X.K fd ps []) (hx : Passes CX X E) :
    OpR X (compareOp .NotIn) (rNotInOwn C sp E) := by
  intro pins s σ H x y v u Q I rx ry h
  obtain ⟨b, dx, fs, rfl, hH, hsp⟩ := h
  cases ry
  obtain ⟨mA, J, _⟩ := ins_get I.hok hH
  obtain ⟨od, J, _⟩ := J.look
  obtain ⟨m, hF⟩ := I.fr
  refine PySem.W.notIn_K hF I.ok.mod.kin J hs hf ?_
  refine thn (run_fn (vs := [.ref b, x]) (dvs := []) F hr hb .nil hx I (.cons rfl (.cons rx .nil)) hsp) fun w s1 hw => ?_
  obtain ⟨z, H1, I1, rz, kk, ez, q⟩ := hw
  subst ez
  obtain rfl : w = Value.bool kk := rz
  exact wpAny_truthy_bool ⟨V.bl _, H1, I1, rfl, q⟩
end

/-! ### enumerate(tuple) -/
theorem meets_enumerate_newT (l : Addr) (items : Array Value) :
    Meets (Builtin.«enumerate.__new__» ⟨[.type "enumerate", .ref l], []⟩) (fun _ R s => s.heap.IsTuple l items ∧
      R (.ok (.ret (.ref (s.heap.push { cls := .type "tuple_iterator", data := .fields #[.ref l, .int 0 0] }).objs.size)))
        { s with heap := (s.heap.push { cls := .type "tuple_iterator", data := .fields #[.ref l, .int 0 0] }).push { cls := .type "enumerate", data := .fields #[.none, .bool false, .ref s.heap.objs.size, rawInt 0, .none, .none] } }) :=
  .of_wp fun prog w A R s h => by
    obtain ⟨hp, g, d, tk, os⟩ := s; obtain ⟨hL, h⟩ := h
    have hsub := sub_enumerate
    have q1 : ∀ {A' : Around} {E : Value → Shared → Prop} {Q : Value → Shared → Prop}, Q (.ref hp.objs.size) ⟨hp.push { cls := .type "tuple_iterator", data := .fields #[.ref l, .int 0 0] }, g, d, tk, os⟩ → wpAny (model prog w) A' (pyIter (.ref l)) Q E ⟨hp, g, d, tk, os⟩ :=
      fun q => wpAny_pyIter_tuple hL q
    wp_walk using q1
    refine wpAny_stack_any fun st => wpAny_pure ?_
    split
    · rename_i c _ _ _ _ _
      cases (c == Value.type "enumerate")
      · wp_walk using q1
        exact ⟨_, rfl, h⟩
      · wp_walk using q1
        exact ⟨_, rfl, h⟩
    · wp_walk using q1
      exact ⟨_, rfl, h⟩
theorem call_enumerate_tuple {prog : Program} {w : World} {A : Around} {E : Value → Shared → Prop} {s : Shared} {l : Addr} {items : Array Value} {Q : Value → Shared → Prop} (hL : s.heap.IsTuple l items)
    (h : ∀ h', IsEnum h' (s.heap.objs.size + 1) s.heap.objs.size 0 .none → h'.IsTupleIter s.heap.objs.size l 0 → h'.objs.size = s.heap.objs.size + 2 →
      (∀ b o, s.heap.get? b = some o → h'.get? b = some o) → Q (.ref (s.heap.objs.size + 1)) { s with heap := h' }) :
    wpAny (model prog w) A (call (.type "enumerate") [.ref l]) Q E s := by
  refine callType_new F.called_enumerate (by decide) (F.typeCall_enumerate_1 _) (F.newCall_enumerate_1 _) (fun obj => F.args_object_init_2 obj _) F.entry_enumerate_new
    (meets_enumerate_newT l items) ⟨hL, ?_⟩
  have hz : (s.heap.push { cls := .type "tuple_iterator", data := .fields #[.ref l, .int 0 0] }).objs.size = s.heap.objs.size + 1 := Heap.size_push ..
  show _ ∧ _
  rw [hz]
  have he : IsEnum ((s.heap.push { cls := .type "tuple_iterator", data := .fields #[.ref l, .int 0 0] }).push
      { cls := .type "enumerate", data := .fields #[.none, .bool false, .ref s.heap.objs.size, rawInt 0, .none, .none] }) (s.heap.objs.size + 1) s.heap.objs.size 0 .none := by
    have := Heap.get?_push_size (s.heap.push { cls := .type "tuple_iterator", data := .fields #[.ref l, .int 0 0] })
      (o := { cls := .type "enumerate", data := .fields #[.none, .bool false, .ref s.heap.objs.size, rawInt 0, .none, .none] }) rfl
    rw [hz] at this; exact this
  refine ⟨⟨_, he, rfl⟩, h _ he ⟨_, Heap.get?_push_of_some _ (Heap.get?_push_size _ rfl), rfl, rfl⟩ (by rw [Heap.size_push, hz]) fun b o x => Heap.get?_push_of_some _ (Heap.get?_push_of_some _ x)⟩
/-- the tuple at a, each item in a new pair -/
def Itet (K : PySem.W.Frag) (a : Addr) : It :=
  ⟨fun i H => ∃ (xs : List V) (x : V), SqT K H a xs ∧ xs[i]? = some x, fun i H v H' => ∃ T x, v = .ref T ∧ H T = none ∧ H' = upd H T (.tup [.int (i : Nat), x]) ∧ ∀ xs, SqT K H a xs → xs[i]? = some x, fun i H => ∃ xs : List V, SqT K H a xs ∧ xs.length ≤ i⟩
theorem turn_enumT {P : Program} {w : World} {K : PySem.W.Frag} {elts : List Expr} {kk : Nat} {tpos : Pos} (a e it : Addr) :
    Turn P w K (.Tuple elts kk tpos) (Itet K a) [e, it] e (fun i h => (∃ old, IsEnum h e it ((i : Nat) : Int) old) ∧ h.IsTupleIter it a i ∧ e ≠ it) where
  mem := by simp
  obj := fun i h st b hb => by
    obtain ⟨⟨old, he⟩, ⟨o, ho, hc, hd⟩, _⟩ := st
    have e' : b = e ∨ b = it := by simpa using hb
    rcases e' with z | z
    · rw [z]; exact ⟨_, he, fun v q => nomatch q⟩
    · rw [z]; exact ⟨o, ho, fun v q => by rw [hd] at q; cases q⟩
  keep := fun i h h' st k => let ⟨⟨old, he⟩, hi, hne⟩ := st; ⟨⟨old, k e (by simp) _ he⟩, hi.at fun o q => k it (by simp) o q, hne⟩
  item := by
    intro X hP hw hK hc i pins s σ H E I hf st hg
    subst hP hw hK
    obtain ⟨⟨old, he⟩, hit, hne⟩ := st
    obtain ⟨xs, x, hq, hx⟩ := hg
    obtain ⟨its, rv, p, hz⟩ := I.tuple hq
    obtain ⟨u, hu, ru⟩ := rv.get hx
    have hel : e < s.heap.objs.size := Heap.lt_size he
    have hil : it < s.heap.objs.size := by obtain ⟨_, q, _⟩ := hit; exact Heap.lt_size q
    have hat : a ≠ it := fun z => by
      obtain ⟨o1, q1, c1, _⟩ := p
      obtain ⟨o2, q2, c2, _⟩ := hit
      rw [z, q2] at q1
      have q3 := Option.some.inj q1
      subst q3
      rw [c2] at c1
      have c3 : Value.type "tuple_iterator" = Value.type "tuple" := c1
      revert c3
      decide
    have hea : e ≠ a := fun z => by
      obtain ⟨o1, q1, c1, _⟩ := p
      rw [← z] at q1
      have q2 := Option.some.inj (he.symm.trans q1)
      subst q2
      have c3 : Value.type "enumerate" = Value.type "tuple" := c1
      revert c3
      decide
    have hlt : i < its.toArray.size := by
      have z := (List.getElem?_eq_some_iff.mp hu).1
      simpa using z
    refine wpAny_pyNext_enum_itemD (Draws.tuple (prog := X.prog) (w := X.w) (A := X.A.in1) (show X.A.in1.handled = none from I.ok.hd hc) it a hat its.toArray) he ⟨hit, p⟩ hlt hne (by simp [hne, hea]) fun x' h' tk hP ho hst' hT hsz hk => ?_
    have ex : x' = u := by
      have z : its[i]? = some x' := by simpa using hP
      rw [hu] at z
      exact (Option.some.inj z).symm
    subst ex
    refine ⟨_, rfl, wpAny_letOwnedTupleGo_enum (s := { s with heap := h', toks := tk + 1 }) ho fun h'' he' sb => ?_⟩
    have hT2 : h''.get? s.heap.objs.size = some { cls := .type "tuple", data := .seq #[.int i tk, x'] } := (sb.2 _ (Nat.ne_of_gt hel)).trans hT
    have new : ObjOk X.prog X.w (upd H s.heap.objs.size (.tup [.int (i : Nat), x])) h'' s.heap.objs.size (.tup [.int (i : Nat), x]) :=
      ⟨by show 2 ≤ sizeLine; decide, [.int i tk, x'], .cons ⟨_, rfl⟩ (.cons ru .nil), ⟨_, hT2, rfl, _, rfl⟩⟩
    have I1 : L2.Inv X pins σ (upd H s.heap.objs.size (.tup [.int (i : Nat), x])) { s with heap := h'', toks := tk + 1 } :=
      I.turnedNew (ch := [e, it]) (fun b ob hb q => (sb.2 b (fun z => hb (by simp [z]))).trans (hk b ob (fun z => hb (by simp [z])) (fun z => hb (by simp [z])) q)) hf (Nat.le_refl _) new
    refine ⟨.ref s.heap.objs.size, _, I1, rfl, ⟨_, x, rfl, I.hok.fresh (Nat.le_refl _), rfl, fun ys hy => by rw [I.tuple_inj hy hq]; exact hx⟩, ⟨⟨x', ?_⟩, hst'.1.at fun o q => (sb.2 it (Ne.symm hne)).trans q, hne⟩, fun b hb => ?_⟩
    · have e1 : ((i + 1 : Nat) : Int) = (i : Int) + 1 := by omega
      rw [e1]; exact he'
    · have hb' : b < s.heap.objs.size := by
        have e' : b = e ∨ b = it := by simpa using hb
        rcases e' with z | z
        · rw [z]; exact hel
        · rw [z]; exact hil
      rw [upd_ne (Nat.ne_of_lt hb')]
      exact (hf b hb).1
  done := by
    intro X hP hw hK hc i pins s σ H E I hf st hg
    subst hP hw hK
    obtain ⟨⟨old, he⟩, hit, hne⟩ := st
    obtain ⟨xs, hq, hx⟩ := hg
    obtain ⟨its, rv, p, hz⟩ := I.tuple hq
    have hat : a ≠ it := fun z => by
      obtain ⟨o1, q1, c1, _⟩ := p
      obtain ⟨o2, q2, c2, _⟩ := hit
      rw [z, q2] at q1
      have q3 := Option.some.inj q1
      subst q3
      rw [c2] at c1
      have c3 : Value.type "tuple_iterator" = Value.type "tuple" := c1
      revert c3
      decide
    obtain ⟨f0, f1, f2, f3, f4, f5⟩ := hf it (by simp)
    have hl := rv.length
    have hT : s.TypeIs (.ref e) "enumerate" := ⟨_, he, rfl⟩
    unfold pyNext
    refine wpAny_bind (wpAny_attempt (wpAny_callSpecial?_slot (name := Str.ofString "__next__") hT F.slot_enumerate_next
      (wpAny_call_entry F.slot_enumerate_next hT F.entry_enumerate_next ?_ (F.args_enumerate_next_1 _))))
    show wpAny _ _ (field (.ref e) 2 >>= _) _ _ _
    refine wpAny_bind (wpAny_field he rfl (x := .ref it) rfl ?_)
    refine wpAny_bind (wpAny_nextOf_tuple_end (show X.A.in1.handled = none from I.ok.hd hc) hit p (by simp; omega) fun h' x he' hx' => ?_)
    obtain ⟨o, ho, hcx⟩ := hx'
    refine wpAny_bind (wpAny_isInstance (T := "StopIteration") (b := true) ⟨o, ho, hcx⟩ isSubtype_stop ?_)
    exact wpAny_pure ⟨rfl, I.turned (t' := s.toks) (fun b o hb q => he' b o hb q) f0 f1 f3 f4 f5⟩
  self := fun A i s Q E st h => let ⟨⟨_, he⟩, _⟩ := st; wpAny_pyIter_enum he h

def iEnumT (K : PySem.W.Frag) (ta : TA) : TI := fun σ H R => ta σ H fun vs H1 => ∃ a xs, vs = [.ref a] ∧ SqT K H1 a xs ∧ R (Itet K a) H1
theorem pi_enumT {X : Cx} {e : Expr} {ta : TA} {p pos tpos : Pos} {elts : List Expr} {kk : Nat} (hg : Gl X "enumerate") (hm : X.mg "enumerate" = none) (ha : PA X [e] ta) (hs : starEach [e] X.env = [(false, eval e X.env)] := by rfl) :
    PI X (.Tuple elts kk tpos) (.Call (.Name "enumerate" p) [e] [] pos) (iEnumT X.K ta) := by
  refine ⟨fun pins s σ H R I h => ?_⟩
  refine Call_ (ld_blt I hg hm boot_enumerate (PyProof.Rows.callWith_type1 (thn (ha.run pos pins s σ H _ I h) fun us s1 ⟨vs, H1, I1, r1, q1⟩ => ?_) hs rfl))
  obtain ⟨a, xs, ex, hq, q⟩ := q1
  subst ex
  cases r1 with
  | cons r rr =>
    cases rr
    cases r
    obtain ⟨its, rv, p', hz⟩ := I1.tuple hq
    refine call_enumerate_tuple p' fun h' he hit hsz hk => wpAny_pyIter_enum he ?_
    have I2 : L2.Inv X pins σ H1 { s1 with heap := h' } := I1.kept (t' := s1.toks) hk
    refine ⟨s1.heap.objs.size + 1, [s1.heap.objs.size + 1, s1.heap.objs.size], _, _, H1, rfl, I2, turn_enumT a (s1.heap.objs.size + 1) s1.heap.objs.size, ⟨⟨.none, he⟩, hit, Nat.succ_ne_self _⟩, fun b hb => ?_, q⟩
    have e' : b = s1.heap.objs.size + 1 ∨ b = s1.heap.objs.size := by simpa using hb
    have hle : s1.heap.objs.size ≤ b := by
      rcases e' with z | z
      · rw [z]; exact Nat.le_add_right _ _
      · rw [z]; exact Nat.le_refl _
    exact I1.fpOk hle (I1.hok.fresh hle)
/-- a for over enumerate(tuple), the invariant Pv by the turn -/
theorem for_enumT {K : PySem.W.Frag} {a : Addr} {xs : List V} {g : TG} {tb : TS} {D : Ends} {σ : L2.St} {H : Hp} (Pv : Nat → L2.St → Hp → Prop) (h0 : Pv 0 σ H) (hl : ∀ i σ H, i ≤ xs.length → Pv i σ H → SqT K H a xs)
    (hs : ∀ i x σ H T, xs[i]? = some x → Pv i σ H → H T = none → g (.ref T) σ (upd H T (.tup [.int (i : Nat), x])) fun σ2 H2 => tb { D with nx := Pv (i + 1), ct := Pv (i + 1), bk := D.nx } σ2 H2)
    (hd : ∀ σ H, Pv xs.length σ H → D.nx σ H) :
    ∃ W : Nat → Nat → L2.St → Hp → Prop, (∃ m, W 0 m σ H) ∧ ∀ i m σ H, W i m σ H →
      ((Itet K a).stop i H ∧ D.nx σ H) ∨ ((Itet K a).go i H ∧ ∃ N : L2.St → Hp → Prop, (∀ σ' H', N σ' H' → ∃ m', m' < m ∧ W (i + 1) m' σ' H') ∧ ∀ x H', (Itet K a).yld i H x H' → g x σ H' fun σ2 H2 => tb { D with nx := N, ct := N, bk := D.nx } σ2 H2) := by
  refine ⟨fun i m σ H => m = xs.length - i ∧ i ≤ xs.length ∧ Pv i σ H, ⟨xs.length, by simp, Nat.zero_le _, h0⟩, ?_⟩
  rintro i m σ H ⟨rfl, hi, p⟩
  have q := hl i σ H hi p
  by_cases hlt : i < xs.length
  · refine .inr ⟨⟨xs, xs[i], q, by simp [hlt]⟩, Pv (i + 1), fun σ' H' p' => ⟨xs.length - (i + 1), by omega, rfl, hlt, p'⟩, fun x H' y => ?_⟩
    obtain ⟨T, x', ev, hT, eH, hx⟩ := y
    subst ev eH
    exact hs i x' σ H T (hx xs q) p hT
  · have e : i = xs.length := by omega
    subst e
    exact .inl ⟨⟨xs, q, Nat.le_refl _⟩, hd σ H p⟩
end Kw




set_option Elab.async false
set_option linter.all false
set_option maxRecDepth 100000
set_option maxHeartbeats 4000000
namespace Kw
open PySem PySem.Spec PyProof.Rows L2
section
variable {X : Cx}
/-- x in t, t a tuple of data of any depth -/
def rInDT (K : PySem.W.Frag) (neg : Bool) : R2 := fun x y H Q => ∃ d ds, Dp K H x d ∧ Dp K H y (.tuple ds) ∧ SeqAt.shaped d = true ∧ SeqAt.shaped (.tuple ds) = true ∧ Q (.bl (if neg then !(ds.any fun z => PyData.eqv z d) else ds.any fun z => PyData.eqv z d)) H
theorem op_inDT (hu : X.A.units + 65 < cLine) : OpR X (compareOp .In) (rInDT X.K false) := by
  intro pins s σ H x y v u Q I rx ry h
  obtain ⟨d, ds, hd, he, sd, se, q⟩ := h
  obtain ⟨as, r1⟩ := Dp.reads I d x v hd rx
  obtain ⟨bs, r2⟩ := Dp.reads I (.tuple ds) y u he ry
  exact SeqAt.in_tuple_reads r2 r1 (SeqAt.canLay_of_shaped se) (SeqAt.canLay_of_shaped sd) (room_in_shaped sd hu) ⟨.bl _, H, I, rfl, q⟩
end

/-! ### isinstance of a caught error of an own class, with a dict of its own or without -/
section
open PySem.W
variable {prog : Program} {w : World} {A : Around} {E : Value → Shared → Prop} {s : Shared} {K : Frag} {x D : Addr} {ox : Obj}
theorem findObj_dataO {C : Addr} {name : Str} {a g : Value} {od : Option Obj} (hc : (clsIn K C).isSome = true) (ha : findIn K (.ref C) name = some (some a)) (hg : specialIn K a "__get__" = some (some g)) (ht : takesIn K a = some true) : findObj K C od name = some (.bind g a) := by
  obtain ⟨cd, hc⟩ := Option.isSome_iff_exists.mp hc
  unfold findObj
  rw [hc, Option.bind_some, ha, Option.bind_some]
  simp [hg, ht]
theorem kin_classO {od : Option Obj} {Q : Option Value → Shared → Prop} (hga : findIn K (.ref D) "__getattribute__" = some (some (.builtin "BaseException.__getattribute__"))) (hgt : findIn K (.ref D) "__getattr__" = some none) (hsub : subIn K (.ref D) (.type "BaseException") = some true)
    (hdct : hasDictIn K D = true) (ha : findIn K (.ref D) "__class__" = some (some (.builtin "object.__class__")))
    (hn : specialIn K (.builtin "object.__class__") "__get__" = some (some (.builtin "getset_descriptor.__get__"))) (htk : takesIn K (.builtin "object.__class__") = some true) (hm : mroIn K D (.type "object") = some true)
    (X : K.In s.heap) (I : InstAt s.heap x ox D od) (h : Q (some (.ref D)) { s with toks := s.toks + 1 }) : wpAny (model prog w) A (getAttr? (.ref x) "__class__") Q E s := by
  have hf : findObj K D od "__class__" = some (.bind (.builtin "getset_descriptor.__get__") (.builtin "object.__class__")) := findObj_dataO (by obtain ⟨cd, hc, _⟩ := any_some hdct; rw [hc]; rfl) ha hn htk
  obtain ⟨hp, g, d, t, os⟩ := s
  have L0 := I.type (M := model prog w)
  have L1 := looks_findIn (M := model prog w) X hga
  have L2' := looks_findIn (M := model prog w) X hgt
  have L3 := looks_find (M := model prog w) X I hf
  have sub : Looks (model prog w) hp (isInstance (.ref x) (.type "BaseException")) true := L0.andThen (looks_subIn X hsub)
  have hx0 : (false && onTheHeap (Value.builtin "BaseException.__getattribute__")) = false := rfl
  have hx2 : (Value.builtin "BaseException.__getattribute__" == Value.builtin "object.__getattribute__") = false := by decide +kernel
  have hx1 : (onTheHeap (Value.ref D) && Value.builtin "BaseException.__getattribute__" == Value.builtin "object.__getattribute__") = false := by rw [hx2]; rfl
  unfold getAttr? getAttrBy? getAttrBy
  refine wpAny_bind (wpAny_mkText (wpAny_bind (wpAny_attempt (wpAny_holding (wpAny_bind (L0.at (wpAny_bind (L1.at ?_))))))))
  show wpAny _ _ (if (onTheHeap (Value.ref D) && Value.builtin "BaseException.__getattribute__" == Value.builtin "object.__getattribute__") = true then _ else _) _ _ _
  rw [hx1, if_neg Bool.false_ne_true]
  unfold getAttrByItsOwn hookBefore
  refine wpAny_bind ?_
  rw [if_pos (show onTheHeap (Value.ref D) = true from rfl)]
  refine L2'.at ?_
  refine wpAny_bind (wpAny_attempt (wpAny_holding ?_))
  unfold callGetattribute
  rw [hx0, if_neg Bool.false_ne_true]
  unfold boundAndCalled
  rw [PySem.F.excAttr_ValueError.ga.bind (.ref x)]
  refine wpAny_bind (wpAny_pure ?_)
  show wpAny _ _ (call (.builtin "BaseException.__getattribute__") [.ref x, .str "__class__" t]) _ _ _
  refine wpAny_call (PySem.codeAny_call_builtin PySem.F.excAttr_ValueError.ga.plain PySem.F.entry_bexc_ga ?_)
  refine @check_slot (model prog w) _ _ ⟨hp, g, d, t + 1, os⟩ "BaseException.__getattribute__" "BaseException" "__getattribute__" (.ref x) [.str "__class__" t] [] _ (by decide +kernel) (by decide +kernel) sub (PySem.F.args_bexc_ga (.ref x) (.str "__class__" t)) ?_
  unfold Builtin.«object.__getattribute__»
  refine wpAny_bind (wpAny_of_eq (a := ((Value.ref x : Value), [Value.str "__class__" t])) (by first | rfl | (simp only [slotArgs]; rfl)) ?_)
  refine wpAny_bind (wpAny_pure (wpAny_bind (L0.at (wpAny_bind (L3.at ?_)))))
  show wpAny _ _ (holding [Value.builtin "object.__class__"] (call (.builtin "getset_descriptor.__get__") [.builtin "object.__class__", .ref x, .ref D]) >>= ret) _ _ _
  refine wpAny_bind (wpAny_holding (wpAny_call (class_get (s := ⟨hp, g, d, t + 1, os⟩) (ox := ox) (od := od) X I hm ?_)))
  refine wpAny_pure ?_
  show wpAny _ _ (handedOut (.ref D)) _ _ _
  rw [handedOut_of (v := .ref D) rfl]
  first
    | exact wpAny_pure (wpAny_pure h)
    | exact wpAny_pure h
    | exact wpAny_pure (wpAny_bind (wpAny_pure (wpAny_pure h)))
theorem kitx_excO (hga : findIn K (.ref D) "__getattribute__" = some (some (.builtin "BaseException.__getattribute__"))) (hgt : findIn K (.ref D) "__getattr__" = some none) (hsub : subIn K (.ref D) (.type "BaseException") = some true) (hdct : hasDictIn K D = true) (ha : findIn K (.ref D) "__class__" = some (some (.builtin "object.__class__")))
    (hn : specialIn K (.builtin "object.__class__") "__get__" = some (some (.builtin "getset_descriptor.__get__"))) (htk : takesIn K (.builtin "object.__class__") = some true) (hm : mroIn K D (.type "object") = some true) :
    KitX K (.ref x) (.ref D) (fun h => ∃ od, InstAt h x ox D od) where
  ty := fun _ _ _ ⟨_, I⟩ => I.type
  it := fun _ _ X _ => by
    obtain ⟨cdD, hcD, _⟩ := any_some hdct
    unfold clsIn at hcD
    split at hcD
    · rename_i c' d' cd' sl' ho
      intro A' Q' E' s' k q
      unfold isType loadHead
      exact wpAny_bind (wpAny_loadPart (k _ _ (X _ _ ho)) (wpAny_pure q))
    · cases hcD
  ne := fun h tp dd its n sl X htp => by
    obtain ⟨cdD, hcD, _⟩ := any_some hdct
    refine Bool.eq_false_iff.mpr fun q => ?_
    have e : D = tp := Value.ref.inj (beq_iff_eq.mp q)
    subst e
    unfold clsIn at hcD
    split at hcD
    · rename_i c' d' cd' sl' ho
      have z := (X _ _ ho).symm.trans htp
      cases z
    · cases hcD
  ca := fun X ⟨_, I⟩ k => kin_classO hga hgt hsub hdct ha hn htk hm X I k
end
/-- the suite's error stands at a: its class D, its dict none or an error's dict -/
theorem call_isO {X : Cx} {a D : Addr} {dd : Option Addr} {oe : Obj} {pn : List (Addr × Obj)} (C : ExcC X.K D) (hz : Zc (.ref D) dd oe) (hf : ∃ vs, oe.data = .fields vs) :
    CallR (X.suite a ((a, oe) :: pn)) (.builtin "isinstance") (fun xs H Q => (∀ d, dd = some d → ∃ fs, H d = some (.xd fs)) ∧ rIsE X.K D a xs H Q) := by
  intro pins s σ H xs us Q I r h
  obtain ⟨hd, c, cv, b, rfl, hcv, e, q⟩ := h
  cases r with
  | cons rx rr =>
    cases rr with
    | cons rt rr =>
      cases rr
      cases rx
      have ec := hcv _ rt
      subst ec
      obtain ⟨hget, _⟩ := I.pin (a, oe) (List.mem_append.mpr (.inl List.mem_cons_self))
      obtain ⟨vs, hv⟩ := hf
      have J : ∃ od, PySem.W.InstAt s.heap a oe D od := by
        obtain ⟨h1, h2⟩ := hz
        have hn : PySem.W.notCls oe = true := by unfold PySem.W.notCls; rw [hv] <;> rfl
        cases dd with
        | none => exact ⟨none, hget, h1, hn, by rw [show oe.dict = none from h2]; trivial⟩
        | some d =>
          obtain ⟨fs, hfs⟩ := hd d rfl
          obtain ⟨mA, ⟨o, es, ep, ho, hr⟩, _⟩ := (show ObjOk X.prog X.w H s.heap d (.xd fs) from I.hok d _ hfs)
          exact ⟨some o, hget, h1, hn, by rw [h2]; exact ho⟩
      exact PySem.W.kia_one (kitx_excO C.hg C.hk C.hs C.hd C.ha C.hn C.ht C.hm) I.kIn J e (fun z => nomatch z) fun tk => ⟨.bl b, H, I.kept (t' := tk) fun _ _ z => z, rfl, q⟩
end Kw




set_option Elab.async false
set_option linter.all false
set_option maxRecDepth 100000
set_option maxHeartbeats 4000000
/-! Data on the heap and what stays. -/
namespace Kw
open PySem PySem.Spec PyProof.Rows L2

/-- all stays but the lists at b and l, and the tables -/
structure Kp (b l : Addr) (H H' : Hp) : Prop where
  nl : ∀ a o, H a = some o → (∀ xs, o ≠ .lst xs) → (∀ ps, o ≠ .tbl ps) → H' a = some o
  ls : ∀ a xs, H a = some (.lst xs) → a ≠ b → a ≠ l → H' a = some (.lst xs)
theorem Kp.refl (b l : Addr) (H : Hp) : Kp b l H H := ⟨fun _ _ h _ _ => h, fun _ _ h _ _ => h⟩
theorem Kp.trans {b l : Addr} {H H1 H2 : Hp} (x : Kp b l H H1) (y : Kp b l H1 H2) : Kp b l H H2 :=
  ⟨fun a o h n t => y.nl a o (x.nl a o h n t) n t, fun a xs h n t => y.ls a xs (x.ls a xs h n t) n t⟩
theorem Kp.same {b l : Addr} {H H' : Hp} (e : Same H H') : Kp b l H H' := ⟨fun a o h _ _ => e a o h, fun a xs h _ _ => e a _ h⟩
theorem same_upd {H : Hp} {p : Addr} {o : HO} (h : H p = none) : Same H (upd H p o) := fun a u e => by
  rw [upd_ne (ne_of_none e h)]
  exact e
theorem Same.upd2 {H H' : Hp} {p : Addr} {o : HO} (e : Same H H') (h : H' p = none) : Same H (upd H' p o) := e.trans (same_upd h)
/-! data without lists -/
mutual
def noL : PyData → Bool
  | .none => true
  | .bool _ => true
  | .int _ => true
  | .str _ => true
  | .tuple ds => noLs ds
  | .list _ => false
  | .dict _ => false
def noLs : List PyData → Bool
  | [] => true
  | d :: ds => noL d && noLs ds
end
/-- what is not a list or a table stays -/
def Nl (H H' : Hp) : Prop := ∀ a o, H a = some o → (∀ xs, o ≠ .lst xs) → (∀ ps, o ≠ .tbl ps) → H' a = some o
theorem SqT.nl {K : PySem.W.Frag} {H H' : Hp} {a : Addr} {xs : List V} (k : Nl H H') (h : SqT K H a xs) : SqT K H' a xs := by
  rcases h with (h | ⟨o, h⟩) | h
  · exact .inl (.inl (k _ _ h (fun _ z => nomatch z) fun _ z => nomatch z))
  · exact .inl (.inr ⟨o, k _ _ h (fun _ z => nomatch z) fun _ z => nomatch z⟩)
  · exact .inr h
theorem SqT.same {K : PySem.W.Frag} {H H' : Hp} {a : Addr} {xs : List V} (k : Same H H') (h : SqT K H a xs) : SqT K H' a xs := SqT.nl (fun a o e _ _ => k a o e) h
mutual
theorem Dp.nl {K : PySem.W.Frag} {H H' : Hp} (k : Nl H H') : ∀ (d : PyData) (v : V), noL d = true → Dp K H v d → Dp K H' v d
  | .none, _, _, h => by cases h; exact .non
  | .bool b, _, _, h => by cases h; exact .bl b
  | .int i, _, _, h => by cases h; exact .int i
  | .str x, _, _, h => by cases h; exact .str x
  | .list ds, _, n, _ => by simp [noL] at n
  | .tuple ds, _, n, h => by
    cases h with
    | tup hs ha => exact .tup (SqT.nl k hs) (Dp.nls k ds _ (by simpa [noL] using n) ha)
  | .dict _, _, n, _ => by simp [noL] at n
theorem Dp.nls {K : PySem.W.Frag} {H H' : Hp} (k : Nl H H') : ∀ (ds : List PyData) (vs : List V), noLs ds = true → DpAll K H vs ds → DpAll K H' vs ds
  | [], _, _, h => by cases h; exact .nil
  | d :: ds, _, n, h => by
    cases h with
    | cons h1 h2 =>
      have n' : noL d = true ∧ noLs ds = true := by simpa [noLs] using n
      exact .cons (Dp.nl k d _ n'.1 h1) (Dp.nls k ds _ n'.2 h2)
end
/-- tuples that are read stay -/
def Tp (H H' : Hp) : Prop := ∀ a xs, Rd H a (.tup xs) → Rd H' a (.tup xs)
mutual
theorem Dp.tp {K : PySem.W.Frag} {H H' : Hp} (k : Tp H H') : ∀ (d : PyData) (v : V), noL d = true → Dp K H v d → Dp K H' v d
  | .none, _, _, h => by cases h; exact .non
  | .bool b, _, _, h => by cases h; exact .bl b
  | .int i, _, _, h => by cases h; exact .int i
  | .str x, _, _, h => by cases h; exact .str x
  | .list ds, _, n, _ => by simp [noL] at n
  | .tuple ds, _, n, h => by
    cases h with
    | tup hs ha => exact .tup (hs.elim (fun r => .inl (k _ _ r)) .inr) (Dp.tps k ds _ (by simpa [noL] using n) ha)
  | .dict _, _, n, _ => by simp [noL] at n
theorem Dp.tps {K : PySem.W.Frag} {H H' : Hp} (k : Tp H H') : ∀ (ds : List PyData) (vs : List V), noLs ds = true → DpAll K H vs ds → DpAll K H' vs ds
  | [], _, _, h => by cases h; exact .nil
  | d :: ds, _, n, h => by
    cases h with
    | cons h1 h2 =>
      have n' : noL d = true ∧ noLs ds = true := by simpa [noLs] using n
      exact .cons (Dp.tp k d _ n'.1 h1) (Dp.tps k ds _ n'.2 h2)
end
mutual
theorem Dp.same {K : PySem.W.Frag} {H H' : Hp} (k : Same H H') : ∀ (d : PyData) (v : V), Dp K H v d → Dp K H' v d
  | .none, _, h => by cases h; exact .non
  | .bool b, _, h => by cases h; exact .bl b
  | .int i, _, h => by cases h; exact .int i
  | .str x, _, h => by cases h; exact .str x
  | .list ds, _, h => by
    cases h with
    | lst hs ha => exact .lst (k.seq hs) (Dp.sames k ds _ ha)
  | .tuple ds, _, h => by
    cases h with
    | tup hs ha => exact .tup (SqT.same k hs) (Dp.sames k ds _ ha)
  | .dict _, _, h => by cases h
theorem Dp.sames {K : PySem.W.Frag} {H H' : Hp} (k : Same H H') : ∀ (ds : List PyData) (vs : List V), DpAll K H vs ds → DpAll K H' vs ds
  | [], _, h => by cases h; exact .nil
  | d :: ds, _, h => by
    cases h with
    | cons h1 h2 => exact .cons (Dp.same k d _ h1) (Dp.sames k ds _ h2)
end
theorem DpAll.len {K : PySem.W.Frag} {H : Hp} : ∀ {vs : List V} {ds : List PyData}, DpAll K H vs ds → vs.length = ds.length
  | _, _, .nil => rfl
  | _, _, .cons _ h => by simp [DpAll.len h]
theorem DpAll.get {K : PySem.W.Frag} {H : Hp} : ∀ {vs : List V} {ds : List PyData} {i : Nat} {x : V}, DpAll K H vs ds → vs[i]? = some x → ∃ d, ds[i]? = some d ∧ Dp K H x d
  | _, _, _, _, .nil, e => by simp at e
  | _, _, 0, _, .cons h _, e => by
    simp at e
    subst e
    exact ⟨_, rfl, h⟩
  | _, _, i + 1, x, .cons _ t, e => by
    obtain ⟨d, h1, h2⟩ := DpAll.get (i := i) (x := x) t (by simpa using e)
    exact ⟨d, by simpa using h1, h2⟩
theorem DpAll.app {K : PySem.W.Frag} {H : Hp} : ∀ {vs ws : List V} {ds es : List PyData}, DpAll K H vs ds → DpAll K H ws es → DpAll K H (vs ++ ws) (ds ++ es)
  | _, _, _, _, .nil, h => h
  | _, _, _, _, .cons h t, k => .cons h (DpAll.app t k)
theorem DpAll.take {K : PySem.W.Frag} {H : Hp} : ∀ {vs : List V} {ds : List PyData} (n : Nat), DpAll K H vs ds → DpAll K H (vs.take n) (ds.take n)
  | _, _, 0, _ => .nil
  | _, _, _ + 1, .nil => .nil
  | _, _, n + 1, .cons h t => .cons h (DpAll.take n t)
theorem noLs_map {α : Type} (f : α → PyData) (h : ∀ a, noL (f a) = true) : ∀ l : List α, noLs (l.map f) = true
  | [] => rfl
  | a :: l => by simp [noLs, h a, noLs_map f h l]

/-! ### places -/
inductive Wd where
  | hand | box | gone
  deriving DecidableEq
def Wd.str : Wd → Str
  | .hand => "hand"
  | .box => "box"
  | .gone => "gone"
abbrev Pl := Wd × Int
def plD (p : Pl) : PyData := .tuple [.str p.1.str, .int p.2]
def plsD (ps : List Pl) : PyData := .tuple (ps.map plD)
theorem wd_ok (w : Wd) : PyData.strOk w.str = true := by cases w <;> decide +kernel
theorem wd_inj {u v : Wd} (h : u.str = v.str) : u = v := by cases u <;> cases v <;> first | rfl | (revert h; decide +kernel)
theorem noL_pl (p : Pl) : noL (plD p) = true := rfl
theorem noL_pls (ps : List Pl) : noL (plsD ps) = true := noLs_map plD noL_pl ps
theorem lay_pl (p : Pl) : PyData.canLay0 (plD p) = true := by simp [plD, PyData.canLay0, PyData.canLayAll0, wd_ok]
theorem lay_pls : ∀ ps : List Pl, PyData.canLayAll0 (ps.map plD) = true
  | [] => rfl
  | p :: ps => by simp [PyData.canLayAll0, lay_pl p, lay_pls ps]
theorem depth_pl (p : Pl) : PyData.depth (plD p) = 1 := by simp [plD, PyData.depth, PyData.depthAll]
theorem depth_pls : ∀ ps : List Pl, PyData.depthAll (ps.map plD) ≤ 1
  | [] => by simp [PyData.depthAll]
  | p :: ps => by
    have := depth_pls ps
    have := depth_pl p
    simp [PyData.depthAll]
    omega
theorem shaped_pl (p : Pl) : SeqAt.shaped (plD p) = true := by simp [SeqAt.shaped, lay_pl, depth_pl]
theorem shaped_pls (ps : List Pl) : SeqAt.shaped (plsD ps) = true := by
  have h1 := lay_pls ps
  have h2 := depth_pls ps
  simp [SeqAt.shaped, plsD, PyData.canLay0, PyData.depth, h1]
  omega
theorem eqv_pl (p q : Pl) : PyData.eqv (plD p) (plD q) = decide (p = q) := by
  obtain ⟨u, i⟩ := p
  obtain ⟨v, j⟩ := q
  by_cases h1 : u = v
  · subst h1
    by_cases h2 : i = j
    · subst h2
      simp [plD, PyData.eqv, PyData.eqvAll]
    · simp [plD, PyData.eqv, PyData.eqvAll, h2]
  · have h3 : ¬ u.str = v.str := fun z => h1 (wd_inj z)
    simp [plD, PyData.eqv, PyData.eqvAll, h1, h3]
theorem pl_at {K : PySem.W.Frag} {H : Hp} {x : V} {p : Pl} (h : Dp K H x (plD p)) : ∃ a, x = .ref a ∧ SqT K H a [.str p.1.str, .int p.2] := by
  cases h with
  | tup hs ha =>
    cases ha with
    | cons h1 h2 =>
      cases h1
      cases h2 with
      | cons h3 h4 =>
        cases h3
        cases h4
        exact ⟨_, rfl, hs⟩
theorem pls_at {K : PySem.W.Frag} {H : Hp} {x : V} {ps : List Pl} (h : Dp K H x (plsD ps)) : ∃ a xs, x = .ref a ∧ SqT K H a xs ∧ DpAll K H xs (ps.map plD) ∧ xs.length = ps.length := by
  cases h with
  | tup hs ha => exact ⟨_, _, rfl, hs, ha, by rw [DpAll.len ha, List.length_map]⟩
theorem pls_get {K : PySem.W.Frag} {H : Hp} {xs : List V} {ps : List Pl} {i : Nat} {x : V} (h : DpAll K H xs (ps.map plD)) (e : xs[i]? = some x) : ∃ p, ps[i]? = some p ∧ Dp K H x (plD p) := by
  obtain ⟨d, h1, h2⟩ := DpAll.get h e
  rw [List.getElem?_map] at h1
  cases q : ps[i]? with
  | none =>
    rw [q] at h1
    cases h1
  | some p =>
    rw [q] at h1
    cases h1
    exact ⟨p, rfl, h2⟩
end Kw




set_option Elab.async false
set_option linter.all false
set_option maxRecDepth 100000
set_option maxHeartbeats 4000000
namespace Kw
open PySem PySem.Spec PyProof.Rows L2
section
variable {X : Cx}
end
end Kw




set_option Elab.async false
set_option linter.all false
set_option maxRecDepth 100000
set_option maxHeartbeats 4000000
namespace Kw
open PySem PySem.Spec PyProof.Rows L2
/-- a tuple that was made here and bears no dict: it may be asked for its methods -/
def Fz (H : Hp) (a : Addr) (xs : List V) : Prop := ∃ o : Obj, H a = some (.frz o (.tup xs)) ∧ o.cls = .type "tuple" ∧ o.dict = none
theorem Fz.sq {K : PySem.W.Frag} {H : Hp} {a : Addr} {xs : List V} (h : Fz H a xs) : SqT K H a xs := by
  obtain ⟨o, h, _⟩ := h
  exact .inl (.inr ⟨o, h⟩)
theorem Fz.nl {H H' : Hp} {a : Addr} {xs : List V} (k : Nl H H') (h : Fz H a xs) : Fz H' a xs := by
  obtain ⟨o, h, c, d⟩ := h
  exact ⟨o, k _ _ h (fun _ z => nomatch z) (fun _ z => nomatch z), c, d⟩
section
variable {X : Cx}
variable {o e : Expr} {es : List Expr} {to : TE} {t : TA} {name : Str} {apos cpos : Pos} {id : String} {r : V → List V → Hp → VK → Prop}
end
end Kw




set_option Elab.async false
set_option linter.all false
set_option maxRecDepth 100000
set_option maxHeartbeats 4000000
namespace Kw
open PySem PySem.Spec PyProof.Rows L2

def top (i : Nat) : Stmt := PySem.Challenge.pw_sealwatch_k41_rounds_refused.main.body.getD i (.Pass ⟨0, 0, 0, 0⟩)
abbrev sIH : Stmt := inClass (top 3) 0
abbrev sNum : Stmt := top 16
abbrev sMany : Stmt := top 17
abbrev sInit : Stmt := inClass (top 57) 0
abbrev sHas : Stmt := inClass (top 57) 2
abbrev sNeed : Stmt := top 58
abbrev sBoxes : Stmt := top 59
abbrev sIsPl : Stmt := top 60

/-! ### the built-in names that the module leaves alone -/
structure Bt (mg : Str → Option Value) : Prop where
  isi : mg "isinstance" = none
  int : mg "int" = none
  bool : mg "bool" = none
  len : mg "len" = none
  enu : mg "enumerate" = none
  tup : mg "tuple" = none
  lst : mg "list" = none
  rng : mg "range" = none
  str : mg "str" = none

section
variable {P : Program} {w : World} {K : PySem.W.Frag} {mg : Str → Option Value} {base : Heap}
/-! ### is_number -/
def numOk (n l : Int) : Bool := decide (0 ≤ n) && decide (n < l)
def spNum : Sp := fun vs H Q _ => ∃ n l : Int, vs = [.int n, .int l] ∧ Q (.bl (numOk n l)) H
theorem scNum : FnScope ["value", "limit"] ["value", "limit"] (defScope sNum) := ⟨rfl, rfl, rfl, by decide +kernel, rfl, by decide +kernel, by decide +kernel⟩
theorem ok_num {f : Addr} {fd : FuncData} (F : Fun K "is_number" "is_number" sNum f fd) (B : Bt mg) : FnOk P w K mg base CX0 1 f fd ["value", "limit"] spNum := by
  refine F.ok scNum (fun vs H Q E h => ?_) (fun cdv A outer s H vs Q E hr h => ?_)
  · obtain ⟨n, l, rfl, _⟩ := h
    rfl
  · obtain ⟨n, l, rfl, k⟩ := h
    refine ⟨_, pss_one (ps_ret (pe_and (pe_callB call_isi (by rfl) B.isi (by decide +kernel) (pa_cons (pv 0) (pa_cons (pe_bltn (v := .ty "int") (by rfl) B.int (by decide +kernel) rfl) pa_nil)))
      (pe_and (pe_not (pe_callB call_isi (by rfl) B.isi (by decide +kernel) (pa_cons (pv 0) (pa_cons (pe_bltn (v := .ty "bool") (by rfl) B.bool (by decide +kernel) rfl) pa_nil))))
        (pe_one (pe_chain op_le op_lt pe_int (pv 0) (pv 1)))))), ?_⟩
    refine ⟨_, rfl, _, _, _, _, true, rfl, .ty "int", .base (.int n), kit_ty (by decide +kernel), _, rfl, iteT ?_⟩
    refine ⟨_, rfl, _, _, _, _, false, rfl, .ty "bool", .base (.int n), kit_ty (by decide +kernel), _, rfl, _, rfl, iteT ?_⟩
    refine ⟨_, rfl, _, _, rfl, rfl, _, rfl, ?_⟩
    unfold numOk at k
    by_cases c : (0 : Int) ≤ n
    · rw [decide_eq_true c] at k ⊢
      refine iteT ⟨_, rfl, _, _, rfl, rfl, ?_⟩
      exact k
    · rw [decide_eq_false c] at k ⊢
      exact iteF k

/-! ### houses -/
structure Hs where
  hands : Int
  bs : List Pl
  ts : List Pl
  ss : List Pl
def stD (d : Hs) : PyData := .tuple [plsD d.bs, plsD d.ts, plsD d.ss]
def hsFs (n : Int) (vb vt vs vst : V) : List (Str × V) := putF "state" vst (putF "seals" vs (putF "things" vt (putF "boxes" vb (putF "hands" (.int n) []))))
theorem fs_hands (n : Int) (vb vt vs vst : V) : (hsFs n vb vt vs vst).lookup ("hands" : Str) = some (.int n) := by
  unfold hsFs
  rw [lookup_putF, if_neg (by decide +kernel), lookup_putF, if_neg (by decide +kernel), lookup_putF, if_neg (by decide +kernel), lookup_putF, if_neg (by decide +kernel), lookup_putF, if_pos rfl]
theorem fs_boxes (n : Int) (vb vt vs vst : V) : (hsFs n vb vt vs vst).lookup ("boxes" : Str) = some vb := by
  unfold hsFs
  rw [lookup_putF, if_neg (by decide +kernel), lookup_putF, if_neg (by decide +kernel), lookup_putF, if_neg (by decide +kernel), lookup_putF, if_pos rfl]
theorem fs_things (n : Int) (vb vt vs vst : V) : (hsFs n vb vt vs vst).lookup ("things" : Str) = some vt := by
  unfold hsFs
  rw [lookup_putF, if_neg (by decide +kernel), lookup_putF, if_neg (by decide +kernel), lookup_putF, if_pos rfl]
theorem fs_seals (n : Int) (vb vt vs vst : V) : (hsFs n vb vt vs vst).lookup ("seals" : Str) = some vs := by
  unfold hsFs
  rw [lookup_putF, if_neg (by decide +kernel), lookup_putF, if_pos rfl]
theorem fs_state (n : Int) (vb vt vs vst : V) : (hsFs n vb vt vs vst).lookup ("state" : Str) = some vst := by
  unfold hsFs
  rw [lookup_putF, if_pos rfl]
structure HouseAt (K : PySem.W.Frag) (C : Addr) (H : Hp) (h : Addr) (d : Hs) : Prop where
  ex : ∃ dx vb vt vs vst, H h = some (.ins C dx (hsFs d.hands vb vt vs vst)) ∧ Dp K H vb (plsD d.bs) ∧ Dp K H vt (plsD d.ts) ∧ Dp K H vs (plsD d.ss) ∧ Dp K H vst (stD d)
theorem noL_st (d : Hs) : noL (stD d) = true := by simp [stD, noL, noLs, noL_pls]
theorem HouseAt.nl {K : PySem.W.Frag} {C : Addr} {H H' : Hp} {h : Addr} {d : Hs} (k : Nl H H') (x : HouseAt K C H h d) : HouseAt K C H' h d := by
  obtain ⟨dx, vb, vt, vs, vst, h0, h1, h2, h3, h4⟩ := x.ex
  exact ⟨dx, vb, vt, vs, vst, k _ _ h0 (fun _ z => nomatch z) (fun _ z => nomatch z), Dp.nl k _ _ (noL_pls _) h1, Dp.nl k _ _ (noL_pls _) h2, Dp.nl k _ _ (noL_pls _) h3, Dp.nl k _ _ (noL_st _) h4⟩
/-! ### a state of which the row of seals may be asked for its methods -/
def Fv (H : Hp) (v : V) : Prop := ∃ a xs, v = .ref a ∧ Fz H a xs
theorem Fv.nl {H H' : Hp} {v : V} (k : Nl H H') (h : Fv H v) : Fv H' v := by
  obtain ⟨a, xs, e, f⟩ := h
  exact ⟨a, xs, e, f.nl k⟩
structure StF (K : PySem.W.Frag) (H : Hp) (v : V) (d : Hs) : Prop where
  ex : ∃ a v1 v2 v3, v = .ref a ∧ SqT K H a [v1, v2, v3] ∧ Dp K H v1 (plsD d.bs) ∧ Dp K H v2 (plsD d.ts) ∧ Dp K H v3 (plsD d.ss) ∧ Fv H v3
theorem StF.dp {K : PySem.W.Frag} {H : Hp} {v : V} {d : Hs} (x : StF K H v d) : Dp K H v (stD d) := by
  obtain ⟨a, v1, v2, v3, rfl, s, d1, d2, d3, _⟩ := x.ex
  exact .tup s (.cons d1 (.cons d2 (.cons d3 .nil)))
theorem StF.nl {K : PySem.W.Frag} {H H' : Hp} {v : V} {d : Hs} (k : Nl H H') (x : StF K H v d) : StF K H' v d := by
  obtain ⟨a, v1, v2, v3, e, s, d1, d2, d3, f⟩ := x.ex
  exact ⟨a, v1, v2, v3, e, SqT.nl k s, Dp.nl k _ _ (noL_pls _) d1, Dp.nl k _ _ (noL_pls _) d2, Dp.nl k _ _ (noL_pls _) d3, f.nl k⟩
theorem StF.same {K : PySem.W.Frag} {H H' : Hp} {v : V} {d : Hs} (k : Same H H') (x : StF K H v d) : StF K H' v d := x.nl fun a o h _ _ => k a o h
def HouseF (K : PySem.W.Frag) (C : Addr) (H : Hp) (h : Addr) (d : Hs) : Prop := ∃ dx vb vt vs vst, H h = some (.ins C dx (hsFs d.hands vb vt vs vst)) ∧ StF K H vst d
theorem HouseF.nl {K : PySem.W.Frag} {C : Addr} {H H' : Hp} {h : Addr} {d : Hs} (k : Nl H H') (x : HouseF K C H h d) : HouseF K C H' h d := by
  obtain ⟨dx, vb, vt, vs, vst, h0, h1⟩ := x
  exact ⟨dx, vb, vt, vs, vst, k _ _ h0 (fun _ z => nomatch z) (fun _ z => nomatch z), h1.nl k⟩
/-- what the class House must say -/
structure HouseC (K : PySem.W.Frag) (C : Addr) : Prop where
  cl : Cls K C
  nH : NoAttr K C "hands"
  nB : NoAttr K C "boxes"
  nT : NoAttr K C "things"
  nS : NoAttr K C "seals"
  nSt : NoAttr K C "state"
/-! ### how_many -/
def manyOf (d : Hs) (w : Str) : Nat := if w = "box" then d.bs.length else if w = "seal" then d.ss.length else if w = "thing" then d.ts.length else 0
def spMany (K : PySem.W.Frag) (C : Addr) : Sp := fun vs H Q _ => ∃ (h : Addr) (d : Hs) (w : Str), vs = [.ref h, .str w] ∧ HouseAt K C H h d ∧ Q (.int (manyOf d w)) H
theorem scMany : FnScope ["house", "word"] ["house", "word"] (defScope sMany) := ⟨rfl, rfl, rfl, by decide +kernel, rfl, by decide +kernel, by decide +kernel⟩
theorem ok_many {f C : Addr} {fd : FuncData} (F : Fun K "how_many" "how_many" sMany f fd) (B : Bt mg) (T : HouseC K C) : FnOk P w K mg base CX0 1 f fd ["house", "word"] (spMany K C) := by
  refine F.ok scMany (fun vs H Q E h => ?_) (fun cdv A outer s H vs Q E hr h => ?_)
  · obtain ⟨h, d, w, rfl, _⟩ := h
    rfl
  · obtain ⟨h, d, w, rfl, hd, k⟩ := h
    obtain ⟨dx, vb, vt, vs, vst, h0, h1, h2, h3, h4⟩ := hd.ex
    obtain ⟨ab, xb, eb, qb, db, lb⟩ := pls_at h1
    obtain ⟨at', xt, et, qt, dt, lt⟩ := pls_at h2
    obtain ⟨as, xs, es, qs, ds, ls⟩ := pls_at h3
    subst eb et es
    refine ⟨_, pss_cons (ps_if (pt_cmpR op_eq (pv 1) pe_str (nomark _)) (pss_one (ps_ret (pe_callB call_len_seq (by rfl) B.len PySem.boot_len (pa_cons (pe_fld (pv 0) rfl) pa_nil)))) pss_nil)
      (pss_cons (ps_if (pt_cmpR op_eq (pv 1) pe_str (nomark _)) (pss_one (ps_ret (pe_callB call_len_seq (by rfl) B.len PySem.boot_len (pa_cons (pe_fld (pv 0) rfl) pa_nil)))) pss_nil)
      (pss_cons (ps_if (pt_cmpR op_eq (pv 1) pe_str (nomark _)) (pss_one (ps_ret (pe_callB call_len_seq (by rfl) B.len PySem.boot_len (pa_cons (pe_fld (pv 0) rfl) pa_nil)))) pss_nil)
      (pss_one (ps_ret pe_int)))), ?_⟩
    have e0 : ∀ (z : Str), decide ((V.str w) = V.str z) = decide (w = z) := fun z => by
      by_cases c : w = z
      · rw [decide_eq_true c, c]; exact decide_eq_true rfl
      · rw [decide_eq_false c]; exact decide_eq_false fun q => c (V.str.inj q)
    refine ⟨_, rfl, rfl, _, rfl, ?_⟩
    rw [e0]
    unfold manyOf at k
    refine ite2 (fun c => ?_) (fun c => ?_)
    · have c' := of_decide_eq_true c
      rw [if_pos c', ← lb] at k
      exact ⟨_, rfl, h, C, dx, _, _, rfl, h0, T.cl, T.nB, fs_boxes _ _ _ _ _, _, _, rfl, .inr qb, k⟩
    have c' : ¬ w = "box" := fun z => c (decide_eq_true z)
    rw [if_neg c'] at k
    refine ⟨_, rfl, rfl, _, rfl, ?_⟩
    rw [e0]
    refine ite2 (fun c => ?_) (fun c => ?_)
    · have c' := of_decide_eq_true c
      rw [if_pos c', ← ls] at k
      exact ⟨_, rfl, h, C, dx, _, _, rfl, h0, T.cl, T.nS, fs_seals _ _ _ _ _, _, _, rfl, .inr qs, k⟩
    have c' : ¬ w = "seal" := fun z => c (decide_eq_true z)
    rw [if_neg c'] at k
    refine ⟨_, rfl, rfl, _, rfl, ?_⟩
    rw [e0]
    refine ite2 (fun c => ?_) (fun c => ?_)
    · have c' := of_decide_eq_true c
      rw [if_pos c', ← lt] at k
      exact ⟨_, rfl, h, C, dx, _, _, rfl, h0, T.cl, T.nT, fs_things _ _ _ _ _, _, _, rfl, .inr qt, k⟩
    have c' : ¬ w = "thing" := fun z => c (decide_eq_true z)
    rw [if_neg c'] at k
    exact k
/-! ### is_place -/
def plOk (p : Pl) (hands boxes : Int) : Bool := if p.1 = .hand then numOk p.2 hands else decide (p.1 = .box) && numOk p.2 boxes
def spIsPl (K : PySem.W.Frag) : Sp := fun vs H Q _ => ∃ (x : V) (p : Pl) (n m : Int), vs = [x, .int n, .int m] ∧ Dp K H x (plD p) ∧ Q (.bl (plOk p n m)) H
theorem scIsPl : FnScope ["place", "hands", "boxes", "word", "number"] ["place", "hands", "boxes"] (defScope sIsPl) := ⟨rfl, rfl, rfl, by decide +kernel, rfl, by decide +kernel, by decide +kernel⟩
theorem decS (a b : Str) : decide ((V.str a) = V.str b) = decide (a = b) := by
  by_cases c : a = b
  · rw [decide_eq_true c, c]; exact decide_eq_true rfl
  · rw [decide_eq_false c]; exact decide_eq_false fun q => c (V.str.inj q)
theorem ok_ispl {f g : Addr} {fd fdg : FuncData} (F : Fun K "is_place" "is_place" sIsPl f fd) (FG : Fun K "is_number" "is_number" sNum g fdg) (B : Bt mg) (mG : mg "is_number" = some (.ref g)) (bG : Binds K fdg ["value", "limit"] []) : FnOk P w K mg base CX0 2 f fd ["place", "hands", "boxes"] (spIsPl K) := by
  have G : FnOk P w K mg base CX0 1 g fdg ["value", "limit"] spNum := ok_num FG B
  refine F.ok scIsPl (fun vs H Q E h => ?_) (fun cdv A outer s H vs Q E hr h => ?_)
  · obtain ⟨x, p, n, m, rfl, _⟩ := h
    rfl
  · obtain ⟨x, p, n, m, rfl, hp, k⟩ := h
    obtain ⟨a, rfl, q⟩ := pl_at hp
    refine ⟨_, pss_cons (ps_asg (pv 0) (pg_tup (by rfl) (pgs_cons (pg_name (i := 3) scIsPl.nd rfl (.inl rfl)) (pgs_cons (pg_name (i := 4) scIsPl.nd rfl (.inl rfl)) pgs_nil))))
      (pss_cons (ps_if (pt_cmpR op_eq (pv 3) pe_str (nomark _)) (pss_one (ps_ret (pe_call G hr rfl mG FG.kp bG .nil pass0 (pa_cons (pv 4) (pa_cons (pv 1) pa_nil))))) pss_nil)
      (pss_one (ps_ret (pe_and (pe_cmpR op_eq (pv 3) pe_str (nomark _)) (pe_one (pe_call G hr rfl mG FG.kp bG .nil pass0 (pa_cons (pv 4) (pa_cons (pv 2) pa_nil)))))))), ?_⟩
    refine ⟨_, rfl, a, _, rfl, q, rfl, _, _, rfl, _, _, rfl, rfl, ?_⟩
    refine ⟨_, rfl, rfl, _, rfl, ?_⟩
    rw [decS]
    unfold plOk at k
    obtain ⟨u, i⟩ := p
    cases u with
    | hand =>
      rw [if_pos rfl] at k
      refine iteT ⟨_, rfl, _, rfl, i, n, rfl, k⟩
    | box =>
      rw [if_neg (show ¬ Wd.box = Wd.hand by decide)] at k
      refine iteF ⟨_, rfl, rfl, true, rfl, iteT ⟨_, rfl, _, rfl, i, m, rfl, k⟩⟩
    | gone =>
      rw [if_neg (show ¬ Wd.gone = Wd.hand by decide)] at k
      exact iteF ⟨_, rfl, rfl, false, rfl, iteF k⟩

/-! ### InvalidHouse(part, index) -/
theorem onlyFree_by {sc : Scope} (h : (sc.names.all fun p => !decide (p.2 = .free) || decide (p.1 = ("__class__" : Str))) = true) : ∀ y, sc.names.lookup y = some .free → y = ("__class__" : Str) := fun y hy => by
  have m := PySem.mem_of_lookup hy
  have q := List.all_eq_true.mp h _ m
  simpa using q
/-- what the written part says of such a class, its __init__ (the text st, bound under qual), the method's cell -/
structure ExcI (P : Program) (K : PySem.W.Frag) (mg : Str → Option Value) (x qual : Str) (st : Stmt) (C f : Addr) (fd : FuncData) : Prop where
  sup : SupC P K mg C
  at_ : PySem.W.findIn K (.ref C) "__init__" = some (some (.ref f))
  ty : PySem.W.typeIn K (.ref f) = some (.type "function")
  mgC : mg x = some (.ref C)
  ex : ∃ (oc : Value) (od : Option Addr) (kV doc pm : Value) (an : Option Addr) (ct : Value) (osl : Array (Option Value)) (cc cda : Addr), fd = PySem.W.ksFn "__init__" qual (defArgs st) (defBody st) (defScope st) .none kV doc pm an (.ref cda) ct cc ∧
    K.lookup f = some ⟨oc, od, .func fd, osl⟩ ∧ PySem.W.codeIn K (.ref cda) qual = true ∧
    (∃ ccl cdd vsC ccs fileS tf, K.lookup cda = some ⟨ccl, cdd, .fields vsC, ccs⟩ ∧ vsC[2]? = some (.str fileS tf) ∧ ((P.main.file : Str) == fileS) = true) ∧
    (∃ cl cld csl, K.lookup cc = some ⟨cl, cld, .cell (some (.ref C)), csl⟩)
  bind : Binds K fd (["self", "part", "index"] : List Str) []
def ihFs (z : Str) (i : Int) : List (Str × V) := [("index", .int i), ("part", .str z)]
def spIH (C : Addr) : Sp := fun vs H Q _ => ∃ (a : Addr) (z : Str) (i : Int), vs = [.ref a, .str z, .int i] ∧ H a = some (exo a C none) ∧ z.length ≤ 1000 ∧ 0 ≤ i ∧ i ≤ 1000 ∧
  ∀ dx, H dx = none → dx ≠ a → Q .non (upd (upd (upd H dx (exd dx [("part", .str z)])) a (exo a C (some dx))) dx (exd dx (ihFs z i)))
theorem scIH : SupScope ["self", "part", "index"] (defScope sIH) :=
  ⟨rfl, rfl, rfl, by decide +kernel, by decide +kernel, by decide +kernel, onlyFree_by (by decide +kernel), by decide +kernel, by decide +kernel⟩
theorem log2_small {i : Int} (h0 : 0 ≤ i) (h1 : i ≤ 1000) : i.natAbs.log2 < 1920 := by
  have h2 : i.natAbs ≤ 1000 := by omega
  by_cases h3 : i.natAbs = 0
  · rw [h3]; decide
  · have := (Nat.log2_lt h3 (k := 10)).mpr (by omega)
    omega
theorem digits_small {i : Int} (h0 : 0 ≤ i) (h1 : i ≤ 1000) : (toString i : Str).length ≤ 4 := toString_length_le h0 (k := 4) (by decide) (by omega)
theorem ok_ih {CX : CXT} {C f : Addr} {fd : FuncData} (T : ExcI P K mg "InvalidHouse" "InvalidHouse.__init__" sIH C f fd) (nP : PySem.W.findIn K (.ref C) "part" = some none) (nI : PySem.W.findIn K (.ref C) "index" = some none) :
    FnOk P w K mg base CX 1 f fd ["self", "part", "index"] (spIH C) := by
  obtain ⟨oc, od, kV, doc, pm, an, ct, osl, cc, cda, rfl, lk, hcd, ⟨ccl, cdd, vsC, ccs, fileS, tf, hcode, hvs, hfile⟩, ⟨cl, cld, csl, hcell⟩⟩ := T.ex
  refine fn_super (pl := fun _ => _) T.sup lk hcd rfl rfl hcode hvs hfile hcell scIH (fun vs H Q E h => ?_) (fun _ => rfl) (fun _ => rfl) (fun _ => rfl) (fun A outer s H vs Q E hr h => ?_)
  · obtain ⟨a, z, i, rfl, _⟩ := h
    rfl
  · obtain ⟨a, z, i, rfl, ha, hz, hi0, hi1, k⟩ := h
    refine ⟨_, _, pe_joined (.cons (pe_fmt (pv 1)) (.cons pe_str (.cons (pe_fmt (pv 2)) .nil))), pss_cons (ps_ost (pv 0) (pv 1)) (pss_one (ps_ost (pv 0) (pv 2))), ⟨a, rfl, ha⟩, ?_⟩
    have l1 : (Str.empty : Str).length = 0 := rfl
    have l2 : (": wrong at index " : Str).length = 17 := by decide +kernel
    have l3 := digits_small hi0 hi1
    have l4 : ∀ a b : Str, (a ++ b).length = a.length + b.length := Str.length_append
    have l5 := sizeLine_eq
    have hs : H a ≠ none := by rw [ha]; intro q; cases q
    refine ⟨_, rfl, .inl ⟨z, rfl, by omega, z, rfl, by rw [l4]; omega, _, rfl, by rw [l4, l4]; omega, _, rfl, .inr ⟨i, rfl, log2_small hi0 hi1, _, rfl, by rw [l4, l4, l4]; omega, ⟨_, rfl⟩, a, rfl, ha, ?_⟩⟩⟩
    refine ⟨_, rfl, _, rfl, a, C, rfl, T.sup.oex, nP, .inl ⟨ha, fun dx hd ne => ?_⟩⟩
    refine ⟨_, rfl, _, rfl, a, C, rfl, T.sup.oex, nI, .inr ⟨dx, [("part", .str z)], upd_same, by rw [upd_ne ne, upd_same], (by show 1 ≤ 900; decide), ?_⟩⟩
    exact k dx hd ne

/-! ### what is raised -/
/-- InvalidHouse(part, i) is let out -/
def Ri (C : Addr) (z : Str) (i : Nat) (H : Hp) (E : XK) : Prop := ∀ dd H', Same H H' → H' dd = some (.xd (ihFs z i)) → E (.ref C) (some dd) H'
theorem Ri.same {C : Addr} {z : Str} {i : Nat} {H H' : Hp} {E : XK} (e : Same H H') (r : Ri C z i H E) : Ri C z i H' E := fun dd H2 e2 h => r dd H2 (e.trans e2) h
/-- the reading of InvalidHouse(z, i), told by Ri -/
theorem ih_made {C : Addr} {H : Hp} {E : XK} {z : Str} {i : Nat} (hz : z.length ≤ 1000) (hi : i ≤ 1000) (r : Ri C z i H E) :
    ∀ a, H a = none → spIH C (.ref a :: ([.str z, .int i] ++ [])) (upd H a (exo a C none))
      (fun v H2 => v = .non ∧ ∃ (d : Addr) (fs : List (Str × V)), H2 a = some (exo a C (some d)) ∧ H2 d = some (exd d fs) ∧ H d = none ∧ E (.ref C) (some d) (upd (del H2 a) d (.xd fs))) (fun _ _ _ => False) := fun a ha => by
  refine ⟨a, z, i, rfl, upd_same, hz, by omega, by omega, fun dx hd ne => ⟨rfl, dx, _, by rw [upd_ne ne.symm, upd_same], upd_same, by rw [upd_ne ne] at hd; exact hd, ?_⟩⟩
  have hdx : H dx = none := by rw [upd_ne ne] at hd; exact hd
  refine r dx _ (fun b o e => ?_) upd_same
  have n1 : b ≠ dx := ne_of_none e hdx
  have n2 : b ≠ a := ne_of_none e ha
  rw [upd_ne n1, del_ne n2, upd_ne n1, upd_ne n2, upd_ne n1, upd_ne n2]
  exact e
def firstBad (f : Nat → Pl → Bool) : Nat → List Pl → Option Nat
  | _, [] => none
  | i, p :: r => if f i p = true then some i else firstBad f (i + 1) r
/-- the search, seen from turn i on -/
theorem bad_at {f : Nat → Pl → Bool} {ps : List Pl} {i : Nat} {p : Pl} (h : ps[i]? = some p) : firstBad f i (ps.drop i) = if f i p = true then some i else firstBad f (i + 1) (ps.drop (i + 1)) := by
  obtain ⟨hl, he⟩ := List.getElem?_eq_some_iff.mp h
  rw [List.drop_eq_getElem_cons hl, he]
  rfl
theorem bad_end {f : Nat → Pl → Bool} {ps : List Pl} : firstBad f ps.length (ps.drop ps.length) = none := by
  rw [List.drop_length]
  rfl
def badB (n : Int) (i : Nat) (p : Pl) : Bool := decide (i = 3) || !plOk p n i
def badBoxes (n : Int) (bs : List Pl) : Option Nat := if bs.length = 0 then some 0 else firstBad (badB n) 0 bs
def spBoxes (K : PySem.W.Frag) (C : Addr) : Sp := fun vs H Q E => ∃ (n : Int) (x : V) (bs : List Pl), vs = [.int n, x] ∧ Dp K H x (plsD bs) ∧ bs.length ≤ 100 ∧
  (∀ i, badBoxes n bs = some i → Ri C "boxes" i H E) ∧ (badBoxes n bs = none → ∀ H', Same H H' → Q .non H')
/-- the module's constants -/
structure Cs (mg : Str → Option Value) : Prop where
  h : ∃ t, mg "MOST_HANDS" = some (.int 4 t)
  b : ∃ t, mg "MOST_BOXES" = some (.int 3 t)
  t : ∃ t, mg "MOST_THINGS" = some (.int 4 t)
  s : ∃ t, mg "MOST_SEALS" = some (.int 3 t)
theorem scBoxes : FnScope ["hands", "boxes", "index", "place"] ["hands", "boxes"] (defScope sBoxes) := ⟨rfl, rfl, rfl, by decide +kernel, rfl, by decide +kernel, by decide +kernel⟩
theorem ok_boxes {f g C fI : Addr} {fd fdg fdI : FuncData} (F : Fun K "need_boxes" "need_boxes" sBoxes f fd) (B : Bt mg) (Z : Cs mg) (G : FnOk P w K mg base CX0 2 g fdg ["place", "hands", "boxes"] (spIsPl K)) (mG : mg "is_place" = some (.ref g)) (kG : PySem.W.keepIn K (.ref g) = true) (bG : Binds K fdg ["place", "hands", "boxes"] [])
    (T : ExcI P K mg "InvalidHouse" "InvalidHouse.__init__" sIH C fI fdI) (GI : FnOk P w K mg base CX0 1 fI fdI ["self", "part", "index"] (spIH C)) : FnOk P w K mg base (L2.CX P w) 3 f fd ["hands", "boxes"] (spBoxes K C) := by
  obtain ⟨tb, mB⟩ := Z.b
  refine F.okX scBoxes (fun vs H Q E h => ?_) (fun cdv A outer s H vs Q E hr h => ?_)
  · obtain ⟨n, x, bs, rfl, _⟩ := h
    rfl
  · obtain ⟨n, x, bs, rfl, hx, hl, kE, kQ⟩ := h
    obtain ⟨ab, xb, rfl, qb, db, lb⟩ := pls_at hx
    have tk : Takes (cxOf (L2.CX P w) P w K mg base ["hands", "boxes", "index", "place"] "need_boxes" (defScope sBoxes) f cdv A outer s H E) (fun cls d _ H => E cls d H) := takes_of rfl rfl rfl rfl
    refine ⟨_, pss_cons (ps_if (pt_cmpR op_eq (pe_callB call_len_seq (by rfl) B.len PySem.boot_len (pa_cons (pv 1) pa_nil)) pe_int (nomark _)) (pss_one (ps_raise rfl tk (pmk_oex T.sup.oex T.at_ T.ty GI hr T.bind .nil pass0 rfl T.mgC (pa_cons pe_str (pa_cons pe_int pa_nil))))) pss_nil)
      (pss_one (ps_for (passes_of rfl) rfl (pi_enumT (by rfl) B.enu (pa_cons (pv 1) pa_nil)) (pg_tup (by rfl) (pgs_cons (pg_name (i := 2) scBoxes.nd rfl (.inl rfl)) (pgs_cons (pg_name (i := 3) scBoxes.nd rfl (.inl rfl)) pgs_nil)))
        (pss_one (ps_if (PW.pt (pw_or (pt_cmpR op_eq (pv 2) (pe_glob (v := .int 3) rfl mB ⟨_, rfl⟩) (nomark _)) (pw_or1 (pt_not (pt_val (pe_call G hr rfl mG kG bG .nil pass0 (pa_cons (pv 3) (pa_cons (pv 0) (pa_cons (pv 2) pa_nil)))))))))
          (pss_one (ps_raise rfl tk (pmk_oex T.sup.oex T.at_ T.ty GI hr T.bind .nil pass0 rfl T.mgC (pa_cons pe_str (pa_cons (pv 2) pa_nil))))) pss_nil)))), ?_⟩
    refine ⟨_, rfl, _, _, rfl, .inr qb, rfl, _, rfl, ?_⟩
    rw [lb]
    unfold badBoxes at kE kQ
    have i0 : decide ((V.int (bs.length : Nat)) = V.int 0) = decide (bs.length = 0) := by
      by_cases c : bs.length = 0
      · rw [decide_eq_true c, c]; rfl
      · rw [decide_eq_false c]; exact decide_eq_false fun q => c (by have := V.int.inj q; omega)
    rw [i0]
    refine ite2 (fun c => ?_) (fun c => ?_)
    · have c' := of_decide_eq_true c
      rw [if_pos c'] at kE
      exact ⟨(by show 2 ≤ 1000; decide), ih_made (by decide +kernel) (by decide) (kE 0 rfl)⟩
    have c' : ¬ bs.length = 0 := fun z => c (decide_eq_true z)
    rw [if_neg c'] at kE kQ
    refine ⟨_, rfl, ab, xb, rfl, qb, for_enumT (K := K) (a := ab) (xs := xb) (fun i σ H2 => ∃ v1 v2 : Option V, σ = [some (.int n), some (.ref ab), v1, v2] ∧ Same H H2 ∧ firstBad (badB n) 0 bs = firstBad (badB n) i (bs.drop i))
      ⟨none, none, rfl, Same.refl H, by rw [List.drop_zero]⟩ (fun i σ H2 _ ⟨_, _, _, e, _⟩ => SqT.same e qb) ?_ ?_⟩
    · rintro i y σ H2 T' hi ⟨v1, v2, rfl, e, hb⟩ hT
      obtain ⟨p, hp, hy⟩ := pls_get db hi
      have e2 : Same H (upd H2 T' (.tup [.int (i : Nat), y])) := Same.upd2 e hT
      refine ⟨T', _, rfl, SqT.of upd_same, rfl, _, _, rfl, _, _, rfl, rfl, ?_⟩
      have hi100 : i < bs.length := (List.getElem?_eq_some_iff.mp hp).1
      rw [bad_at hp] at hb
      refine ⟨_, rfl, rfl, _, rfl, ?_⟩
      have i3 : decide ((V.int (i : Nat)) = V.int 3) = decide (i = 3) := by
        by_cases c : i = 3
        · rw [decide_eq_true c, c]; rfl
        · rw [decide_eq_false c]; exact decide_eq_false fun q => c (by have := V.int.inj q; omega)
      rw [i3]
      have raised : badB n i p = true → ∀ Q', (∀ cls d H', E cls d H' → Q' cls d H') → Ri C "boxes" i (upd H2 T' (.tup [.int (i : Nat), y])) Q' := fun hbad Q' hQ' => by
        rw [if_pos hbad] at hb
        exact fun dd H' e' hdd => hQ' _ _ _ (kE i hb dd H' (e2.trans e') hdd)
      unfold badB at raised hb
      by_cases c3 : i = 3
      · rw [decide_eq_true c3] at raised ⊢
        refine iteT (iteT ?_)
        exact ⟨_, rfl, (by show 2 ≤ 1000; decide), ih_made (by decide +kernel) (by omega) (raised rfl _ fun _ _ _ h => h)⟩
      · rw [decide_eq_false c3] at raised hb ⊢
        refine iteF ⟨_, rfl, _, rfl, _, rfl, _, p, n, i, rfl, Dp.nl (fun a o h _ _ => e2 a o h) _ _ (noL_pl p) hy, _, rfl, ?_⟩
        cases cp : plOk p n i with
        | false =>
          rw [cp] at raised
          refine iteT ?_
          exact ⟨_, rfl, (by show 2 ≤ 1000; decide), ih_made (by decide +kernel) (by omega) (raised rfl _ fun _ _ _ h => h)⟩
        | true =>
          rw [cp] at hb
          refine iteF ?_
          exact ⟨_, _, rfl, e2, hb⟩
    · rintro σ H2 ⟨v1, v2, rfl, e, hb⟩
      rw [lb, bad_end] at hb
      exact kQ hb H2 e

/-! ### need_house -/
def badT (n m : Int) (i : Nat) (p : Pl) : Bool := decide (i = 4) || !plOk p n m
def badS (n m : Int) (ss : List Pl) (i : Nat) (p : Pl) : Bool := (decide (i = 3) || !plOk p n m) || (decide (p.1 = .box) && (ss.take i).any fun q => decide (q = p))
def errOf (n : Int) (bs ts ss : List Pl) : Option (Str × Nat) :=
  if (!numOk n 5 || decide (n = 0)) = true then some ("hands", 0) else
  match badBoxes n bs with
  | some i => some ("boxes", i)
  | none =>
    match firstBad (badT n bs.length) 0 ts with
    | some i => some ("things", i)
    | none =>
      match firstBad (badS n bs.length ss) 0 ss with
      | some i => some ("seals", i)
      | none => none
def spNeed (K : PySem.W.Frag) (C : Addr) : Sp := fun vs H Q E => ∃ (n : Int) (x y z : V) (bs ts ss : List Pl), vs = [.int n, x, y, z] ∧ Dp K H x (plsD bs) ∧ Dp K H y (plsD ts) ∧ Dp K H z (plsD ss) ∧ bs.length ≤ 100 ∧ ts.length ≤ 100 ∧ ss.length ≤ 100 ∧
  (∀ z i, errOf n bs ts ss = some (z, i) → Ri C z i H E) ∧ (errOf n bs ts ss = none → ∀ H', Same H H' → Q .non H')
theorem decI (i j : Nat) : decide ((V.int (i : Int)) = V.int (j : Int)) = decide (i = j) := by
  by_cases c : i = j
  · rw [decide_eq_true c, c]; exact decide_eq_true rfl
  · rw [decide_eq_false c]; exact decide_eq_false fun q => c (by have := V.int.inj q; omega)
theorem decZ (i j : Int) : decide ((V.int i) = V.int j) = decide (i = j) := by
  by_cases c : i = j
  · rw [decide_eq_true c, c]; exact decide_eq_true rfl
  · rw [decide_eq_false c]; exact decide_eq_false fun q => c (V.int.inj q)
theorem any_pl (p : Pl) : ∀ l : List Pl, ((l.map plD).any fun z => PyData.eqv z (plD p)) = l.any fun q => decide (q = p)
  | [] => rfl
  | a :: l => by
    rw [List.map_cons, List.any_cons, List.any_cons, any_pl p l, eqv_pl]
theorem same_nl {H H' : Hp} (e : Same H H') : Nl H H' := fun a o h _ _ => e a o h
theorem scNeed : FnScope ["hands", "boxes", "things", "seals", "index", "place"] ["hands", "boxes", "things", "seals"] (defScope sNeed) := ⟨rfl, rfl, rfl, by decide +kernel, rfl, by decide +kernel, by decide +kernel⟩
theorem ok_need {f g gb gn C fI : Addr} {fd fdg fdb fdn fdI : FuncData} (F : Fun K "need_house" "need_house" sNeed f fd) (B : Bt mg) (Z : Cs mg)
    (G : FnOk P w K mg base CX0 2 g fdg ["place", "hands", "boxes"] (spIsPl K)) (mG : mg "is_place" = some (.ref g)) (kG : PySem.W.keepIn K (.ref g) = true) (bG : Binds K fdg ["place", "hands", "boxes"] [])
    (GN : FnOk P w K mg base CX0 1 gn fdn ["value", "limit"] spNum) (mN : mg "is_number" = some (.ref gn)) (kN : PySem.W.keepIn K (.ref gn) = true) (bN : Binds K fdn ["value", "limit"] [])
    (GB : FnOk P w K mg base (L2.CX P w) 3 gb fdb ["hands", "boxes"] (spBoxes K C)) (mB : mg "need_boxes" = some (.ref gb)) (kB : PySem.W.keepIn K (.ref gb) = true) (bB : Binds K fdb ["hands", "boxes"] [])
    (T : ExcI P K mg "InvalidHouse" "InvalidHouse.__init__" sIH C fI fdI) (GI : FnOk P w K mg base CX0 1 fI fdI ["self", "part", "index"] (spIH C)) : FnOk P w K mg base (L2.CX P w) 4 f fd ["hands", "boxes", "things", "seals"] (spNeed K C) := by
  obtain ⟨th, mH⟩ := Z.h
  obtain ⟨tt, mT⟩ := Z.t
  obtain ⟨ts', mS⟩ := Z.s
  refine F.okX scNeed (fun vs H Q E h => ?_) (fun cdv A outer s H vs Q E hr h => ?_)
  · obtain ⟨n, x, y, z, bs, ts, ss, rfl, _⟩ := h
    rfl
  · obtain ⟨n, x, y, z, bs, ts, ss, rfl, hx, hy, hz, hl1, hl2, hl3, kE, kQ⟩ := h
    obtain ⟨ab, xb, rfl, qb, db, lb⟩ := pls_at hx
    obtain ⟨at', xt, rfl, qt, dt, lt⟩ := pls_at hy
    obtain ⟨as, xs, rfl, qs, ds, ls⟩ := pls_at hz
    have hr2 : Room 2 _ := hr.mono (by decide)
    have hr1 : Room 1 _ := hr.mono (by decide)
    have hu65 : (cxOf (L2.CX P w) P w K mg base ["hands", "boxes", "things", "seals", "index", "place"] "need_house" (defScope sNeed) f cdv A outer s H E).A.units + 65 < cLine := by have := hr.un; show (A.deeper _).units + 65 < cLine; omega
    have tk : Takes (cxOf (L2.CX P w) P w K mg base ["hands", "boxes", "things", "seals", "index", "place"] "need_house" (defScope sNeed) f cdv A outer s H E) (fun cls d _ H => E cls d H) := takes_of rfl rfl rfl rfl
    refine ⟨_, pss_cons (ps_if (PW.pt (pw_or (pt_not (pt_val (pe_call GN hr1 rfl mN kN bN .nil pass0 (pa_cons (pv 0) (pa_cons (pe_op op_add (pe_glob (v := .int 4) rfl mH ⟨_, rfl⟩) pe_int) pa_nil))))) (pw_or1 (pt_cmpR op_eq (pv 0) pe_int (nomark _)))))
        (pss_one (ps_raise rfl tk (pmk_oex T.sup.oex T.at_ T.ty GI hr2 T.bind .nil pass0 rfl T.mgC (pa_cons pe_str (pa_cons pe_int pa_nil))))) pss_nil)
      (pss_cons (ps_expr (pe_call GB hr rfl mB kB bB .nil (passes_call tk (fun _ _ _ _ h => h)) (pa_cons (pv 0) (pa_cons (pv 1) pa_nil))))
      (pss_cons (ps_for (passes_of rfl) rfl (pi_enumT (by rfl) B.enu (pa_cons (pv 2) pa_nil)) (pg_tup (by rfl) (pgs_cons (pg_name (i := 4) scNeed.nd rfl (.inl rfl)) (pgs_cons (pg_name (i := 5) scNeed.nd rfl (.inl rfl)) pgs_nil)))
        (pss_one (ps_if (PW.pt (pw_or (pt_cmpR op_eq (pv 4) (pe_glob (v := .int 4) rfl mT ⟨_, rfl⟩) (nomark _)) (pw_or1 (pt_not (pt_val (pe_call G hr2 rfl mG kG bG .nil pass0 (pa_cons (pv 5) (pa_cons (pv 0) (pa_cons (pe_callB call_len_seq (by rfl) B.len PySem.boot_len (pa_cons (pv 1) pa_nil)) pa_nil)))))))))
          (pss_one (ps_raise rfl tk (pmk_oex T.sup.oex T.at_ T.ty GI hr2 T.bind .nil pass0 rfl T.mgC (pa_cons pe_str (pa_cons (pv 4) pa_nil))))) pss_nil)))
      (pss_one (ps_for (passes_of rfl) rfl (pi_enumT (by rfl) B.enu (pa_cons (pv 3) pa_nil)) (pg_tup (by rfl) (pgs_cons (pg_name (i := 4) scNeed.nd rfl (.inl rfl)) (pgs_cons (pg_name (i := 5) scNeed.nd rfl (.inl rfl)) pgs_nil)))
        (pss_cons (ps_if (PW.pt (pw_or (pt_cmpR op_eq (pv 4) (pe_glob (v := .int 3) rfl mS ⟨_, rfl⟩) (nomark _)) (pw_or1 (pt_not (pt_val (pe_call G hr2 rfl mG kG bG .nil pass0 (pa_cons (pv 5) (pa_cons (pv 0) (pa_cons (pe_callB call_len_seq (by rfl) B.len PySem.boot_len (pa_cons (pv 1) pa_nil)) pa_nil)))))))))
          (pss_one (ps_raise rfl tk (pmk_oex T.sup.oex T.at_ T.ty GI hr2 T.bind .nil pass0 rfl T.mgC (pa_cons pe_str (pa_cons (pv 4) pa_nil))))) pss_nil)
        (pss_one (ps_if (PW.pt (pw_and (pt_cmpR op_eq (pe_ix ix_tup (pv 5) pe_int (fun _ _ => rfl)) pe_str (nomark _)) (pw_and1 (pt_cmpR (op_inDT hu65) (pv 5) (pe_slice sl_tupA (pv 3) po_none (po_some (pv 4))) (by rfl)))))
          (pss_one (ps_raise rfl tk (pmk_oex T.sup.oex T.at_ T.ty GI hr2 T.bind .nil pass0 rfl T.mgC (pa_cons pe_str (pa_cons (pv 4) pa_nil))))) pss_nil))))))), ?_⟩
    refine ⟨_, rfl, _, _, rfl, rfl, n, 5, rfl, _, rfl, ?_⟩
    unfold errOf at kE kQ
    by_cases c0 : (!numOk n 5 || decide (n = 0)) = true
    · rw [if_pos c0] at kE
      have rz : tMkO C (spIH C) [] (tCons (tC (.str "hands")) (tCons (tC (.int 0)) tNil)) (start ["hands", "boxes", "things", "seals", "index", "place"] [.int n, .ref ab, .ref at', .ref as]) H (fun cls d H' => E cls d H') :=
        ⟨(by show 2 ≤ 1000; decide), ih_made (by decide +kernel) (by decide) (kE _ 0 rfl)⟩
      cases c1 : numOk n 5 with
      | false => exact iteT (iteT rz)
      | true =>
        refine iteF ⟨_, rfl, rfl, _, rfl, ?_⟩
        rw [decZ]
        rw [c1] at c0
        have c2 : decide (n = 0) = true := c0
        rw [c2]
        exact iteT rz
    rw [if_neg c0] at kE kQ
    have c1 : numOk n 5 = true := by
      cases c : numOk n 5 with
      | true => rfl
      | false => rw [c] at c0; exact absurd rfl c0
    have c2 : decide (n = 0) = false := by
      cases c : decide (n = 0) with
      | false => rfl
      | true => rw [c1, c] at c0; exact absurd rfl c0
    rw [c1]
    refine iteF ⟨_, rfl, rfl, _, rfl, ?_⟩
    rw [decZ, c2]
    refine iteF ?_
    -- need_boxes(hands, boxes)
    refine ⟨_, rfl, _, rfl, n, .ref ab, bs, rfl, hx, hl1, fun i hi => ?_, fun hb H1 e1 => ?_⟩
    · rw [hi] at kE
      exact kE _ i rfl
    rw [hb] at kE kQ
    have eqH : ∀ (m : Nat), decide ((V.int (m : Nat)) = V.int 4) = decide (m = 4) := fun m => decI m 4
    have eqH3 : ∀ (m : Nat), decide ((V.int (m : Nat)) = V.int 3) = decide (m = 3) := fun m => decI m 3
    -- for index, place in enumerate(things)
    refine ⟨_, rfl, at', xt, rfl, SqT.same e1 qt, for_enumT (K := K) (a := at') (xs := xt) (fun i σ H2 => ∃ v1 v2 : Option V, σ = [some (.int n), some (.ref ab), some (.ref at'), some (.ref as), v1, v2] ∧ Same H H2 ∧ firstBad (badT n bs.length) 0 ts = firstBad (badT n bs.length) i (ts.drop i))
      ⟨none, none, rfl, e1, by rw [List.drop_zero]⟩ (fun i σ H2 _ ⟨_, _, _, e, _⟩ => SqT.same e qt) ?_ ?_⟩
    · rintro i y σ H2 T' hi ⟨v1, v2, rfl, e, hb2⟩ hT
      obtain ⟨p, hp, hy2⟩ := pls_get dt hi
      have e2 : Same H (upd H2 T' (.tup [.int (i : Nat), y])) := Same.upd2 e hT
      refine ⟨T', _, rfl, SqT.of upd_same, rfl, _, _, rfl, _, _, rfl, rfl, ?_⟩
      have hi100 : i < ts.length := (List.getElem?_eq_some_iff.mp hp).1
      rw [bad_at hp] at hb2
      refine ⟨_, rfl, rfl, _, rfl, ?_⟩
      rw [eqH]
      have raised : badT n bs.length i p = true → Ri C "things" i (upd H2 T' (.tup [.int (i : Nat), y])) E := fun hbad => by
        rw [if_pos hbad] at hb2
        rw [hb2] at kE
        exact fun dd H' e' hdd => kE _ i rfl dd H' (e2.trans e') hdd
      unfold badT at raised hb2
      by_cases c3 : i = 4
      · rw [decide_eq_true c3] at raised ⊢
        refine iteT (iteT ?_)
        exact ⟨_, rfl, (by show 2 ≤ 1000; decide), ih_made (by decide +kernel) (by omega) (raised rfl)⟩
      · rw [decide_eq_false c3] at raised hb2 ⊢
        refine iteF ⟨_, rfl, _, rfl, _, rfl, ab, xb, rfl, .inr (SqT.same e2 qb), _, p, n, xb.length, rfl, Dp.nl (same_nl e2) _ _ (noL_pl p) hy2, _, rfl, ?_⟩
        rw [lb]
        cases cp : plOk p n bs.length with
        | false =>
          rw [cp] at raised
          refine iteT ?_
          exact ⟨_, rfl, (by show 2 ≤ 1000; decide), ih_made (by decide +kernel) (by omega) (raised rfl)⟩
        | true =>
          rw [cp] at hb2
          exact iteF ⟨_, _, rfl, e2, hb2⟩
    rintro σ H2 ⟨v1, v2, rfl, e, hb2⟩
    rw [lt, bad_end] at hb2
    rw [hb2] at kE kQ
    -- for index, place in enumerate(seals)
    refine ⟨_, rfl, as, xs, rfl, SqT.same e qs, for_enumT (K := K) (a := as) (xs := xs) (fun i σ H2 => ∃ v1 v2 : Option V, σ = [some (.int n), some (.ref ab), some (.ref at'), some (.ref as), v1, v2] ∧ Same H H2 ∧ firstBad (badS n bs.length ss) 0 ss = firstBad (badS n bs.length ss) i (ss.drop i))
      ⟨_, _, rfl, e, by rw [List.drop_zero]⟩ (fun i σ H2 _ ⟨_, _, _, e, _⟩ => SqT.same e qs) ?_ ?_⟩
    · rintro i y σ H3 T' hi ⟨v1, v2, rfl, e, hb2⟩ hT
      obtain ⟨p, hp, hy2⟩ := pls_get ds hi
      have e2 : Same H (upd H3 T' (.tup [.int (i : Nat), y])) := Same.upd2 e hT
      refine ⟨T', _, rfl, SqT.of upd_same, rfl, _, _, rfl, _, _, rfl, rfl, ?_⟩
      have hi100 : i < ss.length := (List.getElem?_eq_some_iff.mp hp).1
      rw [bad_at hp] at hb2
      refine ⟨_, rfl, rfl, _, rfl, ?_⟩
      rw [eqH3]
      have raised : badS n bs.length ss i p = true → ∀ H', Same H H' → Ri C "seals" i H' E := fun hbad H' eh => by
        rw [if_pos hbad] at hb2
        rw [hb2] at kE
        exact fun dd H'' e' hdd => kE _ i rfl dd H'' (eh.trans e') hdd
      unfold badS at raised hb2
      by_cases c3 : i = 3
      · rw [decide_eq_true c3] at raised ⊢
        refine iteT (iteT ?_)
        exact ⟨_, rfl, (by show 2 ≤ 1000; decide), ih_made (by decide +kernel) (by omega) (raised rfl _ e2)⟩
      · rw [decide_eq_false c3] at raised hb2 ⊢
        refine iteF ⟨_, rfl, _, rfl, _, rfl, ab, xb, rfl, .inr (SqT.same e2 qb), _, p, n, xb.length, rfl, Dp.nl (same_nl e2) _ _ (noL_pl p) hy2, _, rfl, ?_⟩
        rw [lb]
        cases cp : plOk p n bs.length with
        | false =>
          rw [cp] at raised
          refine iteT ?_
          exact ⟨_, rfl, (by show 2 ≤ 1000; decide), ih_made (by decide +kernel) (by omega) (raised rfl _ e2)⟩
        | true =>
          rw [cp] at raised hb2
          refine iteF ?_
          -- if place[0] == 'box' and place in seals[:index]
          obtain ⟨ap, rfl, qp⟩ := pl_at (Dp.nl (same_nl e2) _ _ (noL_pl p) hy2)
          refine ⟨_, rfl, ap, _, 0, _, rfl, rfl, qp, rfl, rfl, _, rfl, ?_⟩
          rw [decS]
          cases cw : p.1 with
          | hand =>
            rw [cw] at hb2
            exact iteF (iteF ⟨_, _, rfl, e2, hb2⟩)
          | gone =>
            rw [cw] at hb2
            exact iteF (iteF ⟨_, _, rfl, e2, hb2⟩)
          | box =>
            rw [cw] at raised hb2
            have hxl : i < xs.length := by omega
            refine iteT ⟨_, rfl, _, rfl, _, rfl, _, rfl, as, xs, rfl, SqT.same e2 qs, fun hw => ?_, fun hw T2 hT2 => ?_⟩
            · exfalso
              have h1 := hw.2
              rw [HT.sIx_nat] at h1
              omega
            · have e3 : Same H (upd (upd H3 T' (.tup [.int (i : Nat), .ref ap])) T2 (.tup (cutV xs none (some (i : Int))))) := Same.upd2 e2 hT2
              have ecut : cutV xs none (some (i : Int)) = xs.take i := by
                unfold cutV
                rw [HT.sIx_none, HT.sIx_nat, List.drop_zero, Nat.sub_zero, Nat.min_eq_left (by omega)]
              rw [ecut] at e3 ⊢
              refine ⟨plD p, (ss.take i).map plD, Dp.nl (same_nl e3) _ _ (noL_pl p) hy2, .tup (SqT.of upd_same) ?_, shaped_pl p, shaped_pls (ss.take i), _, rfl, ?_⟩
              · rw [List.map_take]
                exact DpAll.take i (Dp.sames e3 _ _ ds)
              · rw [any_pl]
                cases ca : (ss.take i).any fun q => decide (q = p) with
                | true =>
                  rw [ca] at raised
                  refine iteT ?_
                  exact ⟨_, rfl, (by show 2 ≤ 1000; decide), ih_made (by decide +kernel) (by omega) (raised rfl _ e3)⟩
                | false =>
                  rw [ca] at hb2
                  exact iteF ⟨_, _, rfl, e3, hb2⟩
    rintro σ H3 ⟨v1, v2, rfl, e, hb3⟩
    rw [ls, bad_end] at hb3
    rw [hb3] at kQ
    exact kQ rfl H3 e
end
end Kw




set_option Elab.async false
set_option linter.all false
set_option maxRecDepth 100000
set_option maxHeartbeats 4000000
namespace Kw
open PySem PySem.Spec PyProof.Rows L2
section
variable {P : Program} {w : World} {K : PySem.W.Frag} {mg : Str → Option Value} {base : Heap}
/-! ### House(hands, boxes, things, seals) -/
/-- all but what stands at h -/
def But (h : Addr) (H H' : Hp) : Prop := ∀ a o, H a = some o → a ≠ h → H' a = some o
def spHouse (K : PySem.W.Frag) (C CE : Addr) : Sp := fun vs H Q E => ∃ (h dx : Addr) (n : Int) (x y z : V) (bs ts ss : List Pl), vs = [.ref h, .int n, x, y, z] ∧ H h = some (.ins C dx []) ∧ Dp K H x (plsD bs) ∧ Dp K H y (plsD ts) ∧ Dp K H z (plsD ss) ∧ bs.length ≤ 100 ∧ ts.length ≤ 100 ∧ ss.length ≤ 100 ∧
  (∀ z i, errOf n bs ts ss = some (z, i) → Ri CE z i H E) ∧ (errOf n bs ts ss = none → ∀ H', But h H H' → HouseAt K C H' h ⟨n, bs, ts, ss⟩ → (Fv H z → HouseF K C H' h ⟨n, bs, ts, ss⟩) → Q .non H')
theorem scInit : FnScope ["self", "hands", "boxes", "things", "seals"] ["self", "hands", "boxes", "things", "seals"] (defScope sInit) := ⟨rfl, rfl, rfl, by decide +kernel, rfl, by decide +kernel, by decide +kernel⟩
theorem ok_house {f g C CE : Addr} {fd fdg : FuncData} (F : Fun K "__init__" "House.__init__" sInit f fd) (B : Bt mg) (T : HouseC K C)
    (G : FnOk P w K mg base (L2.CX P w) 4 g fdg ["hands", "boxes", "things", "seals"] (spNeed K CE)) (mG : mg "need_house" = some (.ref g)) (kG : PySem.W.keepIn K (.ref g) = true) (bG : Binds K fdg ["hands", "boxes", "things", "seals"] []) :
    FnOk P w K mg base (L2.CX P w) 5 f fd ["self", "hands", "boxes", "things", "seals"] (spHouse K C CE) := by
  refine F.okX scInit (fun vs H Q E h => ?_) (fun cdv A outer s H vs Q E hr h => ?_)
  · obtain ⟨h, dx, n, x, y, z, bs, ts, ss, rfl, _⟩ := h
    rfl
  · obtain ⟨h, dx, n, x, y, z, bs, ts, ss, rfl, hh, hx, hy, hz, hl1, hl2, hl3, kE, kQ⟩ := h
    obtain ⟨ab, xb, rfl, qb, db, lb⟩ := pls_at hx
    obtain ⟨at', xt, rfl, qt, dt, lt⟩ := pls_at hy
    obtain ⟨as, xs, rfl, qs, ds, ls⟩ := pls_at hz
    have tk : Takes (cxOf (L2.CX P w) P w K mg base ["self", "hands", "boxes", "things", "seals"] "House.__init__" (defScope sInit) f cdv A outer s H E) (fun cls d _ H => E cls d H) := takes_of rfl rfl rfl rfl
    refine ⟨_, pss_cons (ps_expr (pe_call G hr rfl mG kG bG .nil (passes_call tk (fun _ _ _ _ h => h)) (pa_cons (pv 1) (pa_cons (pv 2) (pa_cons (pv 3) (pa_cons (pv 4) pa_nil))))))
      (pss_cons (ps_fld (pv 0) (pv 1) rfl)
      (pss_cons (ps_fld (pv 0) (pe_callTy call_tuple_of (by rfl) B.tup (by decide +kernel) (pa_cons (pv 2) pa_nil)) rfl)
      (pss_cons (ps_fld (pv 0) (pe_callTy call_tuple_of (by rfl) B.tup (by decide +kernel) (pa_cons (pv 3) pa_nil)) rfl)
      (pss_cons (ps_fld (pv 0) (pe_callTy call_tuple_of (by rfl) B.tup (by decide +kernel) (pa_cons (pv 4) pa_nil)) rfl)
      (pss_one (ps_fld (pv 0) (pe_tup (pa_cons (pe_fld (pv 0) rfl) (pa_cons (pe_fld (pv 0) rfl) (pa_cons (pe_fld (pv 0) rfl) pa_nil)))) rfl)))))), ?_⟩
    refine ⟨_, rfl, _, rfl, _, rfl, _, rfl, n, .ref ab, .ref at', .ref as, bs, ts, ss, rfl, hx, hy, hz, hl1, hl2, hl3, kE, fun he H1 e1 => ?_⟩
    have h1 := e1 _ _ hh
    have tu : ∀ {a : Addr} {us : List V} {o : HO}, SqT K H a us → SqT K (upd H1 h o) a us := fun {a us o} q => by
      rcases SqT.same e1 q with (q | ⟨ob, q⟩) | q
      · exact .inl (.inl (by rw [upd_ne (ne_of q h1 (by intro z; cases z))]; exact q))
      · exact .inl (.inr ⟨ob, by rw [upd_ne (ne_of q h1 (by intro z; cases z))]; exact q⟩)
      · exact .inr q
    refine ⟨_, rfl, _, rfl, h, C, dx, _, rfl, h1, T.cl, T.nH, (by show 0 < 1000; decide), ?_⟩
    refine ⟨_, rfl, ab, xb, rfl, .inr ⟨tu qb, _, rfl, h, C, dx, _, rfl, upd_same, T.cl, T.nB, (by show 1 < 1000; decide), ?_⟩⟩
    rw [upd_upd]
    refine ⟨_, rfl, at', xt, rfl, .inr ⟨tu qt, _, rfl, h, C, dx, _, rfl, upd_same, T.cl, T.nT, ?_, ?_⟩⟩
    · have a3 := length_putF "boxes" (.ref ab) (putF "hands" (.int n) [])
      have a4 := length_putF "hands" (.int n) []
      have a5 : ([] : List (Str × V)).length = 0 := rfl
      omega
    rw [upd_upd]
    refine ⟨_, rfl, as, xs, rfl, .inr ⟨tu qs, _, rfl, h, C, dx, _, rfl, upd_same, T.cl, T.nS, ?_, ?_⟩⟩
    · have a2 := length_putF "things" (.ref at') (putF "boxes" (.ref ab) (putF "hands" (.int n) []))
      have a3 := length_putF "boxes" (.ref ab) (putF "hands" (.int n) [])
      have a4 := length_putF "hands" (.int n) []
      have a5 : ([] : List (Str × V)).length = 0 := rfl
      omega
    rw [upd_upd]
    have lk1 : (putF "seals" (.ref as) (putF "things" (.ref at') (putF "boxes" (.ref ab) (putF "hands" (.int n) [])))).lookup ("boxes" : Str) = some (V.ref ab) := by
      rw [lookup_putF, if_neg (by decide +kernel), lookup_putF, if_neg (by decide +kernel), lookup_putF, if_pos rfl]
    have lk2 : (putF "seals" (.ref as) (putF "things" (.ref at') (putF "boxes" (.ref ab) (putF "hands" (.int n) [])))).lookup ("things" : Str) = some (V.ref at') := by
      rw [lookup_putF, if_neg (by decide +kernel), lookup_putF, if_pos rfl]
    have lk3 : (putF "seals" (.ref as) (putF "things" (.ref at') (putF "boxes" (.ref ab) (putF "hands" (.int n) [])))).lookup ("seals" : Str) = some (V.ref as) := by
      rw [lookup_putF, if_pos rfl]
    refine ⟨_, rfl, h, C, dx, _, .ref ab, rfl, upd_same, T.cl, T.nB, lk1, _, rfl, h, C, dx, _, .ref at', rfl, upd_same, T.cl, T.nT, lk2, _, rfl, h, C, dx, _, .ref as, rfl, upd_same, T.cl, T.nS, lk3, (by show 3 ≤ sizeLine; decide), fun p hp => ?_⟩
    have nph : p ≠ h := fun e => by
      rw [e, upd_same] at hp
      cases hp
    refine ⟨_, rfl, h, C, dx, _, rfl, by rw [upd_ne nph.symm, upd_same], T.cl, T.nSt, ?_, ?_⟩
    · have a1 := length_putF "seals" (.ref as) (putF "things" (.ref at') (putF "boxes" (.ref ab) (putF "hands" (.int n) [])))
      have a2 := length_putF "things" (.ref at') (putF "boxes" (.ref ab) (putF "hands" (.int n) []))
      have a3 := length_putF "boxes" (.ref ab) (putF "hands" (.int n) [])
      have a4 := length_putF "hands" (.int n) []
      have a5 : ([] : List (Str × V)).length = 0 := rfl
      omega
    have hpH : H1 p = none := by rw [upd_ne nph] at hp; exact hp
    have key : ∀ b o, H b = some o → b ≠ h → (upd (upd (upd H1 h (.ins C dx (putF "seals" (.ref as) (putF "things" (.ref at') (putF "boxes" (.ref ab) (putF "hands" (.int n) [])))))) p (.tup [.ref ab, .ref at', .ref as])) h (.ins C dx (hsFs n (.ref ab) (.ref at') (.ref as) (.ref p)))) b = some o := fun b o e ne => by
      rw [upd_ne ne, upd_ne (ne_of_none (e1 b o e) hpH), upd_ne ne]
      exact e1 b o e
    have dps : ∀ (v : V) (ps : List Pl), Dp K H v (plsD ps) → Dp K (upd (upd (upd H1 h (.ins C dx (putF "seals" (.ref as) (putF "things" (.ref at') (putF "boxes" (.ref ab) (putF "hands" (.int n) [])))))) p (.tup [.ref ab, .ref at', .ref as])) h (.ins C dx (hsFs n (.ref ab) (.ref at') (.ref as) (.ref p)))) v (plsD ps) := fun v ps q =>
      Dp.tp (fun b xs e => by
        rcases e with e | ⟨o, e⟩
        · exact .inl (key b _ e (ne_of e hh (by intro z; cases z)))
        · exact .inr ⟨o, key b _ e (ne_of e hh (by intro z; cases z))⟩) _ _ (noL_pls ps) q
    refine kQ he _ key ⟨dx, _, _, _, _, upd_same, dps _ _ hx, dps _ _ hy, dps _ _ hz, ?_⟩ (fun hf => ⟨dx, _, _, _, _, upd_same, ⟨p, _, _, _, rfl, SqT.of (by rw [upd_ne nph, upd_same]), dps _ _ hx, dps _ _ hy, dps _ _ hz, ?_⟩⟩)
    rotate_left
    · obtain ⟨a0, x0, e0, o0, f0, f1, f2⟩ := hf
      exact ⟨a0, x0, e0, o0, key _ _ f0 (ne_of f0 hh (by intro z; cases z)), f1, f2⟩
    exact .tup (SqT.of (by rw [upd_ne nph, upd_same])) (.cons (dps _ _ hx) (.cons (dps _ _ hy) (.cons (dps _ _ hz) .nil)))

/-! ### items -/
theorem wipe_one (σ : L2.St) (j : Nat) (x : Option V) : wipe ((wipe σ [j]).set j x) [j] = wipe σ [j] := by
  show (((σ.set j none).set j x).set j none) = σ.set j none
  rw [List.set_set, List.set_set]
theorem yes_lc {A B : Hp → Prop} {σ : L2.St} {H : Hp} (h : A H) : tYes σ H (fun b H3 => if b = true then A H3 else B H3) := by
  show (if true = true then A H else B H)
  rw [if_pos rfl]
  exact h
/-! ### item in house -/
theorem ty_tupQ {K : PySem.W.Frag} {H : Hp} {a : Addr} {xs : List V} (h : SqT K H a xs) : TyX K H (.ref a) (.type "tuple") := by
  rcases h with (h | ⟨o, h⟩) | ⟨o, _, _, h, hc, _⟩
  · exact .base (.tup h)
  · exact .fTuple h
  · exact .kTuple h hc
def spHas (K : PySem.W.Frag) (C : Addr) : Sp := fun vs H Q _ => ∃ (h a : Addr) (d : Hs) (k : Str) (i : Int), vs = [.ref h, .ref a] ∧ HouseAt K C H h d ∧ SqT K H a [.str k, .int i] ∧ Q (.bl (numOk i (manyOf d k))) H
theorem scHas : FnScope ["self", "item"] ["self", "item"] (defScope sHas) := ⟨rfl, rfl, rfl, by decide +kernel, rfl, by decide +kernel, by decide +kernel⟩
theorem ok_has {f gm gn C : Addr} {fd fdm fdn : FuncData} (F : Fun K "__contains__" "House.__contains__" sHas f fd) (B : Bt mg)
    (GM : FnOk P w K mg base CX0 1 gm fdm ["house", "word"] (spMany K C)) (mM : mg "how_many" = some (.ref gm)) (kM : PySem.W.keepIn K (.ref gm) = true) (bM : Binds K fdm ["house", "word"] [])
    (GN : FnOk P w K mg base CX0 1 gn fdn ["value", "limit"] spNum) (mN : mg "is_number" = some (.ref gn)) (kN : PySem.W.keepIn K (.ref gn) = true) (bN : Binds K fdn ["value", "limit"] []) :
    FnOk P w K mg base CX0 2 f fd ["self", "item"] (spHas K C) := by
  refine F.ok scHas (fun vs H Q E h => ?_) (fun cdv A outer s H vs Q E hr h => ?_)
  · obtain ⟨h, a, d, k, i, rfl, _⟩ := h
    rfl
  · obtain ⟨h, a, d, k, i, rfl, hh, ha, kq⟩ := h
    refine ⟨_, pss_one (ps_ret (pe_and (pe_callB call_isi (by rfl) B.isi (by decide +kernel) (pa_cons (pv 1) (pa_cons (pe_bltn (v := .ty "tuple") (by rfl) B.tup (by decide +kernel) rfl) pa_nil)))
      (pe_and (pe_cmpR op_eq (pe_callB call_len_seq (by rfl) B.len PySem.boot_len (pa_cons (pv 1) pa_nil)) pe_int (nomark _))
        (pe_one (pe_call GN hr rfl mN kN bN .nil pass0 (pa_cons (pe_ix ix_tup (pv 1) pe_int (fun _ _ => rfl)) (pa_cons (pe_call GM hr rfl mM kM bM .nil pass0 (pa_cons (pv 0) (pa_cons (pe_ix ix_tup (pv 1) pe_int (fun _ _ => rfl)) pa_nil))) pa_nil))))))), ?_⟩
    refine ⟨_, rfl, _, _, _, _, true, rfl, .ty "tuple", ty_tupQ ha, kit_ty (by decide +kernel), _, rfl, iteT ?_⟩
    refine ⟨_, rfl, _, _, rfl, .inr ha, rfl, true, rfl, iteT ?_⟩
    refine ⟨_, rfl, a, _, 1, _, rfl, rfl, ha, rfl, _, rfl, _, rfl, a, _, 0, _, rfl, rfl, ha, rfl, h, d, k, rfl, hh, i, _, rfl, ?_⟩
    exact kq
/-! ### house == other -/
/-- what the class says of isinstance -/
structure HouseI (K : PySem.W.Frag) (C : Addr) : Prop where
  ha : PySem.W.findIn K (.ref C) "__class__" = some (some (.builtin "object.__class__"))
  hn : PySem.W.specialIn K (.builtin "object.__class__") "__get__" = some (some (.builtin "getset_descriptor.__get__"))
  htk : PySem.W.takesIn K (.builtin "object.__class__") = some true
  hm : PySem.W.mroIn K C (.type "object") = some true
  kit : PySem.W.kitOne K (.ref C) (.ref C) = some true
end
end Kw




set_option Elab.async false
set_option linter.all false
set_option maxRecDepth 100000
set_option maxHeartbeats 4000000
namespace Kw
open PySem PySem.Spec PyProof.Rows L2
/-! ### the law's box of draws -/
def BoxAt (H : Hp) (b l : Addr) : Prop := ∃ (ns : List Int) (m : Int), H b = some (.lst [.ref l, .int m]) ∧ H l = some (.lst (ns.map V.int)) ∧ ns.length ≤ 63
def Tbs (H H' : Hp) : Prop := ∀ a ps, H a = some (.tbl ps) → H' a = some (.tbl ps)
/-- a draw: the box is changed, nothing else -/
structure Kb (b l : Addr) (H H' : Hp) : Prop where
  kp : Kp b l H H'
  tb : Tbs H H'
theorem Kb.refl (b l : Addr) (H : Hp) : Kb b l H H := ⟨Kp.refl b l H, fun _ _ h => h⟩
theorem Kb.trans {b l : Addr} {H H1 H2 : Hp} (x : Kb b l H H1) (y : Kb b l H1 H2) : Kb b l H H2 := ⟨x.kp.trans y.kp, fun a ps h => y.tb a ps (x.tb a ps h)⟩
theorem Kb.same {b l : Addr} {H H' : Hp} (e : Same H H') : Kb b l H H' := ⟨Kp.same e, fun a ps h => e a _ h⟩
theorem Kb.nl {b l : Addr} {H H' : Hp} (x : Kb b l H H') : Nl H H' := x.kp.nl
theorem BoxAt.same {H H' : Hp} {b l : Addr} (e : Same H H') (x : BoxAt H b l) : BoxAt H' b l := by
  obtain ⟨ns, m, h1, h2, h3⟩ := x
  exact ⟨ns, m, e _ _ h1, e _ _ h2, h3⟩
theorem BoxAt.ne {H : Hp} {b l : Addr} (x : BoxAt H b l) : b ≠ l := by
  obtain ⟨ns, m, h1, h2, _⟩ := x
  refine ne_of h1 h2 fun z => ?_
  have z' : [V.ref l, V.int m] = ns.map V.int := HO.lst.inj z
  cases ns with
  | nil => cases z'
  | cons n r => cases z'
section
variable {P : Program} {w : World} {K : PySem.W.Frag} {mg : Str → Option Value} {base : Heap}
/-! ### _law_begun -/
/-! ### _law_take -/
/-! ### _law_alike, asked of equal data -/
theorem DpAll.at2 {K : PySem.W.Frag} {H : Hp} : ∀ {vs : List V} {ds : List PyData} {i : Nat} {d : PyData}, DpAll K H vs ds → ds[i]? = some d → ∃ x, vs[i]? = some x ∧ Dp K H x d
  | _, _, _, _, .nil, e => by simp at e
  | _, _, 0, _, .cons h _, e => by
    simp at e
    subst e
    exact ⟨_, rfl, h⟩
  | _, _, i + 1, d, .cons _ t, e => by
    obtain ⟨x, h1, h2⟩ := DpAll.at2 (i := i) (d := d) t (by simpa using e)
    exact ⟨x, by simpa using h1, h2⟩
theorem ty_tup {K : PySem.W.Frag} {H : Hp} {a : Addr} {xs : List V} (h : SqT K H a xs) : TyX K H (.ref a) (.type "tuple") := by
  rcases h with (h | ⟨o, h⟩) | ⟨o, _, _, h, hc, _⟩
  · exact .base (.tup h)
  · exact .fTuple h
  · exact .kTuple h hc
theorem ty_lst {K : PySem.W.Frag} {H : Hp} {a : Addr} {xs : List V} (h : SqL K H a xs) : TyX K H (.ref a) (.type "list") := by
  rcases h with (h | ⟨o, h⟩) | ⟨o, _, _, h, hc, _⟩
  · exact .base (.lst h)
  · exact .base (.frz h)
  · exact .kList h hc
end
end Kw




set_option Elab.async false
set_option linter.all false
set_option maxRecDepth 100000
set_option maxHeartbeats 4000000
namespace Kw
open PySem PySem.Spec PyProof.Rows L2
section
variable {P : Program} {w : World} {K : PySem.W.Frag} {mg : Str → Option Value} {base : Heap}
theorem BoxAt.upd {H : Hp} {b l p : Addr} {o : HO} (hp : H p = none) (x : BoxAt H b l) : BoxAt (L2.upd H p o) b l := BoxAt.same (same_upd hp) x
theorem numOk_of {r m : Int} (h0 : 0 ≤ r) (h1 : r < m) : numOk r m = true := by
  unfold numOk
  rw [decide_eq_true h0, decide_eq_true h1]
  rfl
/-! ### _law_places -/
/-! ### _law_house -/
theorem bad_none {f : Nat → Pl → Bool} : ∀ (l : List Pl) (k : Nat), (∀ i p, l[i]? = some p → f (k + i) p = false) → firstBad f k l = none
  | [], _, _ => rfl
  | p :: r, k, h => by
    have h0 := h 0 p rfl
    rw [Nat.add_zero] at h0
    show (if f k p = true then some k else firstBad f (k + 1) r) = none
    rw [h0, if_neg (by decide)]
    exact bad_none r (k + 1) fun i q e => by
      have := h (i + 1) q (by simpa using e)
      rw [show k + 1 + i = k + (i + 1) by omega]
      exact this
/-- what a drawn house is -/
structure HsOk (d : Hs) : Prop where
  h0 : 1 ≤ d.hands
  h1 : d.hands ≤ 4
  b0 : 1 ≤ d.bs.length
  b1 : d.bs.length ≤ 3
  t1 : d.ts.length ≤ 4
  s1 : d.ss.length ≤ 3
  okE : errOf d.hands d.bs d.ts d.ss = none
  nb : ∀ p ∈ d.bs, p.1 ≠ .gone
  nt : ∀ p ∈ d.ts, p.1 ≠ .gone
  ns : ∀ p ∈ d.ss, p.1 ≠ .gone
theorem Kb.updD {b l D : Addr} {H H' : Hp} {o : HO} (k : Kb b l H H') (hD : H D = .none) : Kb b l H (L2.upd H' D o) :=
  ⟨⟨fun a u h n1 n2 => by rw [upd_ne (ne_of_none h hD)]; exact k.kp.nl a u h n1 n2, fun a xs h n1 n2 => by rw [upd_ne (ne_of_none h hD)]; exact k.kp.ls a xs h n1 n2⟩, fun a ps h => by rw [upd_ne (ne_of_none h hD)]; exact k.tb a ps h⟩
theorem BoxAt.neL {H : Hp} {b l D : Addr} (x : BoxAt H b l) (hD : H D = .none) : D ≠ b ∧ D ≠ l := by
  obtain ⟨ns, m, h1, h2, _⟩ := x
  exact ⟨(ne_of_none h1 hD).symm, (ne_of_none h2 hD).symm⟩
theorem BoxAt.updD {H : Hp} {b l D : Addr} {o : HO} (x : BoxAt H b l) (n1 : D ≠ b) (n2 : D ≠ l) : BoxAt (L2.upd H D o) b l := by
  obtain ⟨ns, m, h1, h2, h3⟩ := x
  exact ⟨ns, m, by rw [upd_ne n1.symm]; exact h1, by rw [upd_ne n2.symm]; exact h2, h3⟩
theorem tp_lst {H : Hp} {D : Addr} {xs : List V} {o : HO} (h : H D = some (.lst xs)) : Tp H (L2.upd H D o) := fun a us r => by
  rcases r with r | ⟨u, r⟩
  · exact .inl (by rw [upd_ne (ne_of r h (by intro z; cases z))]; exact r)
  · exact .inr ⟨u, by rw [upd_ne (ne_of r h (by intro z; cases z))]; exact r⟩
/-- the seals that are drawn one by one: a hand's, or on a box that has none -/
def OkS (m : Int) (qs : List Pl) : Prop := ∀ (i : Nat) q, qs[i]? = some q → q.1 = .hand ∨ (q.1 = .box ∧ numOk q.2 m = true ∧ q ∉ qs.take i)
theorem OkS.nil (m : Int) : OkS m [] := fun i q e => by simp at e
theorem OkS.add {m : Int} {qs : List Pl} {q : Pl} (h : OkS m qs) (hq : q.1 = .hand ∨ (q.1 = .box ∧ numOk q.2 m = true ∧ q ∉ qs)) : OkS m (qs ++ [q]) := fun j p e => by
  by_cases c : j < qs.length
  · rw [List.getElem?_append_left c] at e
    rw [List.take_append_of_le_length (by omega)]
    exact h j p e
  · have ej : j = qs.length := by
      have := (List.getElem?_eq_some_iff.mp e).1
      simp at this
      omega
    subst ej
    rw [List.getElem?_append_right (Nat.le_refl _), Nat.sub_self] at e
    have ep : q = p := by simpa using e
    subst ep
    rw [List.take_append_of_le_length (Nat.le_refl _), List.take_length]
    exact hq
theorem plOk_gone {p : Pl} {h m : Int} (k : plOk p h m = true) : p.1 ≠ .gone := fun z => by
  unfold plOk at k
  rw [z] at k
  cases k
theorem err_none {h : Int} {bs ts ss : List Pl} (h0 : 1 ≤ h) (h1 : h ≤ 4) (b0 : 1 ≤ bs.length) (b1 : bs.length ≤ 3) (okb : ∀ (i : Nat) p, bs[i]? = some p → plOk p h i = true) (t1 : ts.length ≤ 4) (okt : ∀ (i : Nat) p, ts[i]? = some p → plOk p h bs.length = true)
    (oks : ∀ (i : Nat) p, ss[i]? = some p → badS h bs.length ss (0 + i) p = false) : errOf h bs ts ss = none := by
  unfold errOf
  have hn : numOk h 5 = true := numOk_of (by omega) (by omega)
  have hz : decide (h = 0) = false := decide_eq_false (by omega)
  rw [hn, hz, if_neg (by decide)]
  have eb : badBoxes h bs = none := by
    unfold badBoxes
    rw [if_neg (by omega)]
    refine bad_none bs 0 fun i p e => ?_
    have hi := (List.getElem?_eq_some_iff.mp e).1
    unfold badB
    rw [Nat.zero_add, okb i p e, decide_eq_false (show ¬ i = 3 by omega)]
    rfl
  have et : firstBad (badT h bs.length) 0 ts = none := by
    refine bad_none ts 0 fun i p e => ?_
    have hi := (List.getElem?_eq_some_iff.mp e).1
    unfold badT
    rw [Nat.zero_add, okt i p e, decide_eq_false (show ¬ i = 4 by omega)]
    rfl
  rw [eb, et, bad_none ss 0 oks]
theorem mem_get {α : Type} {l : List α} {p : α} (h : p ∈ l) : ∃ i : Nat, l[i]? = some p := by
  obtain ⟨i, hi, e⟩ := List.getElem_of_mem h
  exact ⟨i, List.getElem?_eq_some_iff.mpr ⟨hi, e⟩⟩
end
end Kw




set_option Elab.async false
set_option linter.all false
set_option maxRecDepth 100000
set_option maxHeartbeats 4000000
namespace Kw
open PySem PySem.Spec PyProof.Rows L2
section
variable {P : Program} {w : World} {K : PySem.W.Frag} {mg : Str → Option Value} {base : Heap}
/-! ### _law_error -/
def KindAt (K : PySem.W.Frag) (mg : Str → Option Value) (CE : Addr) (x : Str) (b : Bool) : Prop := ∃ c, mg x = some (.ref c) ∧ PySem.W.kitOne K (.ref CE) (.ref c) = some b
theorem iteFe {b : Bool} {A B : Prop} (hb : b = false) (h : B) : if b = true then A else B := by
  rw [hb]
  exact iteF h
theorem iteTe {b : Bool} {A B : Prop} (hb : b = true) (h : A) : if b = true then A else B := by
  rw [hb]
  exact iteT h
end
end Kw




set_option Elab.async false
set_option linter.all false
set_option maxRecDepth 100000
set_option maxHeartbeats 4000000
namespace Kw
open PySem PySem.Spec PyProof.Rows L2
section
variable {P : Program} {w : World} {K : PySem.W.Frag} {mg : Str → Option Value} {base : Heap}
/-! ### _law_error, any of the plain errors -/
def DdOk (dd : Option Addr) (H : Hp) : Prop := ∀ d, dd = some d → ∃ fs, H d = some (.xd fs)
theorem DdOk.same {dd : Option Addr} {H H' : Hp} (e : Same H H') (h : DdOk dd H) : DdOk dd H' := fun d hd => by
  obtain ⟨fs, hf⟩ := h d hd
  exact ⟨fs, e _ _ hf⟩
theorem tisiG {σ : L2.St} {H : Hp} {Q : VK} {CE a c : Addr} {dd : Option Addr} {b : Bool} (h0 : σ[1]? = some (some (.ref a))) (hd : DdOk dd H) (ki : PySem.W.kitOne K (.ref CE) (.ref c) = some b) (q : Q (.bl b) H) :
    tCB (fun xs H Q => (∀ d, dd = some d → ∃ fs, H d = some (.xd fs)) ∧ rIsE K CE a xs H Q) (tCons (tVar 1) (tCons (tC (.ref c)) tNil)) σ H Q :=
  ⟨_, h0, hd, .ref c, .ref c, b, rfl, fun _ z => z, ki, q⟩
end
end Kw




set_option Elab.async false
set_option linter.all false
set_option maxRecDepth 100000
set_option maxHeartbeats 4000000
namespace Kw
open PySem PySem.Spec PyProof.Rows L2
section
variable {X : Cx}
/-! ### match of a tuple against [word, names..] -/
/-- the names behind the word, with their slots; none: the pattern _ -/
inductive Caps (X : Cx) : List Pattern → List (Option Nat) → Prop
  | nil : Caps X [] []
  | wild {pos : Pos} {ps : List Pattern} {is : List (Option Nat)} : Caps X ps is → Caps X (.MatchAs none none pos :: ps) (none :: is)
  | name {x : Str} {i : Nat} {pos : Pos} {ps : List Pattern} {is : List (Option Nat)} : X.N[i]? = some x → X.env.scope.names.lookup x = some .local → Caps X ps is → Caps X (.MatchAs none (some x) pos :: ps) (some i :: is)
def setAll : List (Option Nat) → List V → L2.St → L2.St
  | some i :: is, v :: vs, σ => setAll is vs (σ.set i (some v))
  | none :: is, _ :: vs, σ => setAll is vs σ
  | _, _, σ => σ
structure MCase where
  word : Str
  slots : List (Option Nat)
  body : TS
def mGo (w0 : Str) (rest : List V) (D : Ends) (σ : L2.St) (H : Hp) : List MCase → Prop
  | [] => D.nx σ H
  | c :: cs => if c.slots.length = rest.length ∧ c.word = w0 then c.body D (setAll c.slots rest σ) H else mGo w0 rest D σ H cs
/-- match t: case [word, ..]: .. -/
def tMatch (K : PySem.W.Frag) (te : TE) (cs : List MCase) : TS := fun D σ H => te σ H fun x H1 => ∃ (a : Addr) (w0 : Str) (rest : List V), x = .ref a ∧ SqT K H1 a (.str w0 :: rest) ∧ mGo w0 rest D σ H1 cs
/-- the cases as the text has them -/
inductive Cases (X : Cx) : List MatchCase → List MCase → Prop
  | nil : Cases X [] []
  | cons {s : Str} {j : Nat} {p1 p2 pos : Pos} {ps : List Pattern} {is : List (Option Nat)} {body : List Stmt} {tb : TS} {cs : List MatchCase} {rs : List MCase} (h : Caps X ps is) (hb : PSs X body tb) (hr : Cases X cs rs) :
      Cases X (⟨.MatchSequence (.MatchValue (.Constant (.str s) j p1) p2 :: ps) pos, none, body⟩ :: cs) (⟨s, is, tb⟩ :: rs)
theorem Caps.len {ps : List Pattern} {is : List (Option Nat)} (h : Caps X ps is) : ps.length = is.length := by
  induction h with
  | nil => rfl
  | wild _ ih => simp [ih]
  | name _ _ _ ih => simp [ih]
theorem Caps.nostar {ps : List Pattern} {is : List (Option Nat)} (h : Caps X ps is) : ∀ p ∈ ps, p.isStar = false := by
  induction h with
  | nil => intro p hp; cases hp
  | wild _ ih =>
    intro p hp
    rcases List.mem_cons.mp hp with rfl | hp
    · rfl
    · exact ih p hp
  | name _ _ _ ih =>
    intro p hp
    rcases List.mem_cons.mp hp with rfl | hp
    · rfl
    · exact ih p hp
/-- the captured names and their values -/
def bindsOf : List Pattern → List Value → List (Str × Value)
  | .MatchAs _ (some x) _ :: ps, u :: us => (x, u) :: bindsOf ps us
  | _ :: ps, _ :: us => bindsOf ps us
  | _, _ => []
theorem run_caps {ps : List Pattern} {is : List (Option Nat)} (h : Caps X ps is) : ∀ {us : List Value} {s : Shared} {E : Value → Shared → Prop} {Q : Option (List (Str × Value)) → Shared → Prop}, us.length = ps.length → Q (some (bindsOf ps us)) s →
    wpAny (model X.prog X.w) X.A (matchEach ps X.env us) Q E s := by
  induction h with
  | nil =>
    intro us s E Q hl hq
    cases us with
    | nil => exact wpAny_matchEach_nil hq
    | cons u us => simp at hl
  | wild _ ih =>
    intro us s E Q hl hq
    cases us with
    | nil => simp at hl
    | cons u us =>
      refine wpAny_matchEach_cons (wpAny_matchPattern_Capture ?_)
      exact ih (by simpa using hl) hq
  | name _ _ _ ih =>
    intro us s E Q hl hq
    cases us with
    | nil => simp at hl
    | cons u us =>
      refine wpAny_matchEach_cons (wpAny_matchPattern_Capture ?_)
      exact ih (by simpa using hl) hq
theorem run_binds {ps : List Pattern} {is : List (Option Nat)} (h : Caps X ps is) (hN : X.N.Nodup) : ∀ {us : List Value} {vs : List V} {pins : List (Addr × Obj)} {σ : L2.St} {H : Hp} {s : Shared} {E : Value → Shared → Prop} {Q : Unit → Shared → Prop}, us.length = ps.length → Vals vs us →
    Inv X pins σ H s → (∀ s', Inv X pins (setAll is vs σ) H s' → Q () s') → wpAny (model X.prog X.w) X.A (assignInOrder ((bindsOf ps us).map fun (n, _) => bindName X.env n) ((bindsOf ps us).map (·.2))) Q E s := by
  induction h with
  | nil =>
    intro us vs pins σ H s E Q hl r I k
    cases us with
    | nil => exact wpAny_assignInOrder_none (k s I)
    | cons u us => simp at hl
  | wild _ ih =>
    intro us vs pins σ H s E Q hl r I k
    cases us with
    | nil => simp at hl
    | cons u us =>
      cases r with
      | cons r1 rr => exact ih (by simpa using hl) rr I k
  | name hi hx _ ih =>
    intro us vs pins σ H s E Q hl r I k
    cases us with
    | nil => simp at hl
    | cons u us =>
      cases r with
      | cons r1 rr =>
        refine wpAny_assignInOrder_more (wpAny_bindName (store_ok I hN hi (.inl hx) r1 (fun s' I' => ?_) (.inr hx)))
        exact ih (by simpa using hl) rr I' k
theorem run_cases (hc : X.calm = true) (hN : X.N.Nodup) {a : Addr} {w0 : Str} {rest : List V} {mcs : List MatchCase} {rs : List MCase} (h : Cases X mcs rs) : ∀ {pins : List (Addr × Obj)} {σ : L2.St} {H : Hp} {s : Shared} {D : Ends} {first : Bool}, Inv X pins σ H s → SqT X.K H a (.str w0 :: rest) → mGo w0 rest D σ H rs →
    wpAny (model X.prog X.w) X.A (matchCases mcs X.env (.ref a) first) (fun f s' => SP X pins D f s') X.xe s := by
  induction h with
  | nil =>
    intro pins σ H s D first I hs hq
    exact wpAny_matchCases_nil ⟨σ, H, I, hq⟩
  | @cons w j p1 p2 pos ps is body tb cs rs h hb hr ih =>
    intro pins σ H s D first I hs hq
    obtain ⟨its, rv, ht, hz⟩ := I.tuple hs
    have hlen : its.length = rest.length + 1 := by rw [← rv.length]; rfl
    have pl : (Pattern.MatchValue (.Constant (.str w) j p1) p2 :: ps).length = is.length + 1 := by rw [List.length_cons, h.len]
    have star : (Pattern.MatchValue (.Constant (.str w) j p1) p2 :: ps).findIdx? (·.isStar) = none := List.findIdx?_eq_none_iff.mpr fun p hp => by
      rcases List.mem_cons.mp hp with rfl | hp
      · rfl
      · exact h.nostar p hp
    have wild : ((Pattern.MatchValue (.Constant (.str w) j p1) p2 :: ps).all fun p => p.isWildcard || (p.isStar && p.names.isEmpty)) = false := rfl
    have hz' : rest.length + 1 ≤ sizeLine := hz
    have fit : ((its.toArray.size : Nat) : Int) < 2 ^ 63 := by
      rw [List.size_toArray]
      rw [sizeLine_eq] at hz'
      omega
    refine wpAny_matchCases_cons ?_
    by_cases cl : is.length = rest.length
    · refine matchSeq_tuple_hit ht fit (by rw [pl, List.size_toArray, hlen, cl]) ?_ star wild
      rw [show (Pattern.MatchValue (.Constant (.str w) j p1) p2 :: ps).length = its.toArray.size by rw [pl, List.size_toArray, hlen, cl]]
      refine unpackItems_tuple (I.ok.hd hc) ht fun h' hx => ?_
      have I1 : Inv X pins σ H { s with heap := h', toks := s.toks + 1 + 1 } := I.kept (t' := s.toks + 1 + 1) fun b o e => hx b o (Nat.ne_of_lt (Heap.lt_size e)) e
      have el : its.toArray.toList = its := by simp
      rw [el]
      cases rv with
      | @cons _ u0 _ us r0 rr =>
        have lu : us.length = ps.length := by
          have : us.length + 1 = rest.length + 1 := hlen
          rw [h.len]
          omega
        refine wpAny_matchEach_cons (wpAny_matchPattern_Value ?_)
        refine thn ((pe_str (X := X) (x := w) (j := j) (pos := p1)).run pins _ σ H (fun v H1 => v = .str w ∧ H1 = H) I1 ⟨rfl, rfl⟩) fun u s1 hu => ?_
        obtain ⟨v, H1, I2, r2, ev, eH⟩ := hu
        subst ev eH
        refine thn (op_eq pins s1 σ H1 (V.str w0) (V.str w) u0 u (fun z H2 => z = .bl (decide ((V.str w0) = V.str w)) ∧ H2 = H1) I2 r0 r2 ⟨rfl, rfl, rfl⟩) fun z s2 hz2 => ?_
        obtain ⟨zv, H2, I3, rz, ez, eH2⟩ := hz2
        subst ez eH2
        obtain rfl : z = Value.bool (decide ((V.str w0) = V.str w)) := rz
        refine wpAny_truthy_bool ?_
        by_cases cw : w = w0
        · subst cw
          rw [decide_eq_true rfl]
          show wpAny _ _ _ _ _ _
          refine run_caps h lu ?_
          show wpAny _ _ _ _ _ _
          refine run_binds h hN lu rr I3 fun s3 I4 => ?_
          have hq' : tb D (setAll is rest σ) H2 := by
            have q := hq
            unfold mGo at q
            rwa [if_pos ⟨cl, rfl⟩] at q
          exact hb.run pins s3 _ H2 D I4 hq'
        · have ne : decide ((V.str w0) = V.str w) = false := decide_eq_false fun z => cw (V.str.inj z).symm
          rw [ne]
          show wpAny _ _ _ _ _ _
          have hq' : mGo w0 rest D σ H2 rs := by
            have q := hq
            unfold mGo at q
            rwa [if_neg (fun z => cw z.2)] at q
          exact ih I3 hs hq'
    · refine matchSeq_tuple_miss ht fit (by rw [pl, List.size_toArray, hlen]; omega) ?_ star wild
      have hq' : mGo w0 rest D σ H rs := by
        have q := hq
        unfold mGo at q
        rwa [if_neg (fun z => cl z.1)] at q
      exact ih (I.kept (t' := _) fun _ _ e => e) hs hq'
theorem ps_match {e : Expr} {te : TE} {mcs : List MatchCase} {rs : List MCase} {pos : Pos} (hc : X.calm = true) (hN : X.N.Nodup) (he : PE X e te) (h : Cases X mcs rs) : PS X (.Match e mcs pos) (tMatch X.K te rs) := by
  refine ⟨fun pins s σ H D I q => wpAny_Match (thn (he.run pins s σ H _ I q) fun v s1 hv => ?_)⟩
  obtain ⟨x, H1, I1, r1, a, w0, rest, ex, hs, hg⟩ := hv
  subst ex
  cases r1
  exact run_cases hc hN h I1 hs hg
end
end Kw




set_option Elab.async false
set_option linter.all false
set_option maxRecDepth 100000
set_option maxHeartbeats 4000000
namespace Kw
open PySem PySem.Spec PyProof.Rows L2
section
variable {X : Cx}
/-- {item}, an item: a word and a number; some text that is not long -/
def tFmtI (K : PySem.W.Frag) (te : TE) : TE := fun σ H Q => te σ H fun x H1 => ∃ (a : Addr) (w : Str) (i : Int), x = .ref a ∧ SqT K H1 a [.str w, .int i] ∧ w.length ≤ 20 ∧ (∀ c ∈ w.cps.toList, c < 16 ^ 8) ∧ 0 ≤ i ∧ i ≤ 1000 ∧ ∀ m : Str, m.length ≤ 300 → Q (.str m) H1
theorem log2_le {i : Int} (h0 : 0 ≤ i) (h1 : i ≤ 1000) : i.natAbs.log2 < 1920 := by
  have h2 : i.natAbs ≤ 1000 := by omega
  by_cases h3 : i.natAbs = 0
  · rw [h3]; decide
  · have := (Nat.log2_lt h3 (k := 10)).mpr (by omega)
    omega
theorem pe_fmtI {e : Expr} {te : TE} {pos : Pos} {k : Nat} (hr : Room k X.A) (he : PE X e te) : PE X (.FormattedValue e (-1) none pos) (tFmtI X.K te) := by
  refine ⟨fun pins s σ H Q I h => ?_⟩
  refine wpAny_FormattedValue_plain (thn (he.run pins s σ H _ I h) fun v s1 hv => ?_)
  obtain ⟨x, H1, I1, r1, a, w, i, rfl, ht, hw, hc, i0, i1, q⟩ := hv
  cases r1
  obtain ⟨its, rv, ⟨o, ho, hcl, n, hd⟩, _⟩ := I1.tuple ht
  have h1 := StrLaws.reprText_len w hc
  have h2 : (toString i : Str).length ≤ 4 := toString_length_le i0 (k := 4) (by decide) (by omega)
  have hp : piled [reprText w, (toString i : Str)] ≤ 230 := by
    rw [piled_cons, piled_cons, piled_nil]
    omega
  have htx := fmt_text [reprText w, (toString i : Str)]
  have hz : sizeLine ≥ 100000 := by rw [sizeLine_eq]; omega
  have hT : ReprAll X.prog X.w its.toArray.toList [reprText w, (toString i : Str)] := by
    rw [show its.toArray.toList = its by simp]
    cases rv with
    | cons ra rr =>
      cases rr with
      | cons rb rr =>
        cases rr
        obtain ⟨t1, rfl⟩ := ra
        obtain ⟨t2, rfl⟩ := rb
        exact .cons (ReprIs.str w t1 (by omega)) (.cons (ReprIs.int t2 (log2_le i0 i1)) .nil)
  have hu := hr.units
  exact fmt_tuple (by omega) ho hcl hd hT (by omega) fun m u tk hm => ⟨.str m, H1, I1.tok _, ⟨u, rfl⟩, q m (by omega)⟩
end
end Kw




set_option Elab.async false
set_option linter.all false
set_option maxRecDepth 100000
set_option maxHeartbeats 4000000
namespace Kw
open PySem PySem.Spec PyProof.Rows L2
/-! ### sorted over tuples of words, numbers and tuples of these -/
/-- x < y is told: numbers, words, tuples place by place -/
def cmpE : PyData → PyData → Bool
  | .int _, .int _ => true
  | .str _, .str _ => true
  | .tuple [.str _, .int _], .tuple [.str _, .int _] => true
  | _, _ => false
/-- .. of two tuples, at the first place where they differ -/
def topCmp : List PyData → List PyData → Bool
  | x :: xs, y :: ys => if PyData.eqv x y = true then topCmp xs ys else cmpE x y
  | _, _ => true
section
variable {prog : Program} {w : World}
theorem rc_str {A : Around} {s : Shared} (a b : Str) (t u : Tok) : Ob.RcOp .Lt A s (.str a t) (.str b u) (decide (a.cps.toList < b.cps.toList)) := fun _ _ _ _ h => PyProof.Rows.lt_str h
/-- x < y -/
theorem lt_reads {A : Around} {s : Shared} {v u : Value} {d e : PyData} {as bs : List Addr} (r1 : Reads s.heap v d as) (r2 : Reads s.heap u e bs) (hu : A.units + 3 < cLine) (h : cmpE d e = true) : ∃ b, Ob.RcOp .Lt A s v u b := by
  unfold cmpE at h
  split at h
  · cases r1
    cases r2
    exact ⟨_, Ob.RcOp.lt_int _ _ _ _⟩
  · cases r1
    cases r2
    exact ⟨_, rc_str _ _ _ _⟩
  · rename_i w1 i1 w2 i2
    cases r1 with
    | @tuple a o vs n _ as1 g1 g2 g3 g4 =>
      cases r2 with
      | @tuple a' o' vs' n' _ as2 k1 k2 k3 k4 =>
        have hv : ∃ t1 t2, vs.toList = [.str w1 t1, .int i1 t2] := by
          generalize vs.toList = l at g4
          cases g4 with
          | cons p1 q1 =>
            cases q1 with
            | cons p2 q2 =>
              cases q2
              cases p1
              cases p2
              exact ⟨_, _, rfl⟩
        have hv' : ∃ t1 t2, vs'.toList = [.str w2 t1, .int i2 t2] := by
          generalize vs'.toList = l at k4
          cases k4 with
          | cons p1 q1 =>
            cases q1 with
            | cons p2 q2 =>
              cases q2
              cases p1
              cases p2
              exact ⟨_, _, rfl⟩
        obtain ⟨t1, t2, e1⟩ := hv
        obtain ⟨t3, t4, e2⟩ := hv'
        obtain rfl : vs = #[.str w1 t1, .int i1 t2] := by rw [← Array.toArray_toList (xs := vs), e1]
        obtain rfl : vs' = #[.str w2 t3, .int i2 t4] := by rw [← Array.toArray_toList (xs := vs'), e2]
        refine ⟨_, Ob.RcOp.tuples_lt (e := fun j => if j = 0 then w1 == w2 else i1 == i2) (r := fun j => if j = 0 then decide (w1.cps.toList < w2.cps.toList) else decide (i1 < i2)) ⟨_, g1, g2, _, g3⟩ ⟨_, k1, k2, _, k3⟩ (by omega) (fun j h1 h2 => ?_) (fun j h1 h2 _ => ?_)⟩
        · match j, h1, h2 with
          | 0, _, _ => exact SeqAt.EqAt.str_str _ _ _ _
          | 1, _, _ => exact SeqAt.EqAt.int_int _ _ _ _
          | j + 2, h1, _ => simp at h1; omega
        · match j, h1, h2 with
          | 0, _, _ => exact rc_str _ _ _ _
          | 1, _, _ => exact Ob.RcOp.lt_int _ _ _ _
          | j + 2, h1, _ => simp at h1; omega
  · cases h
theorem lex_reads {A : Around} {s : Shared} {b : Bool} (fin : Bool) (hu : A.units + 20 < cLine) : ∀ (xs ys : List PyData) (vs us : List Value) (as bs : List Addr) (i : Nat), ReadsAll s.heap vs xs as → ReadsAll s.heap us ys bs → PyData.canLayAll0 xs = true → PyData.canLayAll0 ys = true → PyData.depthAll xs ≤ 10 →
    topCmp xs ys = true → (i = 0 → ∀ x y xr yr, xs = x :: xr → ys = y :: yr → (∃ w, x = .str w) ∧ ∃ w, y = .str w) → ∃ r, PySem.W.KatLex prog w A b fin (fun r' s' => s' = s ∧ r' = r) (vs.zip us) i s
  | [], ys, vs, us, as, bs, i, h1, h2, _, _, _, _, _ => by
    cases h1
    exact ⟨fin, PySem.W.kat_nil ⟨rfl, rfl⟩⟩
  | x :: xs, [], vs, us, as, bs, i, h1, h2, _, _, _, _, _ => by
    cases h2
    rw [List.zip_nil_right]
    exact ⟨fin, PySem.W.kat_nil ⟨rfl, rfl⟩⟩
  | x :: xs, y :: ys, vs, us, as, bs, i, h1, h2, c1, c2, d1, ht, h0 => by
    cases h1 with
    | @cons v vr _ _ as1 as2 p1 q1 =>
      cases h2 with
      | @cons u ur _ _ bs1 bs2 p2 q2 =>
        simp only [PyData.canLayAll0, Bool.and_eq_true] at c1 c2
        simp only [PyData.depthAll] at d1
        have eq := SeqAt.eqAt_reads x y A s v u as1 bs1 p1 p2 c1.1 c2.1 (by have : min x.depth y.depth ≤ x.depth := Nat.min_le_left _ _; omega)
        unfold topCmp at ht
        cases ce : PyData.eqv x y with
        | true =>
          rw [ce, if_pos rfl] at ht
          obtain ⟨r, hr⟩ := lex_reads (b := b) fin hu xs ys vr ur as2 bs2 (i + 1) q1 q2 c1.2 c2.2 (by omega) ht (fun z => by omega)
          rw [ce] at eq
          exact ⟨r, PySem.W.kat_cons (eq prog w _ _ (PySem.W.kat_yes hr))⟩
        | false =>
          rw [ce, if_neg (by decide)] at ht
          rw [ce] at eq
          cases cb : (b && i == 0) with
          | true =>
            have hi : i = 0 := by
              have := (Bool.and_eq_true_iff.mp cb).2
              simpa using this
            obtain ⟨⟨w1, e1⟩, ⟨w2, e2⟩⟩ := h0 hi x y xs ys rfl rfl
            subst e1 e2
            cases p1
            cases p2
            refine ⟨decide (w1.cps.toList < w2.cps.toList), PySem.W.kat_cons (eq prog w _ _ (PySem.W.kat_no ?_))⟩
            rw [cb]
            exact oneLt_str ⟨rfl, rfl⟩
          | false =>
            obtain ⟨k, hk⟩ := lt_reads (A := A) p1 p2 (by omega) ht
            refine ⟨k, PySem.W.kat_cons (eq prog w _ _ (PySem.W.kat_no ?_))⟩
            rw [cb]
            exact PySem.W.kat_one _ _ (hk prog w _ _ ⟨rfl, rfl⟩)
mutual
theorem reads_keep {h h' : Heap} (k : ∀ b o, h.get? b = some o → o.cls = .type "tuple" → h'.get? b = some o) : ∀ (d : PyData) {v : Value} {as : List Addr}, noL d = true → Reads h v d as → Reads h' v d as
  | .none, _, _, _, r => by cases r; exact .none
  | .bool b, _, _, _, r => by cases r; exact .bool b
  | .int i, _, _, _, r => by cases r; exact .int i _
  | .str x, _, _, _, r => by cases r; exact .str x _
  | .list _, _, _, n, _ => by simp [noL] at n
  | .dict _, _, _, n, _ => by simp [noL] at n
  | .tuple ds, _, _, n, r => by
    cases r with
    | tuple g1 g2 g3 g4 => exact .tuple (k _ _ g1 g2) g2 g3 (reads_keeps k ds (by simpa [noL] using n) g4)
theorem reads_keeps {h h' : Heap} (k : ∀ b o, h.get? b = some o → o.cls = .type "tuple" → h'.get? b = some o) : ∀ (ds : List PyData) {vs : List Value} {as : List Addr}, noLs ds = true → ReadsAll h vs ds as → ReadsAll h' vs ds as
  | [], _, _, _, r => by cases r; exact .nil
  | d :: ds, _, _, n, r => by
    cases r with
    | cons r1 rr =>
      have n' : noL d = true ∧ noLs ds = true := by simpa [noLs] using n
      exact .cons (reads_keep k d n'.1 r1) (reads_keeps k ds n'.2 rr)
end
/-- what is sorted -/
structure Sd (d : PyData) : Prop where
  ex : ∃ w rest, d = .tuple (.str w :: rest)
  lay : d.canLay0 = true
  dep : d.depth ≤ 10
  nol : noL d = true
def itemsD' : PyData → List PyData
  | .tuple ds => ds
  | _ => []
/-- every two of them compare -/
def Cmps (ds : List PyData) : Prop := ∀ d ∈ ds, ∀ e ∈ ds, topCmp (itemsD' d) (itemsD' e) = true
theorem tot_reads {A : Around} {s : Shared} {b : Bool} {vs : List Value} (hu : A.units + 20 < cLine) (P : PyData → Prop) (hP : ∀ d, P d → Sd d) (hc : ∀ d e, P d → P e → topCmp (itemsD' d) (itemsD' e) = true)
    (hv : ∀ v ∈ vs, ∃ d as, P d ∧ Reads s.heap v d as) : Srt.Tot prog w A s (tuples' b) (fun p => p.1 ∈ vs) := by
  intro p q hm hm'
  obtain ⟨d, as, pd, r1⟩ := hv _ hm
  obtain ⟨e, bs, pe, r2⟩ := hv _ hm'
  have s1 := hP d pd
  have s2 := hP e pe
  have c := hc d e pd pe
  obtain ⟨w1, t1, e1⟩ := s1.ex
  obtain ⟨w2, t2, e2⟩ := s2.ex
  have l1 := s1.lay
  have l2 := s2.lay
  have dp := s1.dep
  subst e1 e2
  generalize p.1 = v at *
  generalize q.1 = u at *
  cases r1 with
  | tuple g1 g2 g3 g4 =>
    cases r2 with
    | tuple k1 k2 k3 k4 =>
      simp only [PyData.canLay0] at l1 l2
      simp only [PyData.depth] at dp
      obtain ⟨r, hr⟩ := lex_reads (prog := prog) (w := w) (b := b) _ hu _ _ _ _ _ _ 0 g4 k4 l1 l2 (by omega) c (fun _ x y xr yr ex ey => by
        cases ex
        cases ey
        exact ⟨⟨_, rfl⟩, ⟨_, rfl⟩⟩)
      exact ⟨r, PySem.W.kat_lt g1 g3 k1 k3 hr⟩
theorem firsts_reads {h : Heap} {P : PyData → Prop} (hP : ∀ d, P d → Sd d) : ∀ {vs : List Value}, (∀ v ∈ vs, ∃ d as, P d ∧ Reads h v d as) → ∃ fs : List Value, PySem.W.KatTups h vs fs ∧ fs.length = vs.length ∧ ∀ f ∈ fs, ∃ x t, f = Value.str x t
  | [], _ => ⟨[], PySem.W.KatTups.nil, rfl, fun _ hm => by simp at hm⟩
  | v :: vs, hp => by
    obtain ⟨fs, h1, h2, h3⟩ := firsts_reads hP (vs := vs) fun v' hm => hp v' (List.mem_cons_of_mem _ hm)
    obtain ⟨d, as, pd, r⟩ := hp v List.mem_cons_self
    obtain ⟨w1, t1, e1⟩ := (hP d pd).ex
    subst e1
    cases r with
    | @tuple a o xs n _ _ g1 g2 g3 g4 =>
      obtain ⟨t, rest, e⟩ : ∃ t rest, xs.toList = Value.str w1 t :: rest := by
        generalize xs.toList = l at g4
        cases g4 with
        | cons p1 q1 =>
          cases p1
          exact ⟨_, _, rfl⟩
      have hf : xs[0]? = some (Value.str w1 t) := by rw [← Array.getElem?_toList, e]; rfl
      refine ⟨.str w1 t :: fs, PySem.W.KatTups.cons g1 g2 g3 hf h1, by rw [List.length_cons, List.length_cons, h2], fun f hm => ?_⟩
      rcases List.mem_cons.mp hm with rfl | hm
      · exact ⟨w1, t, rfl⟩
      · exact h3 f hm
theorem sortable_reads {A : Around} {s : Shared} {a : Addr} {vs : List Value} (hu : A.units + 20 < cLine) (h0 : 0 < vs.length) (P : PyData → Prop) (hP : ∀ d, P d → Sd d) (hc : ∀ d e, P d → P e → topCmp (itemsD' d) (itemsD' e) = true)
    (hv : ∀ v ∈ vs, ∃ d as, P d ∧ Reads s.heap v d as) (ha : ∀ o, s.heap.get? a = some o → o.cls ≠ .type "tuple") : Srt.Sortable prog w A s a vs := by
  intro h' keep
  have hv' : ∀ v ∈ vs, ∃ d as, P d ∧ Reads h' v d as := fun v hm => by
    obtain ⟨d, as, pd, r⟩ := hv v hm
    exact ⟨d, as, pd, reads_keep (fun b o e c => keep b o (fun z => by subst z; exact ha o e c) e) d (hP d pd).nol r⟩
  obtain ⟨fs, h1, h2, h3⟩ := firsts_reads hP hv'
  refine ⟨tuples' true, fun Q E hq => ?_, tot_reads (s := { s with heap := h' }) hu P hP hc hv'⟩
  refine PySem.W.kat_kind (T := .type "str") h1 (by omega) (fun f hm => ?_) (by rfl) ?_
  · obtain ⟨x, t, rfl⟩ := h3 f hm
    exact PySem.W.Looks.now
  · have e : (Value.type "str" != Value.type "tuple") = true := by first | decide +kernel | rfl | decide
    rw [e]
    exact hq
end
theorem vals_perm {out its : List Value} (h : out.Perm its) : ∀ {xs : List V}, Vals xs its → ∃ ys, Vals ys out ∧ ys.Perm xs := by
  induction h with
  | nil =>
    intro xs r
    cases r
    exact ⟨[], .nil, List.Perm.refl _⟩
  | cons u _ ih =>
    intro xs r
    cases r with
    | cons r1 rr =>
      obtain ⟨ys, r2, p⟩ := ih rr
      exact ⟨_ :: ys, .cons r1 r2, p.cons _⟩
  | swap u v l =>
    intro xs r
    cases r with
    | cons r1 rr =>
      cases rr with
      | cons r2 rr => exact ⟨_, .cons r2 (.cons r1 rr), List.Perm.swap _ _ _⟩
  | trans _ _ ih1 ih2 =>
    intro xs r
    obtain ⟨ys, r2, p2⟩ := ih2 r
    obtain ⟨zs, r3, p3⟩ := ih1 r2
    exact ⟨zs, r3, p3.trans p2⟩
theorem reads_mem {h : Heap} : ∀ {vs : List Value} {ds : List PyData} {as : List Addr}, ReadsAll h vs ds as → ∀ v ∈ vs, ∃ d as, d ∈ ds ∧ Reads h v d as
  | _, _, _, .nil, v, hv => by cases hv
  | _, _, _, .cons r1 rr, v, hv => by
    rcases List.mem_cons.mp hv with rfl | hv
    · exact ⟨_, _, List.mem_cons_self, r1⟩
    · obtain ⟨d, as, h1, h2⟩ := reads_mem rr v hv
      exact ⟨d, as, List.mem_cons_of_mem _ h1, h2⟩
/-- sorted(l), l a list of tuples of words, numbers and small tuples: the same in some order -/
def rSortD (K : PySem.W.Frag) : List V → Hp → VK → Prop := fun vs H Q => ∃ (a : Addr) (xs : List V) (ds : List PyData), vs = [.ref a] ∧ SqL K H a xs ∧ DpAll K H xs ds ∧ (∀ d ∈ ds, Sd d) ∧ Cmps ds ∧
  ∀ (ys : List V) (p : Addr), ys.Perm xs → H p = none → Q (.ref p) (L2.upd H p (.lst ys))
theorem cr_sortD {X : Cx} (hu : X.A.units + 60 < cLine) : CallR X (.builtin "sorted") (rSortD X.K) := by
  intro pins s σ H vs us Q I r h
  obtain ⟨a, xs, ds, rfl, hs, hd, hS, hC, q⟩ := h
  obtain ⟨its, rv, hl, hz⟩ := I.list hs
  rw [Vals.ref1 r]
  have lx : its.length = xs.length := rv.length.symm
  obtain ⟨as, ra⟩ := Dp.readsAll I ds xs its hd rv
  refine Srt.sorted_any hl.isList (by rw [lx]; exact hz) (fun h2 h1 a' ha' k => ?_) fun out ho => ?_
  · refine sortable_reads (s := { s with heap := h1 }) (by show X.A.units + 1 + 1 + 20 < cLine; omega) (by omega) (fun d => d ∈ ds) hS (fun d e hd he => hC d hd e he) (fun v hv => ?_) fun o e => ?_
    · obtain ⟨d, as, hd1, r1⟩ := reads_mem ra v hv
      exact ⟨d, as, hd1, reads_keep (fun b o e _ => (k b o e).2) d (hS d hd1).nol r1⟩
    · have e' : some o = some (seqObj "list" its.toArray 0) := e.symm.trans ha'
      cases e'
      intro c
      exact absurd (Value.type.inj c) (by decide)
  · obtain ⟨ys, ry, py⟩ := vals_perm ho rv
    obtain ⟨ep, he'⟩ := PyProof.Rows.sortedAll_at s.heap its out.toArray
    have hlen : ys.length ≤ sizeLine := by rw [py.length_eq]; exact hz
    exact ⟨.ref _, L2.upd H (s.heap.objs.size + 1) (.lst ys), I.laid (t' := s.toks) (fun _ _ => PyProof.Rows.sortedAll_old) (Nat.le_succ _) ⟨hlen, out, ep, ry, he'⟩, rfl, q ys _ py (I.hok.fresh (Nat.le_succ _))⟩
end Kw




set_option Elab.async false
set_option linter.all false
set_option maxRecDepth 100000
set_option maxHeartbeats 4000000
/-! o(..), o an instance of a class with an own __call__. -/
namespace Kw
open PySem PySem.Spec PySem.Calls PyProof.Rows L2
section
variable {M : Model} {A : Around} {E : Value → Shared → Prop} {s : Shared} {pos : Pos} {x : Addr} {fs : List Value} {Q : Value → Shared → Prop}
end
section
variable {X : Cx} {CX : CXT} {C f : Addr} {fd : FuncData} {k : Nat} {ps : List Str} {sp : Sp} {E : XK} {x : Str} {p pos : Pos} {e : Expr} {es : List Expr} {to : TE} {t : TA}
end
end Kw




set_option Elab.async false
set_option linter.all false
set_option maxRecDepth 100000
set_option maxHeartbeats 4000000
namespace Kw
open PySem PySem.Spec PyProof.Rows L2
/-! ### defs of which what is raised has no context; an error class made where an exception is handled -/
/-- the context of the body, where an exception is handled -/
def supCxH (CX : CXT) (P : Program) (w : World) (K : PySem.W.Frag) (mg : Str → Option Value) (base : Heap) (N : List Str) (qual : Str) (scope : Scope) (f : Addr) (cd : Value) (cc : Addr) (A : Around) (outer : List Env) (s : Shared) (H : Hp) (E : XK) (p : Addr × Obj) : Cx where
  prog := P
  w := w
  K := K
  mg := mg
  base := base
  A := A.deeper (sEnv qual scope s.heap.objs.size f cd cc)
  N := N
  s_0 := s
  H_0 := H
  env := sEnv qual scope s.heap.objs.size f cd cc
  outer := outer
  stack := sEnv qual scope s.heap.objs.size f cd cc :: outer
  ex := []
  calm := false
  fn := fun _ => false
  pn := [p]
  xe := fun e s' => wpAny (model P w) (A.deeper (sEnv qual scope s.heap.objs.size f cd cc)) (leaving (sEnv qual scope s.heap.objs.size f cd cc) e) (fun _ s'' => CX outer H s E e s'') (fun e' s'' => CX outer H s E e' s'') s'

section
variable {CX : CXT} {P : Program} {w : World} {K : PySem.W.Frag} {mg : Str → Option Value} {base : Heap} {N : List Str} {qual : Str} {scope : Scope} {f cc : Addr} {cd : Value} {A : Around} {outer : List Env} {s : Shared} {H : Hp} {E : XK}
theorem sup_startH {us : List Value} {vs : List V} {h1 : Heap} {tk : Nat} {D : Addr} {ccl : Value} {ccd : Option Addr} {ccs : Array (Option Value)} (S : SupScope N scope) {p : Addr × Obj} (hpin : L2H.PinOk outer H s p) (e0 : Env0 P w K mg base A outer s H) (hl : vs.length = N.length) (r : Vals vs us)
    (hcell : K.lookup cc = some ⟨ccl, ccd, .cell (some (.ref D)), ccs⟩)
    (hns : h1.Ns s.heap.objs.size (fun x => (N.zip us).reverse.lookup x)) (hk : ∀ b o, s.heap.get? b = some o → h1.get? b = some o) :
    Inv (supCxH CX P w K mg base N qual scope f cd cc A outer s H E p) [] (vs.map some) H { s with heap := h1, toks := tk } := by
  have noA : ∀ b : Addr, b ∉ (supCxH CX P w K mg base N qual scope f cd cc A outer s H E p).ex := fun b z => absurd (show b ∈ ([] : List Addr) from z) (by simp)
  have KX := e0.mod.kin
  have hcb := KX _ _ hcell
  have cells : ∀ {y c}, (supCxH CX P w K mg base N qual scope f cd cc A outer s H E p).env.cells.lookup y = some c → y = ("__class__" : Str) ∧ c = cc := fun {y c} h => by
    have h' : List.lookup y [(("__class__" : Str), cc)] = some c := h
    by_cases e : y = ("__class__" : Str)
    · subst e
      have q : List.lookup ("__class__" : Str) [(("__class__" : Str), cc)] = some cc := by simp [List.lookup]
      rw [q] at h'
      exact ⟨rfl, (Option.some.inj h').symm⟩
    · have q : (y == ("__class__" : Str)) = false := by simpa using e
      simp [List.lookup, q] at h'
  refine ⟨⟨e0.mod, S.kind, rfl, rfl, Nat.le_refl _, fun y z c h1 h2 => (cells h1).1.trans (cells h2).1.symm, fun y hy => ?_, fun y c h _ => Bool.noConfusion (show false = true from h), (fun z => Bool.noConfusion (show false = true from z)), Around.frames_deeper e0.frames, .inr ⟨rfl, rfl⟩, fun b z => absurd z (noA b), e0.bs, e0.bsz, fun b _ _ => noA b, fun b z => absurd z (noA b), e0.funs, e0.frf⟩,
    rfl, e0.bare, Un.kept hk, ⟨_, hns, fun i y v h1 h2 h3 => ?_⟩, fun y c h => ?_, e0.hok.fresh (Nat.le_refl _), fun y c h => ?_, fun q hq => ?_, e0.hok.kept hk, ?_⟩
  · have hy : scope.names.lookup y = some .cell ∨ scope.names.lookup y = some .free := hy
    rcases hy with hy | hy
    · exact absurd rfl (S.nocell _ (PySem.mem_of_lookup hy))
    · have e := S.onlyFree y hy
      subst e
      exact ⟨cc, by show List.lookup ("__class__" : Str) [(("__class__" : Str), cc)] = some cc; simp [List.lookup]⟩
  · rw [List.getElem?_map] at h2
    cases e : vs[i]? with
    | none =>
      rw [e] at h2
      cases h2
    | some a =>
      rw [e] at h2
      cases h2
      obtain ⟨u, hu, rv⟩ := r.get e
      have hp : N[i]? = some y := h1
      refine ⟨u, rv, .inl ⟨S.par y (List.mem_of_getElem? hp), ?_⟩⟩
      have hlen := r.length
      -- the place of y in the reversed bindings
      have key : ∀ (N : List Str) (us : List Value) (i : Nat), N.Nodup → N[i]? = some y → us[i]? = some u → (N.zip us).reverse.lookup y = some u := by
        intro N
        induction N with
        | nil => intro us i _ h; simp at h
        | cons n N ih =>
          intro us i nd h1 h2
          cases us with
          | nil => simp at h2
          | cons u0 us =>
            rw [List.zip_cons_cons, List.reverse_cons]
            cases i with
            | zero =>
              simp at h1 h2
              subst h1 h2
              have hn : (N.zip us).reverse.lookup n = none := by
                have hnn := (List.nodup_cons.mp nd).1
                cases q : (N.zip us).reverse.lookup n with
                | none => rfl
                | some z =>
                  have hm := PySem.mem_of_lookup q
                  exact absurd (List.of_mem_zip (List.mem_reverse.mp hm)).1 hnn
              rw [List.lookup_append, hn]
              simp [List.lookup]
            | succ i =>
              have q := ih us i (List.nodup_cons.mp nd).2 (by simpa using h1) (by simpa using h2)
              rw [List.lookup_append, q]
              rfl
      exact key N us i S.nd hp hu
  · obtain ⟨_, rfl⟩ := cells h
    exact ⟨_, _, hk _ _ (e0.bs _ _ hcb).1, rfl⟩
  · obtain ⟨_, rfl⟩ := cells h
    exact (e0.bs _ _ hcb).2
  · have eq : q = p := by simpa using (show q ∈ [p] ++ ([] : List (Addr × Obj)) from hq)
    rw [eq]
    exact ⟨hk p.1 p.2 hpin.get, hpin.free, Nat.ne_of_lt (Heap.lt_size hpin.get), hpin.nofs, hpin.nocell⟩
  · show (vs.map some).length = N.length
    rw [List.length_map, hl]
end

section
variable {CX : CXT} {P : Program} {w : World} {K : PySem.W.Frag} {mg : Str → Option Value} {base : Heap} {k : Nat} {N : List Str} {name qual : Str} {scope : Scope} {params : Arguments} {f cc cda C : Addr} {ar : Arg} {vsC : Array Value} {fileS : Str} {tf : Tok}
  {dV kV doc pm ct oc ccl cl : Value} {an od cdd cld : Option Addr} {osl ccs csl : Array (Option Value)} {e : Expr} {rest : List Stmt} {p0 p1 p2 p3 p4 : Pos} {sp : Sp} {pl : Addr → Sem Bool}
theorem fn_superH (T : SupC P K mg C)
    (lk : K.lookup f = some ⟨oc, od, .func (PySem.W.ksFn name qual params (.Expr (supCall e p0 p1 p2 p3) p4 :: rest) scope dV kV doc pm an (.ref cda) ct cc), osl⟩) (hcd : PySem.W.codeIn K (.ref cda) qual = true)
    (hp : (params.posonlyargs ++ params.args).head? = some ar) (hself : N[0]? = some ar.arg)
    (hcode : K.lookup cda = some ⟨ccl, cdd, .fields vsC, ccs⟩) (hvs : vsC[2]? = some (.str fileS tf)) (hfile : ((P.main.file : Str) == fileS) = true)
    (hcell : K.lookup cc = some ⟨cl, cld, .cell (some (.ref C)), csl⟩)
    (S : SupScope N scope) (len : ∀ vs H Q E, sp vs H Q E → vs.length = N.length)
    (hsw : ∀ L, swapsWith (supCall e p0 p1 p2 p3) none p4.line (sEnv qual scope L f (.ref cda) cc) = pure false)
    (hev : ∀ L, eval (supCall e p0 p1 p2 p3) (sEnv qual scope L f (.ref cda) cc) = (do
      let ov ← attributeBase (.Call (.Name "super" p0) [] [] p1) "__init__" (sEnv qual scope L f (.ref cda) cc) (eval (.Call (.Name "super" p0) [] [] p1) (sEnv qual scope L f (.ref cda) cc))
      standAt p2.atName
      let (g, first) ← holding [ov] (getMethod ov "__init__" (pl L))
      callWith p3 g first (backTo p3 (starEach [e] (sEnv qual scope L f (.ref cda) cc))) []))
    (hst : ∀ L, starEach [e] (sEnv qual scope L f (.ref cda) cc) = [(false, eval e (sEnv qual scope L f (.ref cda) cc))])
    (hbody : ∀ (A : Around) (outer : List Env) (s : Shared) (H : Hp) (vs : List V) (Q : VK) (E : XK) (p : Addr × Obj), L2H.Hot1 A p → L2H.RoomH k (A.deeper (sEnv qual scope s.heap.objs.size f (.ref cda) cc)) → sp vs H Q E →
      ∃ te t, PE (supCxH CX P w K mg base N qual scope f (.ref cda) cc A outer s H E p) e te ∧ PSs (supCxH CX P w K mg base N qual scope f (.ref cda) cc A outer s H E p) rest t ∧
        (∃ a, vs[0]? = some (V.ref a) ∧ H a = some (exo a C none)) ∧ tSup C te t { nx := fun _ H' => Q .non H', rt := Q } (vs.map some) H) :
    L2H.FnH P w K mg base CX (k + 1) f (PySem.W.ksFn name qual params (.Expr (supCall e p0 p1 p2 p3) p4 :: rest) scope dV kV doc pm an (.ref cda) ct cc) N sp := by
  refine ⟨len, fun A outer s H args us vs Q E p hr hot hpin e0 hb r hsp => ?_⟩
  have hl := len _ _ _ _ hsp
  have KX : K.In s.heap := e0.mod.kin.keeps fun b o e => (e0.bs b o e).1
  have lim : s.heap.NoLimit := e0.mod.nolimit.keeps fun b o e => (e0.bs b o e).1
  refine PySem.ks_codeAny_call_defAt (binds := N.zip us) hr.depth (KX _ _ lk) rfl lim (PySem.W.codeRec_of KX hcd) rfl hb S.nocell (fun y hy => S.par y.1 (List.of_mem_zip hy).1) (fun h1 hns hk => ?_) S.co S.gen S.kind
  obtain ⟨te, t, pe, pss, ⟨a, hva, hHa⟩, hq⟩ := hbody A outer s H vs Q E p hot (hr.deeper _) hsp
  have I : L2.Inv (supCxH CX P w K mg base N qual scope f (.ref cda) cc A outer s H E p) [] (vs.map some) H { s with heap := h1, toks := s.toks + (N.zip us).length } := sup_startH S hpin e0 hl r hcell hns hk
  have fin : ∀ {σ' : L2.St} {H' : Hp} {v : V} {u : Value} {s' : Shared}, L2.Inv (supCxH CX P w K mg base N qual scope f (.ref cda) cc A outer s H E p) [] σ' H' s' → RelV v u → Q v H' → CE outer P w H s Q u s' :=
    fun {σ' H' v u s'} J rv q => ⟨v, H', J.os, J.bare, J.base, J.hok, rv, q⟩
  show PySem.wpAt _ _ _ (execs _ (sEnv qual scope s.heap.objs.size f (.ref cda) cc)) _ _ _
  refine PySem.ks_wpAt_execs_cons (PySem.ks_wpAt_Expr_any (PySem.ks_wpAt_MethodCall (pl := pl s.heap.objs.size) ?_ (hev _)) I.quiet (hsw _))
  obtain ⟨nm, q, N', bs, bm, sn, sub, ab, col, dd, k0, k1, k2, k3, k5, hC, hbm, hal⟩ := T.along
  have KX1 : K.In h1 := KX.keeps hk
  have hcl : PySem.W.clsIn K C = some { name := nm, bases := bs, mro := .ref C :: bm, ns := N', qualname := q, hasDict := true, slotNames := sn, subclasses := sub, abstract := ab, collection := col, hasDel := false } := by unfold PySem.W.clsIn; rw [hC] <;> rfl
  have e0' : (vs.map some)[0]? = some (some (V.ref a)) := by rw [List.getElem?_map, hva]; rfl
  -- self, a
  obtain ⟨m, hnm, hlm⟩ := id I.loc
  obtain ⟨uS, ruS, lkS⟩ := hlm 0 ar.arg (V.ref a) hself e0' (.inl (S.par _ (List.mem_of_getElem? hself)))
  obtain rfl : uS = Value.ref a := ruS
  have hma : m ar.arg = some (.ref a) := by
    rcases lkS with ⟨_, z⟩ | ⟨z, _⟩
    · exact z
    · have z' : scope.names.lookup ar.arg = some .cell ∨ scope.names.lookup ar.arg = some .free := z
      rw [S.par _ (List.mem_of_getElem? hself)] at z'
      rcases z' with z' | z' <;> cases z'
  obtain ⟨t1, ho⟩ := exo_at I.hok hHa
  obtain ⟨mb, hmb, hmb2⟩ := I.mod.blt
  refine PySem.ks_wpAt_super_base (env := sEnv qual scope s.heap.objs.size f (.ref cda) cc) S.sup S.cls (by decide) rfl (KX1 _ _ lk) rfl hp rfl (KX1 _ _ hcode) rfl hvs hfile T.htop ?_
  refine PySem.W.ks_loadName_global S.kind S.sup (Calls.loadGlobal_builtin (env := sEnv qual scope s.heap.objs.size f (.ref cda) cc) (I.mod.glob.keeps I.bk) T.sup (hmb.keeps I.bk) ((hmb2 _ (by decide +kernel)).trans boot_super) ⟨rfl, ?_⟩)
  refine wpAny_loadName_free S.kind S.cls rfl ⟨_, KX1 _ _ hcell, rfl⟩ ?_
  refine wpAny_loadName_local S.kind (S.par _ (List.mem_of_getElem? hself)) hnm hma ?_
  obtain ⟨oD, hD1, hD2⟩ : ∃ oD, h1.get? C = some oD ∧ oD.data = .cls { name := nm, bases := bs, mro := .ref C :: bm, ns := N', qualname := q, hasDict := true, slotNames := sn, subclasses := sub, abstract := ab, collection := col, hasDel := false } := ⟨_, KX1 _ _ hC, rfl⟩
  refine PySem.ks_wpAny_isType_cls hD1 hD2 ⟨rfl, ?_⟩
  refine PySem.ks_wpAny_call_super hD1 hD2 ho rfl (fun c e => nomatch e) (PySem.W.looks_mroIn KX1 T.self) (fun h2 eso kk => ?_)
  -- the super object stands; its method
  have I2 := I.kept (t' := s.toks + (N.zip us).length) kk
  have KX2 : K.In h2 := KX1.keeps kk
  have ho2 := kk _ _ ho
  have It : PySem.W.InstAt h2 a { cls := .ref C, dict := none, data := .fields #[.ref t1, .none, .none, .none, .bool false, .none] } C none := ⟨ho2, rfl, rfl, trivial⟩
  refine PySem.W.kxs_getMethod PySem.W.kxs_ValueError eso (PySem.W.looks_opaque KX2 T.tp) (l₀ := .ref C :: bm) (fun A Q E s k q => wpAny_bind ((PySem.W.looks_clsIn KX2 hcl) A _ E s k (wpAny_pure q))) rfl KX2 hal (It.type.andThen (PySem.W.looks_subIn KX2 T.isVE)) (PySem.W.ks_ne KX2 It hcl) (by decide) ?_
  have I3 := I2.kept (t' := s.toks + (N.zip us).length + 1) (h' := h2.push (PySem.W.kxs_mw "ValueError.__init__" a)) fun b o e => Heap.get?_push_of_some _ e
  have hu : (h2.push (PySem.W.kxs_mw "ValueError.__init__" a)).get? h2.objs.size = some (PySem.W.kxs_mw "ValueError.__init__" a) := Heap.get?_push_at rfl rfl
  have I4 := I3.pins_of (pins' := [(h2.objs.size, PySem.W.kxs_mw "ValueError.__init__" a)]) (fun p hp => by
    obtain rfl := List.mem_singleton.mp hp
    exact ⟨hu, I2.hok.fresh (Nat.le_refl _), Nat.ne_of_gt I2.lt, I2.nofs (Nat.le_refl _), fun v z => nomatch z⟩)
  show wpAny _ _ (callWith p3 (.ref h2.objs.size) [] (backTo p3 (starEach [e] (sEnv qual scope s.heap.objs.size f (.ref cda) cc))) []) _ _ _
  have pa : PA (supCxH CX P w K mg base N qual scope f (.ref cda) cc A outer s H E p) [e] (tCons te tNil) := pa_cons pe pa_nil (hst _)
  have ru := pa.run p3 _ _ (vs.map some) H (fun ws H1 => match ws with | [v] => (∃ z, v = .str z) ∧ ∃ a, (vs.map some)[0]? = some (some (.ref a)) ∧ H1 a = some (exo a C none) ∧ t { nx := fun _ H' => Q .non H', rt := Q } (vs.map some) H1 | _ => False) I4 hq
  have ehs : starEach [e] (supCxH CX P w K mg base N qual scope f (.ref cda) cc A outer s H E p).env = [(false, eval e (sEnv qual scope s.heap.objs.size f (.ref cda) cc))] := hst _
  rw [ehs] at ru
  rw [hst]
  refine PySem.W.kxs_callWith (i := "ValueError.__init__") (x := a) rfl (Calls.evalArgs_plain (thn ru fun ws s5 hw => ?_))
  obtain ⟨vs5, H5, I5, r5, q5⟩ := hw
  have hu5 : s5.heap.get? h2.objs.size = some (PySem.W.kxs_mw "ValueError.__init__" a) := (I5.pin (h2.objs.size, PySem.W.kxs_mw "ValueError.__init__" a) (List.mem_append.mpr (.inr (List.mem_singleton.mpr rfl)))).1
  refine ⟨hu5, ?_⟩
  cases r5 with
  | nil => exact q5.elim
  | @cons v5 u5 vr ur rv rr =>
    cases rr with
    | cons _ _ => exact q5.elim
    | nil =>
      obtain ⟨_, a', ea', hH5, q5⟩ := q5
      have ea : a' = a := by
        have z := ea'.symm.trans e0'
        cases z
        rfl
      subst ea
      refine bw_ok (X := supCxH CX P w K mg base N qual scope f (.ref cda) cc A outer s H E p) T.oex I5 hH5 hu5 (by show 1 ≤ sizeLine; rw [sizeLine_eq]; decide) fun s6 I6 => ?_
      have I7 : L2.Inv (supCxH CX P w K mg base N qual scope f (.ref cda) cc A outer s H E p) [] (vs.map some) H5 s6 := I6.unpinned (pins := []) (pl := [(h2.objs.size, PySem.W.kxs_mw "ValueError.__init__" a')])
      show PySem.wpAt _ _ _ (execs rest _) _ _ _
      refine PySem.wpAt_of_wpAny (wpAny_mono (pss.run [] s6 (vs.map some) H5 _ I7 q5) (fun fl s' hs => ?_) fun _ _ x => x)
      cases fl with
      | ret u =>
        obtain ⟨v, σ', H', J, rv, q⟩ := hs
        exact fin J rv q
      | next =>
        obtain ⟨σ', H', J, q⟩ := hs
        exact fin (v := V.non) (u := Value.none) J rfl q
      | brk =>
        obtain ⟨_, _, _, q⟩ := hs
        exact False.elim q
      | cont =>
        obtain ⟨_, _, _, q⟩ := hs
        exact False.elim q
end
section
variable {X : Cx} {pos p : Pos} {e : Expr} {es : List Expr} {ta : TA}
end
theorem okN {P : Program} {w : World} {K : PySem.W.Frag} {mg : Str → Option Value} {base : Heap} {x qual : Str} {st : Stmt} {f : Addr} {fd : FuncData} {N ps : List Str} {k : Nat} {sp : Sp} (F : Fun K x qual st f fd) (S : FnScope N ps (defScope st)) (len : ∀ vs H Q E, sp vs H Q E → vs.length = ps.length)
    (hbody : ∀ (cdv : Value) (A : Around) (outer : List Env) (s : Shared) (H : Hp) (vs : List V) (Q : VK) (E : XK), Room k (A.deeper (envOfC qual (defScope st) s.heap.objs.size f cdv)) → sp vs H Q E →
      ∃ t, PSs (cxOf (L2N.CX P w) P w K mg base N qual (defScope st) f cdv A outer s H E) (defBody st) t ∧ t { nx := fun _ H' => Q .non H', rt := Q } (L2.start N vs) H) : FnOk P w K mg base (L2N.CX P w) (k + 1) f fd ps sp := by
  obtain ⟨oc, od, kV, doc, pm, an, cdv, ct, osl, rfl, lk, hcd⟩ := F.ex
  exact fn_of lk hcd S len fun A outer s H vs Q E hr hsp => hbody cdv A outer s H vs Q E hr hsp
/-- X(e) -/
theorem pmk_own1N {X : Cx} {C : Addr} {bmB : List Value} {B newId initId : String} {x : Str} {e : Expr} {ta : TE} {p pos : Pos} (F : ExcBaseFacts B newId initId bmB) (q : PySem.W.excIn X.K C bmB newId = true) (gC : X.mg x = some (.ref C)) (kC : PySem.W.keepIn X.K (.ref C) = true) (r : Raises X (.ref C)) (hg : Gl X x)
    (he : PE X e ta) (hs : starEach [e] X.env = (false, eval e X.env) :: starEach [] X.env := by rfl) (hdb : (x == ("__debug__" : Str)) = false := by decide) :
    L2N.PMk X (.Call (.Name x p) [e] [] pos) (fun σ H Q => ta σ H fun _ H1 => Q (.ref C) none H1) := by
  intro pins s σ H Q I h
  refine wpAny_Call_Name_kw (ld_glob I hg gC ?_ hdb)
  refine PySem.W.callWith_K (h₀ := X.base) I.ok.mod.kin kC ?_ hs (by rfl)
  rw [hs]
  show wpAny _ _ (spliced ((false, eval e X.env) :: backTo pos (starEach [] X.env))) _ _ s
  refine Calls.spliced_cons (thn (he.run pins s σ H _ I h) fun u s1 ⟨v, H1, I1, r1, q1⟩ => ?_)
  refine Calls.spliced_nil ⟨I1.kIn, ?_⟩
  show wpAny _ _ (call (.ref C) [u]) _ _ _
  obtain ⟨bm, N, nm, qn, bs, hdct, sn, sub, ab, col, dd, k0, k1, k2, k3, k5, mN, hC, hN, hni, T⟩ := exc_obj I1.kIn q
  refine wpAny_call_exc_subT F T hC hN hni (fun h' e hm => ?_) (by show 1 ≤ sizeLine; rw [sizeLine_eq]; omega)
  exact L2N.mk_of I1 hm r q1 (I1.hok.gone hm.new)
/-- enumerate of a list or of a tuple -/
def iEnumE (K : PySem.W.Frag) (ta : TA) : TI := fun σ H R => ta σ H fun vs H1 => ∃ a xs, vs = [.ref a] ∧ ((SqT K H1 a xs ∧ R (Itet K a) H1) ∨ (SqL K H1 a xs ∧ R (Ite K a) H1))
theorem pi_enumE {X : Cx} {e : Expr} {ta : TA} {p pos tpos : Pos} {elts : List Expr} {kk : Nat} (hg : Gl X "enumerate") (hm : X.mg "enumerate" = none) (ha : PA X [e] ta) (hs : starEach [e] X.env = [(false, eval e X.env)] := by rfl) :
    PI X (.Tuple elts kk tpos) (.Call (.Name "enumerate" p) [e] [] pos) (iEnumE X.K ta) := by
  refine ⟨fun pins s σ H R I h => ?_⟩
  refine Call_ (ld_blt I hg hm boot_enumerate (PyProof.Rows.callWith_type1 (thn (ha.run pos pins s σ H _ I h) fun us s1 ⟨vs, H1, I1, r1, q1⟩ => ?_) hs rfl))
  obtain ⟨a, xs, ex, q1⟩ := q1
  subst ex
  cases r1 with
  | cons r rr =>
    cases rr
    cases r
    rcases q1 with ⟨hq, q⟩ | ⟨hq, q⟩
    · obtain ⟨its, rv, p', hz⟩ := I1.tuple hq
      refine call_enumerate_tuple p' fun h' he hit hsz hk => wpAny_pyIter_enum he ?_
      have I2 : L2.Inv X pins σ H1 { s1 with heap := h' } := I1.kept (t' := s1.toks) hk
      refine ⟨s1.heap.objs.size + 1, [s1.heap.objs.size + 1, s1.heap.objs.size], _, _, H1, rfl, I2, turn_enumT a (s1.heap.objs.size + 1) s1.heap.objs.size, ⟨⟨.none, he⟩, hit, Nat.succ_ne_self _⟩, fun b hb => ?_, q⟩
      have e' : b = s1.heap.objs.size + 1 ∨ b = s1.heap.objs.size := by simpa using hb
      have hle : s1.heap.objs.size ≤ b := by
        rcases e' with z | z
        · rw [z]; exact Nat.le_add_right _ _
        · rw [z]; exact Nat.le_refl _
      exact I1.fpOk hle (I1.hok.fresh hle)
    · obtain ⟨its, rv, p', hz⟩ := I1.list hq
      refine call_enumerate_list p'.isList fun h' he hit hsz hk => wpAny_pyIter_enum he ?_
      have I2 : L2.Inv X pins σ H1 { s1 with heap := h' } := I1.kept (t' := s1.toks) hk
      refine ⟨s1.heap.objs.size + 1, [s1.heap.objs.size + 1, s1.heap.objs.size], _, _, H1, rfl, I2, turn_enum a (s1.heap.objs.size + 1) s1.heap.objs.size, ⟨⟨.none, he⟩, hit, Nat.succ_ne_self _⟩, fun b hb => ?_, q⟩
      have e' : b = s1.heap.objs.size + 1 ∨ b = s1.heap.objs.size := by simpa using hb
      have hle : s1.heap.objs.size ≤ b := by
        rcases e' with z | z
        · rw [z]; exact Nat.le_add_right _ _
        · rw [z]; exact Nat.le_refl _
      exact I1.fpOk hle (I1.hok.fresh hle)
theorem for_enumL {K : PySem.W.Frag} {a : Addr} {xs : List V} {g : TG} {tb : TS} {D : Ends} {σ : L2.St} {H : Hp} (Pv : Nat → L2.St → Hp → Prop) (h0 : Pv 0 σ H) (hl : ∀ i σ H, i ≤ xs.length → Pv i σ H → SqL K H a xs)
    (hs : ∀ i x σ H T, xs[i]? = some x → Pv i σ H → H T = none → g (.ref T) σ (upd H T (.tup [.int (i : Nat), x])) fun σ2 H2 => tb { D with nx := Pv (i + 1), ct := Pv (i + 1), bk := D.nx } σ2 H2)
    (hd : ∀ σ H, Pv xs.length σ H → D.nx σ H) :
    ∃ W : Nat → Nat → L2.St → Hp → Prop, (∃ m, W 0 m σ H) ∧ ∀ i m σ H, W i m σ H →
      ((Ite K a).stop i H ∧ D.nx σ H) ∨ ((Ite K a).go i H ∧ ∃ N : L2.St → Hp → Prop, (∀ σ' H', N σ' H' → ∃ m', m' < m ∧ W (i + 1) m' σ' H') ∧ ∀ x H', (Ite K a).yld i H x H' → g x σ H' fun σ2 H2 => tb { D with nx := N, ct := N, bk := D.nx } σ2 H2) := by
  refine ⟨fun i m σ H => m = xs.length - i ∧ i ≤ xs.length ∧ Pv i σ H, ⟨xs.length, by simp, Nat.zero_le _, h0⟩, ?_⟩
  rintro i m σ H ⟨rfl, hi, p⟩
  have q := hl i σ H hi p
  by_cases hlt : i < xs.length
  · refine .inr ⟨⟨xs, xs[i], q, by simp [hlt]⟩, Pv (i + 1), fun σ' H' p' => ⟨xs.length - (i + 1), by omega, rfl, hlt, p'⟩, fun x H' y => ?_⟩
    obtain ⟨T, x', ev, hT, eH, hx⟩ := y
    subst ev eH
    exact hs i x' σ H T (hx xs q) p hT
  · have e : i = xs.length := by omega
    subst e
    exact .inl ⟨⟨xs, q, Nat.le_refl _⟩, hd σ H p⟩
end Kw



set_option Elab.async false
set_option linter.all false
set_option maxRecDepth 100000
set_option maxHeartbeats 4000000
namespace Kw
open PySem PySem.Spec PyProof.Rows L2
/-! ### states and items -/
inductive Kd where
  | box | thing | sl
  deriving DecidableEq
def Kd.str : Kd → Str
  | .box => "box"
  | .thing => "thing"
  | .sl => "seal"
def Kd.ix : Kd → Nat
  | .box => 0
  | .thing => 1
  | .sl => 2
def rowOf (d : Hs) : Kd → List Pl
  | .box => d.bs
  | .thing => d.ts
  | .sl => d.ss
def putRow (d : Hs) (k : Kd) (l : List Pl) : Hs := match k with
  | .box => { d with bs := l }
  | .thing => { d with ts := l }
  | .sl => { d with ss := l }
abbrev It := Kd × Nat
def itP (p : It) : PyData := .tuple [.str p.1.str, .int (p.2 : Nat)]
def whereD (d : Hs) (p : It) : Option Pl := (rowOf d p.1)[p.2]?
def setD (d : Hs) (p : It) (q : Pl) : Hs := putRow d p.1 ((rowOf d p.1).set p.2 q)
section
variable {P : Program} {w : World} {K : PySem.W.Frag} {mg : Str → Option Value} {base : Heap}
theorem st_at {H : Hp} {x : V} {d : Hs} (h : Dp K H x (stD d)) : ∃ a v1 v2 v3, x = .ref a ∧ SqT K H a [v1, v2, v3] ∧ Dp K H v1 (plsD d.bs) ∧ Dp K H v2 (plsD d.ts) ∧ Dp K H v3 (plsD d.ss) := by
  cases h with
  | tup hs ha =>
    cases ha with
    | cons d1 r =>
      cases r with
      | cons d2 r =>
        cases r with
        | cons d3 r =>
          cases r
          exact ⟨_, _, _, _, rfl, hs, d1, d2, d3⟩
theorem it_at {H : Hp} {x : V} {p : It} (h : Dp K H x (itP p)) : ∃ a, x = .ref a ∧ SqT K H a [.str p.1.str, .int (p.2 : Nat)] := by
  cases h with
  | tup hs ha =>
    cases ha with
    | cons d1 r =>
      cases r with
      | cons d2 r =>
        cases r
        cases d1
        cases d2
        exact ⟨_, rfl, hs⟩
theorem row_at {H : Hp} {v1 v2 v3 : V} {d : Hs} (h1 : Dp K H v1 (plsD d.bs)) (h2 : Dp K H v2 (plsD d.ts)) (h3 : Dp K H v3 (plsD d.ss)) (k : Kd) : ∃ v, atI [v1, v2, v3] (k.ix : Nat) = some v ∧ Dp K H v (plsD (rowOf d k)) := by
  cases k
  · exact ⟨v1, rfl, h1⟩
  · exact ⟨v2, rfl, h2⟩
  · exact ⟨v3, rfl, h3⟩
/-! ### _law_where -/
def spWhere (K : PySem.W.Frag) : Sp := fun vs H Q _ => ∃ (x y : V) (d : Hs) (p : It) (q : Pl), vs = [x, y] ∧ Dp K H x (stD d) ∧ Dp K H y (itP p) ∧ whereD d p = some q ∧ ∀ v H', Same H H' → Dp K H' v (plD q) → Q v H'
theorem nl_updL {H : Hp} {D : Addr} {xs ys : List V} (hD : H D = some (.lst xs)) : Nl H (L2.upd H D (.lst ys)) := fun a o h n _ => by
  rw [upd_ne (ne_of h hD (n _))]
  exact h
theorem DpAll.set {H : Hp} : ∀ {vs : List V} {ds : List PyData} {i : Nat} {x : V} {e : PyData}, DpAll K H vs ds → Dp K H x e → DpAll K H (vs.set i x) (ds.set i e)
  | _, _, _, _, _, .nil, _ => .nil
  | _, _, 0, _, _, .cons _ t, h => .cons h t
  | _, _, i + 1, _, _, .cons h0 t, h => .cons h0 (DpAll.set (i := i) t h)
/-! ### _law_set -/
end
end Kw




set_option Elab.async false
set_option linter.all false
set_option maxRecDepth 100000
set_option maxHeartbeats 4000000
namespace Kw
open PySem PySem.Spec PyProof.Rows L2
/-! ### deeds -/
inductive Dd where
  | give (h : Nat) (p : It) (o : Nat)
  | put (h : Nat) (p : It) (b : Nat)
  | take (h : Nat) (p : It) (b : Nat)
  | lock (h b s : Nat)
  | brk (h b : Nat)
def Dd.word : Dd → Str
  | .give .. => "give"
  | .put .. => "put"
  | .take .. => "take"
  | .lock .. => "seal"
  | .brk .. => "break"
def Dd.hand : Dd → Nat
  | .give h _ _ => h
  | .put h _ _ => h
  | .take h _ _ => h
  | .lock h _ _ => h
  | .brk h _ => h
def Dd.tail : Dd → List PyData
  | .give _ p o => [itP p, .int (o : Nat)]
  | .put _ p b => [itP p, .int (b : Nat)]
  | .take _ p b => [itP p, .int (b : Nat)]
  | .lock _ b s => [.int (b : Nat), .int (s : Nat)]
  | .brk _ b => [.int (b : Nat)]
def ddD (e : Dd) : PyData := .tuple (.str e.word :: .int (e.hand : Nat) :: e.tail)
/-- what the deed names is there -/
def Kn (d : Hs) : Dd → Prop
  | .give _ p _ => (whereD d p).isSome
  | .put _ p b => (whereD d p).isSome ∧ b < d.bs.length
  | .take _ p b => (whereD d p).isSome ∧ b < d.bs.length
  | .lock _ b s => b < d.bs.length ∧ s < d.ss.length
  | .brk _ b => b < d.bs.length
def barOf (d : Hs) : Dd → Str
  | .give h p _ => if whereD d p = some (.hand, (h : Int)) then "" else "NotHeld"
  | .put h p b => if whereD d (.box, b) = some (.hand, (h : Int)) then (if whereD d p = some (.hand, (h : Int)) then (if (.box, (b : Int)) ∈ d.ss then "IsSealed" else "") else "NotHeld") else "NotHeld"
  | .take h p b => if whereD d (.box, b) = some (.hand, (h : Int)) then (if (.box, (b : Int)) ∈ d.ss then "IsSealed" else if whereD d p = some (.box, (b : Int)) then "" else "NotInside") else "NotHeld"
  | .lock h b s => if whereD d (.box, b) = some (.hand, (h : Int)) then (if d.ss[s]? = some (.hand, (h : Int)) then (if (.box, (b : Int)) ∈ d.ss then "IsSealed" else "") else "NotHeld") else "NotHeld"
  | .brk h b => if whereD d (.box, b) = some (.hand, (h : Int)) then (if (.box, (b : Int)) ∈ d.ss then "" else "NotSealed") else "NotHeld"
section
variable {P : Program} {w : World} {K : PySem.W.Frag} {mg : Str → Option Value} {base : Heap}
theorem dd_at {H : Hp} {y : V} {e : Dd} (h : Dp K H y (ddD e)) : ∃ a vs, y = .ref a ∧ SqT K H a (.str e.word :: .int (e.hand : Nat) :: vs) ∧ DpAll K H vs e.tail := by
  cases h with
  | tup hs ha =>
    cases ha with
    | cons h1 r =>
      cases r with
      | cons h2 r =>
        cases h1
        cases h2
        exact ⟨_, _, rfl, hs, r⟩
theorem where_box {d : Hs} {b : Nat} (h : b < d.bs.length) : ∃ q, whereD d (.box, b) = some q := ⟨_, List.getElem?_eq_getElem h⟩
end
end Kw




set_option Elab.async false
set_option linter.all false
set_option maxRecDepth 100000
set_option maxHeartbeats 4000000
namespace Kw
open PySem PySem.Spec PyProof.Rows L2
/-! ### the state behind a deed -/
def onIx (d : Hs) (b : Nat) : Nat := (d.ss.findIdx? fun q => decide (q = (Wd.box, (b : Int)))).getD 0
def nextOf (d : Hs) : Dd → Hs
  | .give _ p o => setD d p (.hand, (o : Int))
  | .put _ p b => setD d p (.box, (b : Int))
  | .take h p _ => setD d p (.hand, (h : Int))
  | .lock _ b s => setD d (.sl, s) (.box, (b : Int))
  | .brk _ b => setD d (.sl, onIx d b) (.gone, 0)
section
variable {P : Program} {w : World} {K : PySem.W.Frag} {mg : Str → Option Value} {base : Heap}
theorem where_lt {d : Hs} {p : It} {q : Pl} (h : whereD d p = some q) : p.2 < (rowOf d p.1).length := (List.getElem?_eq_some_iff.mp h).1
theorem on_some {d : Hs} {b : Nat} (h : (Wd.box, (b : Int)) ∈ d.ss) : (∃ z, d.ss[onIx d b]? = some z ∧ z = (Wd.box, (b : Int))) ∧ ∀ (m : Nat) z, m < onIx d b → d.ss[m]? = some z → z ≠ (Wd.box, (b : Int)) := by
  unfold onIx
  cases e : d.ss.findIdx? fun q => decide (q = (Wd.box, (b : Int))) with
  | none =>
    have := List.findIdx?_eq_none_iff.mp e _ h
    simp at this
  | some i =>
    obtain ⟨hi, h1, h2⟩ := List.findIdx?_eq_some_iff_getElem.mp e
    refine ⟨⟨d.ss[i], List.getElem?_eq_getElem hi, of_decide_eq_true h1⟩, fun m z hm hz => ?_⟩
    obtain ⟨hm1, hm2⟩ := List.getElem?_eq_some_iff.mp hz
    have := h2 m hm
    rw [← hm2]
    simpa using this
end
end Kw




set_option Elab.async false
set_option linter.all false
set_option maxRecDepth 100000
set_option maxHeartbeats 4000000
namespace Kw
open PySem PySem.Spec PyProof.Rows L2
/-! ### deeds as data -/
theorem sqL_same {K : PySem.W.Frag} {H H' : Hp} {a : Addr} {xs : List V} (k : Same H H') (h : SqL K H a xs) : SqL K H' a xs := by
  rcases h with (h | ⟨o, h⟩) | h
  · exact .inl (.inl (k _ _ h))
  · exact .inl (.inr ⟨o, k _ _ h⟩)
  · exact .inr h
theorem noL_dd (e : Dd) : noL (ddD e) = true := by cases e <;> rfl
theorem lay_it (p : It) : PyData.canLay0 (itP p) = true := by
  obtain ⟨k, n⟩ := p
  have h1 : PyData.strOk ("box" : Str) = true := by decide +kernel
  have h2 : PyData.strOk ("thing" : Str) = true := by decide +kernel
  have h3 : PyData.strOk ("seal" : Str) = true := by decide +kernel
  cases k <;> simp [itP, Kd.str, PyData.canLay0, PyData.canLayAll0, h1, h2, h3]
theorem depth_it (p : It) : PyData.depth (itP p) = 1 := by simp [itP, PyData.depth, PyData.depthAll]
theorem shaped_it (p : It) : SeqAt.shaped (itP p) = true := by simp [SeqAt.shaped, lay_it, depth_it]
theorem kd_inj {k l : Kd} (h : k.str = l.str) : k = l := by
  cases k <;> cases l <;> first | rfl | exact absurd h (by decide +kernel)
theorem eqv_it (p q : It) : PyData.eqv (itP p) (itP q) = decide (p = q) := by
  obtain ⟨k, n⟩ := p
  obtain ⟨l, m⟩ := q
  by_cases h1 : k = l
  · subst h1
    by_cases h2 : n = m
    · subst h2
      simp [itP, PyData.eqv, PyData.eqvAll]
    · have h3 : ¬ ((n : Int) = (m : Int)) := fun z => h2 (by omega)
      simp [itP, PyData.eqv, PyData.eqvAll, h2, h3]
  · have h3 : ¬ (k.str = l.str) := fun z => h1 (kd_inj z)
    simp [itP, PyData.eqv, PyData.eqvAll, h1, h3]
theorem sd_dd (e : Dd) : Sd (ddD e) := by
  have a1 : PyData.strOk ("give" : Str) = true := by decide +kernel
  have a2 : PyData.strOk ("put" : Str) = true := by decide +kernel
  have a3 : PyData.strOk ("take" : Str) = true := by decide +kernel
  have a4 : PyData.strOk ("seal" : Str) = true := by decide +kernel
  have a5 : PyData.strOk ("break" : Str) = true := by decide +kernel
  refine ⟨⟨_, _, rfl⟩, ?_, ?_, noL_dd e⟩
  · cases e <;> simp [ddD, Dd.word, Dd.hand, Dd.tail, PyData.canLay0, PyData.canLayAll0, lay_it, a1, a2, a3, a4, a5]
  · cases e <;> simp [ddD, Dd.word, Dd.hand, Dd.tail, PyData.depth, PyData.depthAll, depth_it]
theorem cmpE_it (p q : It) : cmpE (itP p) (itP q) = true := rfl
theorem tc_two {x y : PyData} {i j : Int} (h : cmpE x y = true) : topCmp [x, .int i] [y, .int j] = true := by
  unfold topCmp
  split
  · unfold topCmp
    split
    · rfl
    · rfl
  · exact h
theorem tc_one {i j : Int} : topCmp [.int i] [.int j] = true := by
  unfold topCmp
  split
  · rfl
  · rfl
theorem tc_tail {e f : Dd} (h : e.word = f.word) : topCmp e.tail f.tail = true := by
  cases e <;> cases f <;> first | exact tc_two (cmpE_it _ _) | exact tc_two rfl | exact tc_one | (dsimp only [Dd.word] at h; exact absurd h (by decide +kernel))
theorem tc_dd (e f : Dd) : topCmp (itemsD' (ddD e)) (itemsD' (ddD f)) = true := by
  show topCmp (.str e.word :: .int (e.hand : Nat) :: e.tail) (.str f.word :: .int (f.hand : Nat) :: f.tail) = true
  unfold topCmp
  split
  · rename_i h
    have hw : e.word = f.word := by simpa [PyData.eqv] using h
    unfold topCmp
    split
    · exact tc_tail hw
    · rfl
  · rfl
/-! ### what the list of deeds has -/
theorem But.refl (L : Addr) (H : Hp) : But L H H := fun _ _ h _ => h
theorem But.trans {L : Addr} {H H1 H2 : Hp} (x : But L H H1) (y : But L H1 H2) : But L H H2 := fun a o h n => y a o (x a o h n) n
theorem But.same {L : Addr} {H H' : Hp} (e : Same H H') : But L H H' := fun a o h _ => e a o h
theorem But.nl {L : Addr} {H H' : Hp} {xs : List V} (hL : H L = some (.lst xs)) (x : But L H H') : Nl H H' := fun a o h n _ => x a o h (ne_of h hL (n _))
section
variable {P : Program} {w : World} {K : PySem.W.Frag} {mg : Str → Option Value} {base : Heap}
/-- small numbers -/
def Sm : Dd → Prop
  | .give h p o => h ≤ 1000 ∧ p.2 ≤ 1000 ∧ o ≤ 1000
  | .put h p b => h ≤ 1000 ∧ p.2 ≤ 1000 ∧ b ≤ 1000
  | .take h p b => h ≤ 1000 ∧ p.2 ≤ 1000 ∧ b ≤ 1000
  | .lock h b s => h ≤ 1000 ∧ b ≤ 1000 ∧ s ≤ 1000
  | .brk h b => h ≤ 1000 ∧ b ≤ 1000
/-- hands that there are -/
def Hb (d : Hs) : Dd → Prop
  | .give h _ o => (h : Int) < d.hands ∧ (o : Int) < d.hands ∧ o ≠ h
  | .put h p b => (h : Int) < d.hands ∧ p ≠ (.box, b) ∧ p.1 ≠ .sl
  | .take h p b => (h : Int) < d.hands ∧ p ≠ (.box, b) ∧ p.1 ≠ .sl
  | .lock h _ _ => (h : Int) < d.hands
  | .brk h _ => (h : Int) < d.hands
def DdV (K : PySem.W.Frag) (d : Hs) (v : V) (H : Hp) : Prop := ∃ e, Dp K H v (ddD e) ∧ (Kn d e ∧ Hb d e ∧ barOf d e = "") ∧ Sm e
theorem DdV.nl {d : Hs} {v : V} {H H' : Hp} (k : Nl H H') (h : DdV K d v H) : DdV K d v H' := by
  obtain ⟨e, h1, h2⟩ := h
  exact ⟨e, Dp.nl k _ _ (noL_dd e) h1, h2⟩
def ItV (K : PySem.W.Frag) (d : Hs) (v : V) (H : Hp) : Prop := ∃ p : It, Dp K H v (itP p) ∧ p.2 < (rowOf d p.1).length
def ItG (K : PySem.W.Frag) (d : Hs) (v : V) (H : Hp) : Prop := ∃ p : It, Dp K H v (itP p) ∧ p.2 < (rowOf d p.1).length ∧ p.1 ≠ .sl
theorem ItG.nl {d : Hs} {v : V} {H H' : Hp} (k : Nl H H') (h : ItG K d v H) : ItG K d v H' := by
  obtain ⟨e, h1, h2⟩ := h
  exact ⟨e, Dp.nl k _ _ rfl h1, h2⟩
theorem ItG.v {d : Hs} {v : V} {H : Hp} (h : ItG K d v H) : ItV K d v H := by
  obtain ⟨e, h1, h2, _⟩ := h
  exact ⟨e, h1, h2⟩
theorem ItV.nl {d : Hs} {v : V} {H H' : Hp} (k : Nl H H') (h : ItV K d v H) : ItV K d v H' := by
  obtain ⟨e, h1, h2⟩ := h
  exact ⟨e, Dp.nl k _ _ rfl h1, h2⟩
theorem nl_same {H H' : Hp} (e : Same H H') : Nl H H' := fun a o h _ _ => e a o h
def DdU (K : PySem.W.Frag) (d : Hs) (v : V) (H : Hp) : Prop := ∃ e, Dp K H v (ddD e) ∧ (Kn d e ∧ Hb d e) ∧ Sm e
theorem DdU.nl {d : Hs} {v : V} {H H' : Hp} (k : Nl H H') (h : DdU K d v H) : DdU K d v H' := by
  obtain ⟨e, h1, h2⟩ := h
  exact ⟨e, Dp.nl k _ _ (noL_dd e) h1, h2⟩
structure Fd (K : PySem.W.Frag) (d : Hs) (L : Addr) (H0 H : Hp) (m : Nat) : Prop where
  bt : But L H0 H
  ex : ∃ xs, H L = some (.lst xs) ∧ xs.length ≤ m ∧ ∀ v ∈ xs, DdU K d v H
theorem Fd.ext {d : Hs} {L : Addr} {H0 H H' : Hp} {m : Nat} (x : Fd K d L H0 H m) (e : Same H H') : ∃ xs, H' L = some (.lst xs) ∧ xs.length ≤ m ∧ ∀ (zs : List V) (n : Nat), zs.length ≤ n → (∀ v ∈ zs, DdU K d v H') → Fd K d L H0 (L2.upd H' L (.lst (xs ++ zs))) (m + n) := by
  obtain ⟨xs, h1, h2, h3⟩ := x.ex
  refine ⟨xs, e _ _ h1, h2, fun zs n hz hzs => ⟨fun a o h ne => ?_, xs ++ zs, upd_same, by rw [List.length_append]; omega, fun v hv => ?_⟩⟩
  · rw [upd_ne ne]
    exact e _ _ (x.bt a o h ne)
  · have k := nl_updL (ys := xs ++ zs) (e _ _ h1)
    rcases List.mem_append.mp hv with hv | hv
    · exact ((h3 v hv).nl (nl_same e)).nl k
    · exact (hzs v hv).nl k
theorem Fd.more {d : Hs} {L : Addr} {H0 H : Hp} {m n : Nat} (x : Fd K d L H0 H m) (h : m ≤ n) : Fd K d L H0 H n := by
  obtain ⟨xs, h1, h2, h3⟩ := x.ex
  exact ⟨x.bt, xs, h1, by omega, h3⟩
/-- a comprehension over a list whose items all have R -/
theorem lc_mk {a D : Addr} {xs : List V} {j : Nat} {σ : L2.St} {H1 : Hp} {tt : TT} {te : TE} {Qd : Hp → Prop} (R : V → Hp → Prop) (hR : ∀ H H' v, Nl H H' → R v H → R v H') (ha : SqL K H1 a xs) (hn : xs.length ≤ 1000000) (hD : H1 D = none)
    (hs : ∀ (i : Nat) (x : V) (H : Hp) (N : Hp → Prop) (Y : V → Hp → Prop), xs[i]? = some x → Same H1 H → (∀ H', Same H H' → N H') → (∀ y H', Same H H' → R y H' → Y y H') → tt ((wipe σ [j]).set j (some x)) H fun b H3 => if b = true then te ((wipe σ [j]).set j (some x)) H3 Y else N H3)
    (hd : ∀ H zs, Same H1 H → H D = some (.lst zs) → zs.length ≤ xs.length → (∀ z ∈ zs, R z H) → Qd H) :
    ∃ W : Nat → Nat → Hp → Prop, (∃ m, W 0 m (upd H1 D (.lst []))) ∧ ∀ i m H, W i m H →
      ((Itl K a).stop i H ∧ Qd H) ∨ ((Itl K a).go i H ∧ ∃ Nx : Hp → Prop, (∀ H', Nx H' → ∃ m', m' < m ∧ W (i + 1) m' H') ∧ ∀ x H', (Itl K a).yld i H x H' → gName j x (wipe σ [j]) H' fun σ2 H2 => wipe σ2 [j] = wipe σ [j] ∧ tt σ2 H2 fun b H3 =>
        if b = true then te σ2 H3 fun y H4 => ∃ acc, H4 D = some (.lst acc) ∧ acc.length < sizeLine ∧ Nx (upd H4 D (.lst (acc ++ [y]))) else Nx H3) := by
  have e0 : ∀ (H' : Hp) (o : HO), Same H1 H' → Same H1 (L2.upd H' D o) := fun H' o e c u h => by rw [upd_ne (ne_of_none h hD)]; exact e c u h
  refine lc_list (K := K) (a := a) (xs := xs) (fun i H => Same H1 H ∧ ∃ zs, H D = some (.lst zs) ∧ zs.length ≤ i ∧ ∀ z ∈ zs, R z H) ⟨same_upd hD, [], upd_same, Nat.le_refl _, fun z hz => nomatch hz⟩ (fun i H _ ⟨e, _⟩ => sqL_same e ha) ?_ ?_
  · rintro i x H hi ⟨e, zs, hz, lz, rz⟩
    have i1 := (List.getElem?_eq_some_iff.mp hi).1
    refine ⟨wipe_one _ j _, hs i x H _ _ hi e (fun H' e' => ⟨e.trans e', zs, e' _ _ hz, by omega, fun z q => hR _ _ _ (nl_same e') (rz z q)⟩) (fun y H' e' ry => ?_)⟩
    have hz' := e' _ _ hz
    have k := nl_updL (ys := zs ++ [y]) hz'
    refine ⟨zs, hz', by rw [sizeLine_eq]; omega, e0 _ _ (e.trans e'), zs ++ [y], upd_same, by rw [List.length_append]; simp; exact lz, fun z q => ?_⟩
    rcases List.mem_append.mp q with q | q
    · exact hR _ _ _ k (hR _ _ _ (nl_same e') (rz z q))
    · have ez : z = y := by simpa using q
      subst ez
      exact hR _ _ _ k ry
  · rintro H ⟨e, zs, hz, lz, rz⟩
    exact hd H zs e hz lz rz
def nV (hs : List Nat) : List V := hs.map fun h => V.int (h : Nat)
theorem nv_get {hs : List Nat} {i : Nat} {x : V} (h : (nV hs)[i]? = some x) : ∃ u, u ∈ hs ∧ x = .int (u : Nat) := by
  unfold nV at h
  rw [List.getElem?_map] at h
  cases q : hs[i]? with
  | none => rw [q] at h; cases h
  | some u =>
    rw [q] at h
    exact ⟨u, List.mem_of_getElem? q, (Option.some.inj h).symm⟩
theorem nv_len (hs : List Nat) : (nV hs).length = hs.length := List.length_map _
theorem rg_get {n : Nat} {i : Nat} {x : V} (h : (rgV 0 (n : Int))[i]? = some x) : i < n ∧ x = .int (i : Nat) := by
  have hl := (List.getElem?_eq_some_iff.mp h).1
  rw [rgV_length] at hl
  have hi : i < n := by omega
  refine ⟨hi, ?_⟩
  unfold rgV at h
  rw [List.getElem?_map, List.getElem?_range (by omega)] at h
  have := Option.some.inj h
  rw [← this]
  show V.int (0 + (i : Int)) = _
  rw [Int.zero_add]
theorem rg_len (n : Nat) : (rgV 0 (n : Int)).length = n := by rw [rgV_length]; omega
theorem ite_b {A B : Prop} (b : Bool) (h1 : b = true → A) (h2 : b = false → B) : if b = true then A else B := by
  cases b with
  | true => rw [if_pos rfl]; exact h1 rfl
  | false => rw [if_neg (by decide)]; exact h2 rfl
end
end Kw




set_option Elab.async false
set_option linter.all false
set_option maxRecDepth 100000
set_option maxHeartbeats 4000000
/-! items in their order: p <= q, sorted over a list or a tuple of items -/
namespace Kw
open PySem PySem.Spec PyProof.Rows L2
def rkd : Kd → Int
  | .box => 0
  | .sl => 1
  | .thing => 2
def itKey (p : It) : Int × Int := (rkd p.1, (p.2 : Int))
def itLt (p q : It) : Bool := SrtO.lexB (itKey p) (itKey q)
theorem rkd_inj {k l : Kd} (h : rkd k = rkd l) : k = l := by
  cases k <;> cases l <;> first | rfl | exact absurd h (by decide)
theorem kd_lt (k l : Kd) : decide (k.str.cps.toList < l.str.cps.toList) = decide (rkd k < rkd l) := by
  cases k <;> cases l <;> decide +kernel
theorem itLt_iff {p q : It} : itLt p q = true ↔ rkd p.1 < rkd q.1 ∨ (p.1 = q.1 ∧ p.2 < q.2) := by
  unfold itLt
  rw [SrtO.lexB_iff]
  show rkd p.1 < rkd q.1 ∨ (rkd p.1 = rkd q.1 ∧ ((p.2 : Int) < q.2)) ↔ _
  constructor
  · rintro (h | ⟨h1, h2⟩)
    · exact .inl h
    · exact .inr ⟨rkd_inj h1, by omega⟩
  · rintro (h | ⟨h1, h2⟩)
    · exact .inl h
    · exact .inr ⟨by rw [h1], by omega⟩
/-! ### p <= q -/
def rLeI (K : PySem.W.Frag) : R2 := fun x y H Q => ∃ (a b : Addr) (p q : It), x = .ref a ∧ y = .ref b ∧ SqT K H a [.str p.1.str, .int (p.2 : Nat)] ∧ SqT K H b [.str q.1.str, .int (q.2 : Nat)] ∧ Q (.bl (!itLt q p)) H
theorem two_of {v : List Value} {x : Str} {i : Int} (r : Vals [V.str x, V.int i] v) : ∃ t u, v = [.str x t, .int i u] := by
  cases r with
  | cons r1 rr =>
    cases rr with
    | cons r2 rr =>
      cases rr
      obtain ⟨t, rfl⟩ := r1
      obtain ⟨u, rfl⟩ := r2
      exact ⟨t, u, rfl⟩
theorem op_leI {X : Cx} (hu : X.A.units < cLine) : OpR X (compareOp .LtE) (rLeI X.K) := by
  intro pins s σ H x y v u Q I rx ry h
  obtain ⟨a, b, p, q, rfl, rfl, ha, hb, hq⟩ := h
  cases rx
  cases ry
  obtain ⟨its, r1, p1, _⟩ := I.tuple ha
  obtain ⟨its2, r2, p2, _⟩ := I.tuple hb
  obtain ⟨t1, u1, rfl⟩ := two_of r1
  obtain ⟨t2, u2, rfl⟩ := two_of r2
  have R := Ob.RcOp.tuples_le (A := X.A) (s := s) (e := fun j => if j = 0 then p.1.str == q.1.str else ((p.2 : Int) == (q.2 : Int))) (r := fun j => if j = 0 then !decide (q.1.str.cps.toList < p.1.str.cps.toList) else decide ((p.2 : Int) ≤ q.2)) p1 p2 hu (fun j h1 h2 => by
      match j, h1, h2 with
      | 0, _, _ => exact SeqAt.EqAt.str_str _ _ _ _
      | 1, _, _ => exact SeqAt.EqAt.int_int _ _ _ _
      | j + 2, h1, _ => simp at h1; omega) (fun j h1 h2 _ => by
      match j, h1, h2 with
      | 0, _, _ => exact fun _ _ _ _ h => PySem.P.le_str h
      | 1, _, _ => exact Ob.RcOp.le_int _ _ _ _
      | j + 2, h1, _ => simp at h1; omega)
  refine R X.prog X.w X.xe (EP X pins σ Q) ⟨.bl (!itLt q p), H, I, ?_, hq⟩
  show Value.bool _ = Value.bool _
  congr 1
  show Ob.lexAt _ _ _ 0 2 = _
  rw [Ob.lexAt_succ, Ob.lexAt_succ, Ob.lexAt_zero]
  have ks := kd_lt q.1 p.1
  by_cases c : p.1 = q.1
  · have c' : (p.1.str == q.1.str) = true := by rw [c]; exact beq_self_eq_true _
    simp only [c', if_true]
    by_cases c2 : p.2 = q.2
    · have n1 : itLt q p = false := by
        cases e : itLt q p with
        | false => rfl
        | true =>
          rcases itLt_iff.mp e with z | ⟨_, z⟩
          · rw [c] at z; omega
          · omega
      rw [n1]
      simp [c2]
    · have c3 : (((p.2 : Nat) : Int) == ((q.2 : Nat) : Int)) = false := beq_eq_false_iff_ne.mpr (by omega)
      simp only [c3]
      by_cases c4 : q.2 < p.2
      · have n1 : itLt q p = true := itLt_iff.mpr (.inr ⟨c.symm, c4⟩)
        rw [n1]
        simp
        omega
      · have n1 : itLt q p = false := by
          cases e : itLt q p with
          | false => rfl
          | true =>
            rcases itLt_iff.mp e with z | ⟨_, z⟩
            · rw [c] at z; omega
            · exact absurd z c4
        rw [n1]
        simp
        omega
  · have c' : (p.1.str == q.1.str) = false := beq_eq_false_iff_ne.mpr fun z => c (kd_inj z)
    simp only [c']
    rw [ks]
    by_cases c4 : rkd q.1 < rkd p.1
    · have n1 : itLt q p = true := itLt_iff.mpr (.inl c4)
      rw [n1, decide_eq_true c4]
      rfl
    · have n1 : itLt q p = false := by
        cases e : itLt q p with
        | false => rfl
        | true =>
          rcases itLt_iff.mp e with z | ⟨z, _⟩
          · exact absurd z c4
          · exact absurd z.symm c
      rw [n1, decide_eq_false c4]
      rfl
end Kw




set_option Elab.async false
set_option linter.all false
set_option maxRecDepth 100000
set_option maxHeartbeats 4000000
namespace Kw
open PySem PySem.Spec PyProof.Rows L2
theorem nat_of {r : Int} (h : 0 ≤ r) : ∃ n : Nat, r = (n : Int) := ⟨r.toNat, by omega⟩
end Kw




set_option Elab.async false
set_option linter.all false
set_option maxRecDepth 100000
set_option maxHeartbeats 4000000
namespace Kw
open PySem PySem.Spec PyProof.Rows L2
/-! ### _law_unknown -/
def inH (d : Hs) (p : It) : Prop := p.2 < (rowOf d p.1).length
instance (d : Hs) (p : It) : Decidable (inH d p) := by unfold inH; infer_instance
def unkOf (d : Hs) (e : Dd) : Str :=
  if d.hands ≤ (e.hand : Nat) then "UnknownHand" else match e with
  | .give h p o => if ¬ inH d p then "UnknownItem" else if d.hands ≤ (o : Nat) ∨ o = h then "UnknownHand" else ""
  | .put _ p b => if ¬ inH d p ∨ p.1 = .sl then "UnknownItem" else if d.bs.length ≤ b then "UnknownBox" else if p = (.box, b) then "InsideItself" else ""
  | .take _ p b => if ¬ inH d p ∨ p.1 = .sl then "UnknownItem" else if d.bs.length ≤ b then "UnknownBox" else if p = (.box, b) then "InsideItself" else ""
  | .lock _ b s => if d.bs.length ≤ b then "UnknownBox" else if d.ss.length ≤ s then "UnknownSeal" else ""
  | .brk _ b => if d.bs.length ≤ b then "UnknownBox" else ""
theorem ne_e1 : ¬ (("UnknownHand" : Str) = "") := by decide +kernel
theorem ne_e2 : ¬ (("UnknownItem" : Str) = "") := by decide +kernel
theorem ne_e3 : ¬ (("UnknownBox" : Str) = "") := by decide +kernel
theorem ne_e4 : ¬ (("InsideItself" : Str) = "") := by decide +kernel
theorem ne_e5 : ¬ (("UnknownSeal" : Str) = "") := by decide +kernel
theorem many_kd (d : Hs) (k : Kd) : manyOf d k.str = (rowOf d k).length := by
  have e1 : ¬ ("seal" : Str) = ("box" : Str) := by decide +kernel
  have e2 : ¬ ("thing" : Str) = ("box" : Str) := by decide +kernel
  have e3 : ¬ ("thing" : Str) = ("seal" : Str) := by decide +kernel
  cases k
  · exact if_pos rfl
  · show manyOf d "thing" = _
    unfold manyOf
    rw [if_neg e2, if_neg e3, if_pos rfl]
    rfl
  · show manyOf d "seal" = _
    unfold manyOf
    rw [if_neg e1, if_pos rfl]
    rfl
theorem has_it (d : Hs) (p : It) : numOk ((p.2 : Nat) : Int) ((manyOf d p.1.str : Nat) : Int) = decide (inH d p) := by
  rw [many_kd]
  unfold numOk inH
  by_cases c : p.2 < (rowOf d p.1).length
  · rw [decide_eq_true c, decide_eq_true (by omega), decide_eq_true (by omega)]
    rfl
  · rw [decide_eq_false c, decide_eq_false (show ¬ (((p.2 : Nat) : Int) < ((rowOf d p.1).length : Nat)) by omega), Bool.and_false]
end Kw




set_option Elab.async false
set_option linter.all false
set_option maxRecDepth 100000
set_option maxHeartbeats 4000000
namespace Kw
open PySem PySem.Spec PyProof.Rows L2
abbrev sNHand : Stmt := top 18
abbrev sNItem : Stmt := top 19
abbrev sNLoad : Stmt := top 20
abbrev sNBox : Stmt := top 21
abbrev sNSeal : Stmt := top 22
abbrev sPlace : Stmt := top 26
abbrev sWith : Stmt := top 27
abbrev sOn : Stmt := top 28
abbrev sNDeed : Stmt := top 32
abbrev sNMove : Stmt := top 33
abbrev sBehind : Stmt := top 34
abbrev sBreak : Stmt := top 35
abbrev sHeld : Stmt := top 36
abbrev sBare : Stmt := top 37
/-- a plain error of the program: the class's facts -/
structure PErr (K : PySem.W.Frag) (mg : Str → Option Value) (x : Str) (C : Addr) : Prop where
  ex : PySem.W.excIn K C [.type "ValueError", .type "Exception", .type "BaseException", .type "object"] "ValueError.__new__" = true
  mg : mg x = some (.ref C)
  kp : PySem.W.keepIn K (.ref C) = true
  sb : PySem.W.subIn K (.ref C) (.type "BaseException") = some true
  ty : PySem.W.typeIn K (.ref C) = some (.type "type")
def Rp (C : Addr) (H : Hp) (E : XK) : Prop := ∀ H', Same H H' → E (.ref C) none H'
theorem Rp.same {C : Addr} {H H' : Hp} {E : XK} (e : Same H H') (r : Rp C H E) : Rp C H' E := fun H2 e2 => r H2 (e.trans e2)
theorem str_app (a b : Str) : (a ++ b).length = a.length + b.length := Str.length_append a b
theorem kd_len (k : Kd) : k.str.length ≤ 20 ∧ ∀ c ∈ k.str.cps.toList, c < 16 ^ 8 := by
  cases k <;> exact ⟨by decide +kernel, by decide +kernel⟩
section
variable {P : Program} {w : World} {K : PySem.W.Frag} {mg : Str → Option Value} {base : Heap}
/-- is_number and the house's __contains__, as the needs use them -/
structure NumF (P : Program) (w : World) (K : PySem.W.Frag) (mg : Str → Option Value) (base : Heap) (g : Addr) (fd : FuncData) : Prop where
  G : FnOk P w K mg base CX0 1 g fd ["value", "limit"] spNum
  m : mg "is_number" = some (.ref g)
  k : PySem.W.keepIn K (.ref g) = true
  b : Binds K fd ["value", "limit"] []
structure HasF (P : Program) (w : World) (K : PySem.W.Frag) (mg : Str → Option Value) (base : Heap) (C g : Addr) (fd : FuncData) : Prop where
  G : FnOk P w K mg base CX0 2 g fd ["self", "item"] (spHas K C)
  f : PySem.W.findIn K (.ref C) "__contains__" = some (some (.ref g))
  i : PySem.W.isFn K (.ref g) = true
  b : Binds K fd ["self", "item"] []
theorem num_lt {n l : Int} (h0 : 0 ≤ n) : numOk n l = decide (n < l) := by
  unfold numOk
  rw [decide_eq_true h0, Bool.true_and]
/-! ### need_hand -/
def spNHand (K : PySem.W.Frag) (C X : Addr) : Sp := fun vs H Q E => ∃ (h : Addr) (n : Int) (d : Hs), vs = [.ref h, .int n] ∧ HouseAt K C H h d ∧ 0 ≤ n ∧ n ≤ 1000 ∧ (d.hands ≤ n → Rp X H E) ∧ (n < d.hands → Q .non H)
theorem scNHand : FnScope ["house", "hand"] ["house", "hand"] (defScope sNHand) := ⟨rfl, rfl, rfl, by decide +kernel, rfl, by decide +kernel, by decide +kernel⟩
theorem ok_nhand {f g C X : Addr} {fd fdg : FuncData} (F : Fun K "need_hand" "need_hand" sNHand f fd) (T : HouseC K C) (N : NumF P w K mg base g fdg) (X1 : PErr K mg "UnknownHand" X) :
    FnOk P w K mg base (L2N.CX P w) 2 f fd ["house", "hand"] (spNHand K C X) := by
  refine okN F scNHand (fun vs H Q E h => ?_) (fun cdv A outer s H vs Q E hr h => ?_)
  · obtain ⟨h, n, d, rfl, _⟩ := h
    rfl
  · obtain ⟨h, n, d, rfl, hh, h0, h1, kE, kQ⟩ := h
    have tk : L2N.Takes (cxOf (L2N.CX P w) P w K mg base ["house", "hand"] "need_hand" (defScope sNHand) f cdv A outer s H E) (fun cls d _ H => E cls d H) := L2N.takes_of rfl rfl rfl rfl
    refine ⟨_, pss_one (ps_if (pt_not (pt_val (pe_call N.G hr rfl N.m N.k N.b .nil pass0 (pa_cons (pv 1) (pa_cons (pe_fld (pv 0) rfl) pa_nil)))))
      (pss_one (L2N.ps_raise rfl tk (pmk_own1N PySem.F.excBase_ValueError X1.ex X1.mg X1.kp (raises_own X1.sb X1.ty) rfl (pe_joined (.cons pe_str (.cons (pe_fmt (pv 1)) .nil)))))) pss_nil), ?_⟩
    obtain ⟨dx, vb, vt, vs, vst, g0, _⟩ := hh.ex
    refine ⟨_, rfl, _, rfl, h, C, dx, _, _, rfl, g0, T.cl, T.nH, fs_hands _ _ _ _ _, n, d.hands, rfl, _, rfl, ?_⟩
    rw [num_lt h0]
    by_cases c : n < d.hands
    · rw [decide_eq_true c]
      exact iteF (kQ c)
    · rw [decide_eq_false c]
      have l5 := sizeLine_eq
      have l1 : (Str.empty : Str).length = 0 := rfl
      have l2 : ("there is no hand " : Str).length = 17 := by decide +kernel
      have l3 := digits_small h0 h1
      exact iteT ⟨_, rfl, by rw [str_app]; omega, _, rfl, .inr ⟨n, rfl, log2_small h0 h1, _, rfl, by rw [str_app, str_app]; omega, kE (by omega) _ (Same.refl _)⟩⟩
/-! ### need_item, need_load -/
def spNItem (K : PySem.W.Frag) (C X : Addr) : Sp := fun vs H Q E => ∃ (h : Addr) (y : V) (p : It) (d : Hs), vs = [.ref h, y] ∧ HouseAt K C H h d ∧ Dp K H y (itP p) ∧ p.2 ≤ 1000 ∧ (¬ inH d p → Rp X H E) ∧ (inH d p → Q .non H)
theorem scNItem : FnScope ["house", "item"] ["house", "item"] (defScope sNItem) := ⟨rfl, rfl, rfl, by decide +kernel, rfl, by decide +kernel, by decide +kernel⟩
theorem ok_nitem {f g C X : Addr} {fd fdg : FuncData} (F : Fun K "need_item" "need_item" sNItem f fd) (N : HasF P w K mg base C g fdg) (X1 : PErr K mg "UnknownItem" X) :
    FnOk P w K mg base (L2N.CX P w) 3 f fd ["house", "item"] (spNItem K C X) := by
  refine okN F scNItem (fun vs H Q E h => ?_) (fun cdv A outer s H vs Q E hr h => ?_)
  · obtain ⟨h, y, p, d, rfl, _⟩ := h
    rfl
  · obtain ⟨h, y, p, d, rfl, hh, hy, h1, kE, kQ⟩ := h
    have hr2 : Room 2 _ := hr
    have tk : L2N.Takes (cxOf (L2N.CX P w) P w K mg base ["house", "item"] "need_item" (defScope sNItem) f cdv A outer s H E) (fun cls d _ H => E cls d H) := L2N.takes_of rfl rfl rfl rfl
    refine ⟨_, pss_one (ps_if (pt_cmpR (op_notInOwn N.G N.f N.i hr2 N.b pass0) (pv 1) (pv 0) (by rfl))
      (pss_one (L2N.ps_raise rfl tk (pmk_own1N PySem.F.excBase_ValueError X1.ex X1.mg X1.kp (raises_own X1.sb X1.ty) rfl (pe_joined (.cons pe_str (.cons (pe_fmtI hr2 (pv 1)) .nil)))))) pss_nil), ?_⟩
    obtain ⟨dx, vb, vt, vs, vst, g0, _⟩ := hh.ex
    obtain ⟨ip, rfl, sp⟩ := it_at hy
    refine ⟨_, rfl, _, rfl, h, dx, _, rfl, g0, h, ip, d, p.1.str, (p.2 : Nat), rfl, hh, sp, _, rfl, _, rfl, ?_⟩
    rw [has_it]
    by_cases c : inH d p
    · rw [decide_eq_true c]
      exact iteF (kQ c)
    · rw [decide_eq_false c]
      have l5 := sizeLine_eq
      have l1 : (Str.empty : Str).length = 0 := rfl
      have l2 : ("there is no item " : Str).length = 17 := by decide +kernel
      exact iteT ⟨_, rfl, by rw [str_app]; omega, _, rfl, ip, _, _, rfl, sp, (kd_len _).1, (kd_len _).2, by omega, by omega, fun m hm => ⟨_, rfl, by rw [str_app, str_app]; omega, kE c _ (Same.refl _)⟩⟩
def spNLoad (K : PySem.W.Frag) (C X : Addr) : Sp := fun vs H Q E => ∃ (h : Addr) (y : V) (p : It) (d : Hs), vs = [.ref h, y] ∧ HouseAt K C H h d ∧ Dp K H y (itP p) ∧ p.2 ≤ 1000 ∧ (¬ inH d p ∨ p.1 = .sl → Rp X H E) ∧ (¬ (¬ inH d p ∨ p.1 = .sl) → Q .non H)
theorem scNLoad : FnScope ["house", "item"] ["house", "item"] (defScope sNLoad) := ⟨rfl, rfl, rfl, by decide +kernel, rfl, by decide +kernel, by decide +kernel⟩
theorem ok_nload {f g C X : Addr} {fd fdg : FuncData} (F : Fun K "need_load" "need_load" sNLoad f fd) (N : HasF P w K mg base C g fdg) (X1 : PErr K mg "UnknownItem" X) :
    FnOk P w K mg base (L2N.CX P w) 3 f fd ["house", "item"] (spNLoad K C X) := by
  refine okN F scNLoad (fun vs H Q E h => ?_) (fun cdv A outer s H vs Q E hr h => ?_)
  · obtain ⟨h, y, p, d, rfl, _⟩ := h
    rfl
  · obtain ⟨h, y, p, d, rfl, hh, hy, h1, kE, kQ⟩ := h
    have hr2 : Room 2 _ := hr
    have tk : L2N.Takes (cxOf (L2N.CX P w) P w K mg base ["house", "item"] "need_load" (defScope sNLoad) f cdv A outer s H E) (fun cls d _ H => E cls d H) := L2N.takes_of rfl rfl rfl rfl
    refine ⟨_, pss_one (ps_if (PW.pt (pw_or (pt_cmpR (op_notInOwn N.G N.f N.i hr2 N.b pass0) (pv 1) (pv 0) (by rfl)) (pw_or1 (pt_cmpR op_eq (pe_ix ix_tup (pv 1) pe_int (fun _ _ => rfl)) pe_str (nomark _)))))
      (pss_one (L2N.ps_raise rfl tk (pmk_own1N PySem.F.excBase_ValueError X1.ex X1.mg X1.kp (raises_own X1.sb X1.ty) rfl (pe_joined (.cons pe_str (.cons (pe_fmtI hr2 (pv 1)) .nil)))))) pss_nil), ?_⟩
    obtain ⟨dx, vb, vt, vs, vst, g0, _⟩ := hh.ex
    obtain ⟨ip, rfl, sp⟩ := it_at hy
    have l5 := sizeLine_eq
    have l1 : (Str.empty : Str).length = 0 := rfl
    have l2 : ("there is no box or thing " : Str).length = 25 := by decide +kernel
    refine ⟨_, rfl, _, rfl, h, dx, _, rfl, g0, h, ip, d, p.1.str, (p.2 : Nat), rfl, hh, sp, _, rfl, _, rfl, ?_⟩
    rw [has_it]
    by_cases c : inH d p
    · rw [decide_eq_true c]
      refine iteF ⟨_, rfl, ip, _, 0, _, rfl, rfl, sp, rfl, rfl, _, rfl, ?_⟩
      rw [decS]
      by_cases c2 : p.1 = .sl
      · rw [decide_eq_true (show p.1.str = ("seal" : Str) by rw [c2]; rfl)]
        exact iteT ⟨_, rfl, by rw [str_app]; omega, _, rfl, ip, _, _, rfl, sp, (kd_len _).1, (kd_len _).2, by omega, by omega, fun m hm => ⟨_, rfl, by rw [str_app, str_app]; omega, kE (.inr c2) _ (Same.refl _)⟩⟩
      · rw [decide_eq_false (show ¬ p.1.str = ("seal" : Str) from fun z => c2 (kd_inj (l := .sl) z))]
        exact iteF (kQ fun z => z.elim (fun q => q c) c2)
    · rw [decide_eq_false c]
      exact iteT (iteT ⟨_, rfl, by rw [str_app]; omega, _, rfl, ip, _, _, rfl, sp, (kd_len _).1, (kd_len _).2, by omega, by omega, fun m hm => ⟨_, rfl, by rw [str_app, str_app]; omega, kE (.inl c) _ (Same.refl _)⟩⟩)
/-! ### need_box, need_seal -/
def spNBox (K : PySem.W.Frag) (C X : Addr) : Sp := fun vs H Q E => ∃ (h : Addr) (n : Nat) (d : Hs), vs = [.ref h, .int (n : Nat)] ∧ HouseAt K C H h d ∧ n ≤ 1000 ∧ (d.bs.length ≤ n → Rp X H E) ∧ (n < d.bs.length → Q .non H)
def spNSeal (K : PySem.W.Frag) (C X : Addr) : Sp := fun vs H Q E => ∃ (h : Addr) (n : Nat) (d : Hs), vs = [.ref h, .int (n : Nat)] ∧ HouseAt K C H h d ∧ n ≤ 1000 ∧ (d.ss.length ≤ n → Rp X H E) ∧ (n < d.ss.length → Q .non H)
theorem scNBox : FnScope ["house", "box"] ["house", "box"] (defScope sNBox) := ⟨rfl, rfl, rfl, by decide +kernel, rfl, by decide +kernel, by decide +kernel⟩
theorem scNSeal : FnScope ["house", "seal"] ["house", "seal"] (defScope sNSeal) := ⟨rfl, rfl, rfl, by decide +kernel, rfl, by decide +kernel, by decide +kernel⟩
theorem ok_nbox {f g C X : Addr} {fd fdg : FuncData} (F : Fun K "need_box" "need_box" sNBox f fd) (B : Bt mg) (T : HouseC K C) (N : NumF P w K mg base g fdg) (X1 : PErr K mg "UnknownBox" X) :
    FnOk P w K mg base (L2N.CX P w) 2 f fd ["house", "box"] (spNBox K C X) := by
  refine okN F scNBox (fun vs H Q E h => ?_) (fun cdv A outer s H vs Q E hr h => ?_)
  · obtain ⟨h, n, d, rfl, _⟩ := h
    rfl
  · obtain ⟨h, n, d, rfl, hh, h1, kE, kQ⟩ := h
    have tk : L2N.Takes (cxOf (L2N.CX P w) P w K mg base ["house", "box"] "need_box" (defScope sNBox) f cdv A outer s H E) (fun cls d _ H => E cls d H) := L2N.takes_of rfl rfl rfl rfl
    refine ⟨_, pss_one (ps_if (pt_not (pt_val (pe_call N.G hr rfl N.m N.k N.b .nil pass0 (pa_cons (pv 1) (pa_cons (pe_callB call_len_seq (by rfl) B.len PySem.boot_len (pa_cons (pe_fld (pv 0) rfl) pa_nil)) pa_nil)))))
      (pss_one (L2N.ps_raise rfl tk (pmk_own1N PySem.F.excBase_ValueError X1.ex X1.mg X1.kp (raises_own X1.sb X1.ty) rfl (pe_joined (.cons pe_str (.cons (pe_fmt (pv 1)) .nil)))))) pss_nil), ?_⟩
    obtain ⟨dx, vb, vt, vs, vst, g0, g1, g2, g3, g4⟩ := hh.ex
    obtain ⟨ab, xb, rfl, qb, db, lb⟩ := pls_at g1
    refine ⟨_, rfl, _, rfl, h, C, dx, _, _, rfl, g0, T.cl, T.nB, fs_boxes _ _ _ _ _, ab, xb, rfl, .inr qb, (n : Nat), (xb.length : Nat), rfl, _, rfl, ?_⟩
    rw [num_lt (by omega)]
    by_cases c : n < d.bs.length
    · rw [decide_eq_true (show ((n : Nat) : Int) < (xb.length : Nat) by omega)]
      exact iteF (kQ c)
    · rw [decide_eq_false (show ¬ ((n : Nat) : Int) < (xb.length : Nat) by omega)]
      have l5 := sizeLine_eq
      have l1 : (Str.empty : Str).length = 0 := rfl
      have l2 : ("there is no box " : Str).length = 16 := by decide +kernel
      have l3 := digits_small (i := (n : Nat)) (by omega) (by omega)
      exact iteT ⟨_, rfl, by rw [str_app]; omega, _, rfl, .inr ⟨_, rfl, log2_small (by omega) (by omega), _, rfl, by rw [str_app, str_app]; omega, kE (by omega) _ (Same.refl _)⟩⟩
theorem ok_nseal {f g C X : Addr} {fd fdg : FuncData} (F : Fun K "need_seal" "need_seal" sNSeal f fd) (B : Bt mg) (T : HouseC K C) (N : NumF P w K mg base g fdg) (X1 : PErr K mg "UnknownSeal" X) :
    FnOk P w K mg base (L2N.CX P w) 2 f fd ["house", "seal"] (spNSeal K C X) := by
  refine okN F scNSeal (fun vs H Q E h => ?_) (fun cdv A outer s H vs Q E hr h => ?_)
  · obtain ⟨h, n, d, rfl, _⟩ := h
    rfl
  · obtain ⟨h, n, d, rfl, hh, h1, kE, kQ⟩ := h
    have tk : L2N.Takes (cxOf (L2N.CX P w) P w K mg base ["house", "seal"] "need_seal" (defScope sNSeal) f cdv A outer s H E) (fun cls d _ H => E cls d H) := L2N.takes_of rfl rfl rfl rfl
    refine ⟨_, pss_one (ps_if (pt_not (pt_val (pe_call N.G hr rfl N.m N.k N.b .nil pass0 (pa_cons (pv 1) (pa_cons (pe_callB call_len_seq (by rfl) B.len PySem.boot_len (pa_cons (pe_fld (pv 0) rfl) pa_nil)) pa_nil)))))
      (pss_one (L2N.ps_raise rfl tk (pmk_own1N PySem.F.excBase_ValueError X1.ex X1.mg X1.kp (raises_own X1.sb X1.ty) rfl (pe_joined (.cons pe_str (.cons (pe_fmt (pv 1)) .nil)))))) pss_nil), ?_⟩
    obtain ⟨dx, vb, vt, vs, vst, g0, g1, g2, g3, g4⟩ := hh.ex
    obtain ⟨as, xs, rfl, qs, ds, ls⟩ := pls_at g3
    refine ⟨_, rfl, _, rfl, h, C, dx, _, _, rfl, g0, T.cl, T.nS, fs_seals _ _ _ _ _, as, xs, rfl, .inr qs, (n : Nat), (xs.length : Nat), rfl, _, rfl, ?_⟩
    rw [num_lt (by omega)]
    by_cases c : n < d.ss.length
    · rw [decide_eq_true (show ((n : Nat) : Int) < (xs.length : Nat) by omega)]
      exact iteF (kQ c)
    · rw [decide_eq_false (show ¬ ((n : Nat) : Int) < (xs.length : Nat) by omega)]
      have l5 := sizeLine_eq
      have l1 : (Str.empty : Str).length = 0 := rfl
      have l2 : ("there is no seal " : Str).length = 17 := by decide +kernel
      have l3 := digits_small (i := (n : Nat)) (by omega) (by omega)
      exact iteT ⟨_, rfl, by rw [str_app]; omega, _, rfl, .inr ⟨_, rfl, log2_small (by omega) (by omega), _, rfl, by rw [str_app, str_app]; omega, kE (by omega) _ (Same.refl _)⟩⟩
end
end Kw




set_option Elab.async false
set_option linter.all false
set_option maxRecDepth 100000
set_option maxHeartbeats 4000000
namespace Kw
open PySem PySem.Spec PyProof.Rows L2
theorem slA_by {K : PySem.W.Frag} {H : Hp} {a : Addr} {xs : List V} {lo hi : Option Int} {Q : VK} (h : SqT K H a xs) (k : ∀ c H', Same H H' → SqT K H' c (cutV xs lo hi) → Q (.ref c) H') : rSlA K (.ref a) lo hi H Q := by
  refine ⟨a, xs, rfl, h, fun hw => ?_, fun _ p hp => k p _ (same_upd hp) (SqT.of upd_same)⟩
  have e : cutV xs lo hi = xs := by
    unfold cutV
    rw [hw.1, hw.2]
    simp
  exact k a H (Same.refl _) (by rw [e]; exact h)
theorem catA_by {K : PySem.W.Frag} {H : Hp} {a b : Addr} {xs ys : List V} {Q : VK} (ha : SqT K H a xs) (hb : SqT K H b ys) (hz : xs.length + ys.length ≤ sizeLine) (k : ∀ c H', Same H H' → SqT K H' c (xs ++ ys) → Q (.ref c) H') : rCatA K (.ref a) (.ref b) H Q := by
  refine ⟨a, b, xs, ys, rfl, rfl, ha, hb, hz, fun e => ?_, fun _ e => ?_, fun _ _ p hp => k p _ (same_upd hp) (SqT.of upd_same)⟩
  · subst e
    exact k b H (Same.refl _) hb
  · subst e
    exact k a H (Same.refl _) (by rw [List.append_nil]; exact ha)
theorem cut_to {xs : List V} {n : Nat} (h : n ≤ xs.length) : cutV xs none (some (n : Int)) = xs.take n := by
  unfold cutV
  rw [HT.sIx_none, HT.sIx_nat, Nat.min_eq_left h]
  simp
theorem cut_from {xs : List V} {n : Nat} (h : n < xs.length) : cutV xs (some ((n : Int) + 1)) none = xs.drop (n + 1) := by
  unfold cutV
  rw [HT.sIx_none, show ((n : Int) + 1) = ((n + 1 : Nat) : Int) by omega, HT.sIx_nat, Nat.min_eq_left (by omega)]
  rw [List.take_of_length_le]
  rw [List.length_drop]
  exact Nat.le_refl _
theorem set_cut {α : Type} (l : List α) (n : Nat) (a : α) (h : n < l.length) : l.take n ++ [a] ++ l.drop (n + 1) = l.set n a := by
  rw [List.set_eq_take_append_cons_drop, if_pos h]
  simp
/-- the table of the words of items -/
structure PartsF (K : PySem.W.Frag) (w : World) (mg : Str → Option Value) (aP : Addr) : Prop where
  d : ∀ k : Kd, KDct K w aP k.str (.int (k.ix : Nat))
  m : mg "PARTS" = some (.ref aP)
structure Ls (d : Hs) : Prop where
  b : d.bs.length ≤ 100
  t : d.ts.length ≤ 100
  s : d.ss.length ≤ 100
theorem Ls.row {d : Hs} (h : Ls d) (k : Kd) : (rowOf d k).length ≤ 100 := by
  cases k
  · exact h.b
  · exact h.t
  · exact h.s
section
variable {P : Program} {w : World} {K : PySem.W.Frag} {mg : Str → Option Value} {base : Heap}
theorem scPlace : FnScope ["state", "item", "word", "number"] ["state", "item"] (defScope sPlace) := ⟨rfl, rfl, rfl, by decide +kernel, rfl, by decide +kernel, by decide +kernel⟩
theorem ok_place {f aP : Addr} {fd : FuncData} (F : Fun K "place_in" "place_in" sPlace f fd) (T : PartsF K w mg aP) : FnOk P w K mg base CX0 1 f fd ["state", "item"] (spWhere K) := by
  refine F.ok scPlace (fun vs H Q E h => ?_) (fun cdv A outer s H vs Q E hr h => ?_)
  · obtain ⟨x, y, d, p, q, rfl, _⟩ := h
    rfl
  · obtain ⟨x, y, d, p, q, rfl, hx, hy, hw, k⟩ := h
    obtain ⟨a, v1, v2, v3, rfl, sa, d1, d2, d3⟩ := st_at hx
    obtain ⟨b, rfl, sb⟩ := it_at hy
    obtain ⟨vr, hr1, dr⟩ := row_at d1 d2 d3 p.1
    obtain ⟨ar, xr, rfl, sr, dlr, lr⟩ := pls_at dr
    obtain ⟨vq, hq1, hq2⟩ := DpAll.at2 dlr (i := p.2) (d := plD q) (by rw [List.getElem?_map]; unfold whereD at hw; rw [hw]; rfl)
    refine ⟨_, pss_cons (ps_asg (pv 1) (pg_tup (by rfl) (pgs_cons (pg_name (i := 2) scPlace.nd rfl (.inl rfl)) (pgs_cons (pg_name (i := 3) scPlace.nd rfl (.inl rfl)) pgs_nil))))
      (pss_one (ps_ret (pe_ix ix_tup (pe_ix ix_tup (pv 0) (pe_ix ix_kdict (pe_glob (v := .ref aP) rfl T.m rfl) (pv 2) (fun _ _ => rfl)) (fun _ _ => rfl)) (pv 3) (fun _ _ => rfl)))), ?_⟩
    refine ⟨_, rfl, b, _, rfl, sb, rfl, _, _, rfl, _, _, rfl, rfl, ?_⟩
    refine ⟨_, rfl, _, rfl, aP, p.1.str, .int (p.1.ix : Nat), rfl, rfl, T.d p.1, a, _, _, _, rfl, rfl, sa, hr1, _, rfl, ar, xr, _, vq, rfl, rfl, sr, atI_nat hq1, ?_⟩
    exact k _ _ (Same.refl _) hq2
/-! ### place_in -/
/-! ### with_place -/
def spWith (K : PySem.W.Frag) : Sp := fun vs H Q _ => ∃ (x y z : V) (d : Hs) (p : It) (q : Pl), vs = [x, y, z] ∧ Dp K H x (stD d) ∧ Dp K H y (itP p) ∧ Dp K H z (plD q) ∧ p.2 < (rowOf d p.1).length ∧ Ls d ∧ ∀ v H', Same H H' → Dp K H' v (stD (setD d p q)) → Q v H'
theorem scWith : FnScope ["state", "item", "place", "word", "number", "part", "places"] ["state", "item", "place"] (defScope sWith) := ⟨rfl, rfl, rfl, by decide +kernel, rfl, by decide +kernel, by decide +kernel⟩
theorem ok_with {f aP : Addr} {fd : FuncData} (F : Fun K "with_place" "with_place" sWith f fd) (T : PartsF K w mg aP) : FnOk P w K mg base CX0 1 f fd ["state", "item", "place"] (spWith K) := by
  refine F.ok scWith (fun vs H Q E h => ?_) (fun cdv A outer s H vs Q E hr h => ?_)
  · obtain ⟨x, y, z, d, p, q, rfl, _⟩ := h
    rfl
  · obtain ⟨x, y, z, d, p, q, rfl, hx, hy, hz, hp, hL, k⟩ := h
    obtain ⟨a, v1, v2, v3, rfl, sa, d1, d2, d3⟩ := st_at hx
    obtain ⟨b, rfl, sb⟩ := it_at hy
    obtain ⟨vr, hr1, dr⟩ := row_at d1 d2 d3 p.1
    obtain ⟨ar, xr, rfl, sr, dlr, lr⟩ := pls_at dr
    have hL1 := hL.row p.1
    have l5 := sizeLine_eq
    have ix3 : p.1.ix < 3 := by cases p.1 <;> decide
    refine ⟨_, pss_cons (ps_asg (pv 1) (pg_tup (by rfl) (pgs_cons (pg_name (i := 3) scWith.nd rfl (.inl rfl)) (pgs_cons (pg_name (i := 4) scWith.nd rfl (.inl rfl)) pgs_nil))))
      (pss_cons (ps_set (i := 5) scWith.nd rfl (.inl rfl) (pe_ix ix_kdict (pe_glob (v := .ref aP) rfl T.m rfl) (pv 3) (fun _ _ => rfl)))
      (pss_cons (ps_set (i := 6) scWith.nd rfl (.inl rfl) (pe_ix ix_tup (pv 0) (pv 5) (fun _ _ => rfl)))
      (pss_cons (ps_set (i := 6) scWith.nd rfl (.inl rfl) (pe_op op_catA (pe_op op_catA (pe_slice sl_tupA (pv 6) po_none (po_some (pv 4))) (pe_tup (pa_cons (pv 2) pa_nil))) (pe_slice sl_tupA (pv 6) (po_some (pe_op op_add (pv 4) pe_int)) po_none)))
      (pss_one (ps_ret (pe_op op_catA (pe_op op_catA (pe_slice sl_tupA (pv 0) po_none (po_some (pv 5))) (pe_tup (pa_cons (pv 6) pa_nil))) (pe_slice sl_tupA (pv 0) (po_some (pe_op op_add (pv 5) pe_int)) po_none))))))), ?_⟩
    refine ⟨_, rfl, b, _, rfl, sb, rfl, _, _, rfl, _, _, rfl, rfl, ?_⟩
    refine ⟨_, rfl, aP, p.1.str, .int (p.1.ix : Nat), rfl, rfl, T.d p.1, ?_⟩
    refine ⟨_, rfl, _, rfl, a, _, _, _, rfl, rfl, sa, hr1, ?_⟩
    -- the row
    refine ⟨_, rfl, _, rfl, _, rfl, slA_by sr fun c1 H1 e1 s1 => ?_⟩
    rw [cut_to (by omega)] at s1
    refine ⟨_, rfl, (by show 1 ≤ sizeLine; decide), fun t1 ht1 => ?_⟩
    have f1 := same_upd (o := HO.tup [z]) ht1
    refine catA_by (SqT.same f1 s1) (SqT.of upd_same) (by rw [List.length_take]; simp; omega) fun c2 H2 e2 s2 => ?_
    have e12 := (e1.trans f1).trans e2
    refine ⟨_, rfl, _, rfl, _, _, rfl, rfl, _, rfl, ?_⟩
    dsimp only [tNoPart]
    refine slA_by (SqT.same e12 sr) fun c3 H3 e3 s3 => ?_
    rw [cut_from (by omega)] at s3
    refine catA_by (SqT.same e3 s2) s3 (by rw [List.length_append, List.length_take, List.length_drop]; simp; omega) fun c4 H4 e4 s4 => ?_
    rw [set_cut _ _ _ (by omega)] at s4
    have e14 := (e12.trans e3).trans e4
    have dn : Dp K H4 (.ref c4) (plsD ((rowOf d p.1).set p.2 q)) := .tup s4 (by rw [List.map_set]; exact DpAll.set (Dp.sames e14 _ _ dlr) (Dp.same e14 _ _ hz))
    -- the state
    refine ⟨_, rfl, _, rfl, _, rfl, slA_by (SqT.same e14 sa) fun c5 H5 e5 s5 => ?_⟩
    rw [cut_to (by show p.1.ix ≤ 3; omega)] at s5
    refine ⟨_, rfl, (by show 1 ≤ sizeLine; decide), fun t2 ht2 => ?_⟩
    have f2 := same_upd (o := HO.tup [V.ref c4]) ht2
    refine catA_by (SqT.same f2 s5) (SqT.of upd_same) (by rw [List.length_take]; simp; omega) fun c6 H6 e6 s6 => ?_
    have e56 := (e5.trans f2).trans e6
    refine ⟨_, rfl, _, rfl, _, _, rfl, rfl, _, rfl, ?_⟩
    dsimp only [tNoPart]
    refine slA_by (SqT.same (e14.trans e56) sa) fun c7 H7 e7 s7 => ?_
    rw [cut_from (by show p.1.ix < 3; exact ix3)] at s7
    refine catA_by (SqT.same e7 s6) s7 (by rw [List.length_append, List.length_take, List.length_drop]; simp; omega) fun c8 H8 e8 s8 => ?_
    rw [set_cut _ _ _ (by show p.1.ix < 3; exact ix3)] at s8
    have e58 := (e56.trans e7).trans e8
    have e18 := e14.trans e58
    refine k _ _ e18 ?_
    have dn' := Dp.same e58 _ _ dn
    have x1 := Dp.same e18 _ _ d1
    have x2 := Dp.same e18 _ _ d2
    have x3 := Dp.same e18 _ _ d3
    obtain ⟨kd, n⟩ := p
    cases kd
    · exact .tup s8 (.cons dn' (.cons x2 (.cons x3 .nil)))
    · exact .tup s8 (.cons x1 (.cons dn' (.cons x3 .nil)))
    · exact .tup s8 (.cons x1 (.cons x2 (.cons dn' .nil)))
/-! ### seal_on -/
def spOn (K : PySem.W.Frag) : Sp := fun vs H Q _ => ∃ (x : V) (b : Nat) (d : Hs), vs = [x, .int (b : Nat)] ∧ Dp K H x (stD d) ∧ ((Wd.box, (b : Int)) ∈ d.ss → ∀ H', Same H H' → Q (.int (onIx d b : Nat)) H') ∧ ((Wd.box, (b : Int)) ∉ d.ss → ∀ H', Same H H' → Q .non H')
theorem scOn : FnScope ["state", "box", "number", "place"] ["state", "box"] (defScope sOn) := ⟨rfl, rfl, rfl, by decide +kernel, rfl, by decide +kernel, by decide +kernel⟩
theorem on_eq {d : Hs} {b i : Nat} (h : d.ss[i]? = some (Wd.box, (b : Int))) (hn : ∀ (m : Nat) z, m < i → d.ss[m]? = some z → z ≠ (Wd.box, (b : Int))) : onIx d b = i := by
  unfold onIx
  obtain ⟨hi, he⟩ := List.getElem?_eq_some_iff.mp h
  have : d.ss.findIdx? (fun q => decide (q = (Wd.box, (b : Int)))) = some i := by
    rw [List.findIdx?_eq_some_iff_getElem]
    refine ⟨hi, by rw [he]; exact decide_eq_true rfl, fun j hj => ?_⟩
    have := hn j (d.ss[j]) hj (List.getElem?_eq_getElem (by omega))
    simpa using this
  rw [this]
  rfl
theorem ok_on {f : Addr} {fd : FuncData} (F : Fun K "seal_on" "seal_on" sOn f fd) (B : Bt mg) : FnOk P w K mg base CX0 1 f fd ["state", "box"] (spOn K) := by
  refine F.ok scOn (fun vs H Q E h => ?_) (fun cdv A outer s H vs Q E hr h => ?_)
  · obtain ⟨x, b, d, rfl, _⟩ := h
    rfl
  · obtain ⟨x, b, d, rfl, hx, k1, k2⟩ := h
    have hu : (cxOf CX0 P w K mg base ["state", "box", "number", "place"] "seal_on" (defScope sOn) f cdv A outer s H E).nox.A.units + 64 < cLine := by have := hr.un; show (A.deeper _).units + 64 < cLine; omega
    obtain ⟨a, v1, v2, v3, rfl, sa, d1, d2, d3⟩ := st_at hx
    obtain ⟨as, xs, rfl, ss, ds, ls⟩ := pls_at d3
    refine ⟨_, pss_cons (ps_for PassesOwn.never rfl (pi_enumT (by rfl) B.enu (pa_cons (pe_ix ix_tup (pv 0) pe_int (fun _ _ => rfl)) pa_nil)) (pg_tup (by rfl) (pgs_cons (pg_name (i := 2) scOn.nd rfl (.inl rfl)) (pgs_cons (pg_name (i := 3) scOn.nd rfl (.inl rfl)) pgs_nil)))
        (pss_one (ps_if (pt_cmpR (op_eqD hu) (pv 3) (pe_tup (pa_cons pe_str (pa_cons (pv 1) pa_nil))) (nomark _)) (pss_one (ps_ret (pv 2))) pss_nil)))
      (pss_one (ps_ret pe_non)), ?_⟩
    refine ⟨_, rfl, a, _, 2, _, rfl, rfl, sa, rfl, as, xs, rfl, ss, for_enumT (K := K) (a := as) (xs := xs) (fun i σ H2 => ∃ u1 u2 : Option V, σ = [some (.ref a), some (.int (b : Nat)), u1, u2] ∧ Same H H2 ∧ ∀ (m : Nat) z, m < i → d.ss[m]? = some z → z ≠ (Wd.box, (b : Int)))
      ⟨none, none, rfl, Same.refl H, fun m z h _ => absurd h (by omega)⟩ (fun i σ H2 _ ⟨_, _, _, e, _⟩ => SqT.same e ss) ?_ ?_⟩
    · rintro i y σ H2 T' hi ⟨u1, u2, rfl, e, hb⟩ hT
      obtain ⟨q, hq, hy⟩ := pls_get ds hi
      have f1 := same_upd (o := HO.tup [.int (i : Nat), y]) hT
      refine ⟨T', _, rfl, SqT.of upd_same, rfl, _, _, rfl, _, _, rfl, rfl, ?_⟩
      refine ⟨_, rfl, _, rfl, (by show 2 ≤ sizeLine; decide), fun t ht => ?_⟩
      have f2 := f1.trans (same_upd (o := HO.tup [.str ("box" : Str), .int (b : Nat)]) ht)
      refine ⟨plD q, plD (.box, (b : Int)), Dp.same (e.trans f2) _ _ hy, .tup (SqT.of upd_same) (.cons (.str _) (.cons (.int _) .nil)), shaped_pl _, shaped_pl _, _, rfl, ?_⟩
      rw [eqv_pl]
      by_cases c : q = (.box, (b : Int))
      · subst c
        rw [decide_eq_true rfl]
        refine iteT ⟨_, rfl, ?_⟩
        have := k1 (List.mem_of_getElem? hq) _ (e.trans f2)
        rw [on_eq hq hb] at this
        exact this
      · rw [decide_eq_false c]
        refine iteF ⟨_, _, rfl, e.trans f2, fun m z hm hz => ?_⟩
        by_cases cm : m = i
        · subst cm
          rw [hq] at hz
          cases hz
          exact c
        · exact hb m z (by omega) hz
    · rintro σ H2 ⟨u1, u2, rfl, e, hb⟩
      refine k2 (fun z => ?_) _ e
      obtain ⟨i, hi⟩ := mem_get z
      exact hb i _ (by have := (List.getElem?_eq_some_iff.mp hi).1; omega) hi rfl
end
end Kw




set_option Elab.async false
set_option linter.all false
set_option maxRecDepth 100000
set_option maxHeartbeats 4000000
namespace Kw
open PySem PySem.Spec PyProof.Rows L2
section
variable {P : Program} {w : World} {K : PySem.W.Frag} {mg : Str → Option Value} {base : Heap}
/-! ### need_held -/
def spHeld (K : PySem.W.Frag) (X : Addr) : Sp := fun vs H Q E => ∃ (x y : V) (h : Nat) (d : Hs) (p : It) (q : Pl), vs = [x, .int (h : Nat), y] ∧ Dp K H x (stD d) ∧ Dp K H y (itP p) ∧ whereD d p = some q ∧ h ≤ 1000 ∧ p.2 ≤ 1000 ∧
  (q ≠ (.hand, (h : Int)) → Rp X H E) ∧ (q = (.hand, (h : Int)) → ∀ H', Same H H' → Q .non H')
theorem scHeld : FnScope ["state", "hand", "item"] ["state", "hand", "item"] (defScope sHeld) := ⟨rfl, rfl, rfl, by decide +kernel, rfl, by decide +kernel, by decide +kernel⟩
structure PlF (P : Program) (w : World) (K : PySem.W.Frag) (mg : Str → Option Value) (base : Heap) (g : Addr) (fd : FuncData) : Prop where
  G : FnOk P w K mg base CX0 1 g fd ["state", "item"] (spWhere K)
  m : mg "place_in" = some (.ref g)
  k : PySem.W.keepIn K (.ref g) = true
  b : Binds K fd ["state", "item"] []
theorem ok_held {f g X : Addr} {fd fdg : FuncData} (F : Fun K "need_held" "need_held" sHeld f fd) (N : PlF P w K mg base g fdg) (X1 : PErr K mg "NotHeld" X) :
    FnOk P w K mg base (L2.CX P w) 2 f fd ["state", "hand", "item"] (spHeld K X) := by
  refine F.okX scHeld (fun vs H Q E h => ?_) (fun cdv A outer s H vs Q E hr h => ?_)
  · obtain ⟨x, y, h, d, p, q, rfl, _⟩ := h
    rfl
  · obtain ⟨x, y, h, d, p, q, rfl, hx, hy, hw, h1, h2, kE, kQ⟩ := h
    have hr1 : Room 1 _ := hr
    have tk : Takes (cxOf (L2.CX P w) P w K mg base ["state", "hand", "item"] "need_held" (defScope sHeld) f cdv A outer s H E) (fun cls d _ H => E cls d H) := takes_of rfl rfl rfl rfl
    have hu : (cxOf (L2.CX P w) P w K mg base ["state", "hand", "item"] "need_held" (defScope sHeld) f cdv A outer s H E).A.units + 64 < cLine := by have := hr.un; show (A.deeper _).units + 64 < cLine; omega
    refine ⟨_, pss_one (ps_if (pt_cmpR (op_neD hu) (pe_call N.G hr rfl N.m N.k N.b .nil pass0 (pa_cons (pv 0) (pa_cons (pv 2) pa_nil))) (pe_tup (pa_cons pe_str (pa_cons (pv 1) pa_nil))) (nomark _))
      (pss_one (ps_raise rfl tk (SkE.pmk_own1 PySem.F.excBase_ValueError X1.ex X1.mg X1.kp (raises_own X1.sb X1.ty) rfl (pe_joined (.cons pe_str (.cons (pe_fmt (pv 1)) (.cons pe_str (.cons (pe_fmtI hr1 (pv 2)) .nil)))))))) pss_nil), ?_⟩
    obtain ⟨ip, rfl, sp⟩ := it_at hy
    refine ⟨_, rfl, _, rfl, x, _, d, p, q, rfl, hx, hy, hw, fun v H1 e1 dv => ?_⟩
    refine ⟨_, rfl, (by show 2 ≤ sizeLine; decide), fun t ht => ?_⟩
    have f1 := same_upd (o := HO.tup [.str ("hand" : Str), .int (h : Nat)]) ht
    refine ⟨plD q, plD (.hand, (h : Int)), Dp.same f1 _ _ dv, .tup (SqT.of upd_same) (.cons (.str _) (.cons (.int _) .nil)), shaped_pl _, shaped_pl _, _, rfl, ?_⟩
    rw [eqv_pl]
    have e2 := e1.trans f1
    by_cases c : q = (.hand, (h : Int))
    · rw [decide_eq_true c]
      exact iteF (kQ c _ e2)
    · rw [decide_eq_false c]
      have l5 := sizeLine_eq
      have l1 : (Str.empty : Str).length = 0 := rfl
      have l2 : ("hand " : Str).length = 5 := by decide +kernel
      have l4 : (" does not hold " : Str).length = 15 := by decide +kernel
      have l3 := digits_small (i := (h : Nat)) (by omega) (by omega)
      exact iteT ⟨_, rfl, by rw [str_app]; omega, _, rfl, .inr ⟨_, rfl, log2_small (by omega) (by omega), _, rfl, by rw [str_app, str_app]; omega, _, rfl, by rw [str_app, str_app, str_app]; omega, _, rfl, ip, _, _, rfl, SqT.same e2 sp, (kd_len _).1, (kd_len _).2, by omega, by omega, fun m hm => ⟨_, rfl, by rw [str_app, str_app, str_app, str_app]; omega, kE c _ e2⟩⟩⟩
structure HeldF (P : Program) (w : World) (K : PySem.W.Frag) (mg : Str → Option Value) (base : Heap) (X g : Addr) (fd : FuncData) : Prop where
  G : FnOk P w K mg base (L2.CX P w) 2 g fd ["state", "hand", "item"] (spHeld K X)
  m : mg "need_held" = some (.ref g)
  k : PySem.W.keepIn K (.ref g) = true
  b : Binds K fd ["state", "hand", "item"] []
structure OnF (P : Program) (w : World) (K : PySem.W.Frag) (mg : Str → Option Value) (base : Heap) (g : Addr) (fd : FuncData) : Prop where
  G : FnOk P w K mg base CX0 1 g fd ["state", "box"] (spOn K)
  m : mg "seal_on" = some (.ref g)
  k : PySem.W.keepIn K (.ref g) = true
  b : Binds K fd ["state", "box"] []
structure WithF (P : Program) (w : World) (K : PySem.W.Frag) (mg : Str → Option Value) (base : Heap) (g : Addr) (fd : FuncData) : Prop where
  G : FnOk P w K mg base CX0 1 g fd ["state", "item", "place"] (spWith K)
  m : mg "with_place" = some (.ref g)
  k : PySem.W.keepIn K (.ref g) = true
  b : Binds K fd ["state", "item", "place"] []
/-! ### need_bare -/
def spBare (K : PySem.W.Frag) (XH XS : Addr) : Sp := fun vs H Q E => ∃ (x : V) (h b : Nat) (d : Hs), vs = [x, .int (h : Nat), .int (b : Nat)] ∧ Dp K H x (stD d) ∧ b < d.bs.length ∧ h ≤ 1000 ∧ b ≤ 1000 ∧
  (whereD d (.box, b) ≠ some (.hand, (h : Int)) → Rp XH H E) ∧ (whereD d (.box, b) = some (.hand, (h : Int)) → (Wd.box, (b : Int)) ∈ d.ss → Rp XS H E) ∧ (whereD d (.box, b) = some (.hand, (h : Int)) → (Wd.box, (b : Int)) ∉ d.ss → ∀ H', Same H H' → Q .non H')
theorem scBare : FnScope ["state", "hand", "box"] ["state", "hand", "box"] (defScope sBare) := ⟨rfl, rfl, rfl, by decide +kernel, rfl, by decide +kernel, by decide +kernel⟩
theorem ok_bare {f g g2 XH XS : Addr} {fd fdg fdg2 : FuncData} (F : Fun K "need_bare" "need_bare" sBare f fd) (N : HeldF P w K mg base XH g fdg) (O : OnF P w K mg base g2 fdg2) (X1 : PErr K mg "IsSealed" XS) :
    FnOk P w K mg base (L2.CX P w) 3 f fd ["state", "hand", "box"] (spBare K XH XS) := by
  refine F.okX scBare (fun vs H Q E h => ?_) (fun cdv A outer s H vs Q E hr h => ?_)
  · obtain ⟨x, h, b, d, rfl, _⟩ := h
    rfl
  · obtain ⟨x, h, b, d, rfl, hx, hb, h1, h2, kH, kS, kQ⟩ := h
    have hr1 : Room 1 _ := hr.mono (by decide)
    have tk : Takes (cxOf (L2.CX P w) P w K mg base ["state", "hand", "box"] "need_bare" (defScope sBare) f cdv A outer s H E) (fun cls d _ H => E cls d H) := takes_of rfl rfl rfl rfl
    refine ⟨_, pss_cons (ps_expr (pe_call N.G hr rfl N.m N.k N.b .nil (passes_call tk (fun _ _ _ _ h => h)) (pa_cons (pv 0) (pa_cons (pv 1) (pa_cons (pe_tup (pa_cons pe_str (pa_cons (pv 2) pa_nil))) pa_nil)))))
      (pss_one (ps_if (pt_cmp (pc_notN (pe_call O.G hr1 rfl O.m O.k O.b .nil pass0 (pa_cons (pv 0) (pa_cons (pv 2) pa_nil)))))
      (pss_one (ps_raise rfl tk (SkE.pmk_own1 PySem.F.excBase_ValueError X1.ex X1.mg X1.kp (raises_own X1.sb X1.ty) rfl (pe_joined (.cons pe_str (.cons (pe_fmt (pv 2)) (.cons pe_str .nil))))))) pss_nil)), ?_⟩
    obtain ⟨q, hq⟩ := where_box hb
    refine ⟨_, rfl, _, rfl, _, rfl, (by show 2 ≤ sizeLine; decide), fun t ht => ?_⟩
    have f1 := same_upd (o := HO.tup [.str ("box" : Str), .int (b : Nat)]) ht
    have dt : Dp K (L2.upd H t (.tup [.str ("box" : Str), .int (b : Nat)])) (.ref t) (itP (.box, b)) := .tup (SqT.of upd_same) (.cons (.str _) (.cons (.int _) .nil))
    generalize L2.upd H t (.tup [.str ("box" : Str), .int (b : Nat)]) = H1 at *
    refine ⟨x, .ref t, h, d, (.box, b), q, rfl, Dp.same f1 _ _ hx, dt, hq, h1, h2, fun c => (kH (by rw [hq]; exact fun z => c (Option.some.inj z))).same f1, fun c H2 e2 => ?_⟩
    have hq' : whereD d (.box, b) = some (.hand, (h : Int)) := by rw [hq, c]
    have e12 := f1.trans e2
    have l5 := sizeLine_eq
    have l1 : (Str.empty : Str).length = 0 := rfl
    have l2 : ("box " : Str).length = 4 := by decide +kernel
    have l4 : (" has a seal" : Str).length = 11 := by decide +kernel
    have l3 := digits_small (i := (b : Nat)) (by omega) (by omega)
    refine ⟨_, rfl, _, rfl, x, b, d, rfl, Dp.same e12 _ _ hx, fun hin H3 e3 => ?_, fun hno H3 e3 => ?_⟩
    · exact ⟨_, rfl, iteT ⟨_, rfl, by rw [str_app]; omega, _, rfl, .inr ⟨_, rfl, log2_small (by omega) (by omega), _, rfl, by rw [str_app, str_app]; omega, _, rfl, by rw [str_app, str_app, str_app]; omega, kS hq' hin _ (e12.trans e3)⟩⟩⟩
    · exact ⟨_, rfl, iteF (kQ hq' hno _ (e12.trans e3))⟩
structure BareF (P : Program) (w : World) (K : PySem.W.Frag) (mg : Str → Option Value) (base : Heap) (XH XS g : Addr) (fd : FuncData) : Prop where
  G : FnOk P w K mg base (L2.CX P w) 3 g fd ["state", "hand", "box"] (spBare K XH XS)
  m : mg "need_bare" = some (.ref g)
  k : PySem.W.keepIn K (.ref g) = true
  b : Binds K fd ["state", "hand", "box"] []
/-! ### state_behind_break -/
def spBreak (K : PySem.W.Frag) (XH XN : Addr) : Sp := fun vs H Q E => ∃ (x : V) (h b : Nat) (d : Hs), vs = [x, .int (h : Nat), .int (b : Nat)] ∧ Dp K H x (stD d) ∧ b < d.bs.length ∧ Ls d ∧ h ≤ 1000 ∧ b ≤ 1000 ∧
  (whereD d (.box, b) ≠ some (.hand, (h : Int)) → Rp XH H E) ∧ (whereD d (.box, b) = some (.hand, (h : Int)) → (Wd.box, (b : Int)) ∉ d.ss → Rp XN H E) ∧ (whereD d (.box, b) = some (.hand, (h : Int)) → (Wd.box, (b : Int)) ∈ d.ss → ∀ v H', Same H H' → Dp K H' v (stD (setD d (.sl, onIx d b) (.gone, 0))) → Q v H')
theorem scBreak : FnScope ["state", "hand", "box", "seal"] ["state", "hand", "box"] (defScope sBreak) := ⟨rfl, rfl, rfl, by decide +kernel, rfl, by decide +kernel, by decide +kernel⟩
theorem ok_break {f g g2 g3 XH XN : Addr} {fd fdg fdg2 fdg3 : FuncData} (F : Fun K "state_behind_break" "state_behind_break" sBreak f fd) (N : HeldF P w K mg base XH g fdg) (O : OnF P w K mg base g2 fdg2) (W : WithF P w K mg base g3 fdg3) (X1 : PErr K mg "NotSealed" XN) :
    FnOk P w K mg base (L2.CX P w) 3 f fd ["state", "hand", "box"] (spBreak K XH XN) := by
  refine F.okX scBreak (fun vs H Q E h => ?_) (fun cdv A outer s H vs Q E hr h => ?_)
  · obtain ⟨x, h, b, d, rfl, _⟩ := h
    rfl
  · obtain ⟨x, h, b, d, rfl, hx, hb, hL, h1, h2, kH, kS, kQ⟩ := h
    have hr1 : Room 1 _ := hr.mono (by decide)
    have tk : Takes (cxOf (L2.CX P w) P w K mg base ["state", "hand", "box", "seal"] "state_behind_break" (defScope sBreak) f cdv A outer s H E) (fun cls d _ H => E cls d H) := takes_of rfl rfl rfl rfl
    refine ⟨_, pss_cons (ps_expr (pe_call N.G hr rfl N.m N.k N.b .nil (passes_call tk (fun _ _ _ _ h => h)) (pa_cons (pv 0) (pa_cons (pv 1) (pa_cons (pe_tup (pa_cons pe_str (pa_cons (pv 2) pa_nil))) pa_nil)))))
      (pss_cons (ps_set (i := 3) scBreak.nd rfl (.inl rfl) (pe_call O.G hr1 rfl O.m O.k O.b .nil pass0 (pa_cons (pv 0) (pa_cons (pv 2) pa_nil))))
      (pss_cons (ps_if (pt_cmp (pc_isN (pv 3)))
      (pss_one (ps_raise rfl tk (SkE.pmk_own1 PySem.F.excBase_ValueError X1.ex X1.mg X1.kp (raises_own X1.sb X1.ty) rfl (pe_joined (.cons pe_str (.cons (pe_fmt (pv 2)) (.cons pe_str .nil))))))) pss_nil)
      (pss_one (ps_ret (pe_call W.G hr1 rfl W.m W.k W.b .nil pass0 (pa_cons (pv 0) (pa_cons (pe_tup (pa_cons pe_str (pa_cons (pv 3) pa_nil))) (pa_cons (pe_tup (pa_cons pe_str (pa_cons pe_int pa_nil))) pa_nil)))))))), ?_⟩
    obtain ⟨q, hq⟩ := where_box hb
    refine ⟨_, rfl, _, rfl, _, rfl, (by show 2 ≤ sizeLine; decide), fun t ht => ?_⟩
    have f1 := same_upd (o := HO.tup [.str ("box" : Str), .int (b : Nat)]) ht
    have dt : Dp K (L2.upd H t (.tup [.str ("box" : Str), .int (b : Nat)])) (.ref t) (itP (.box, b)) := .tup (SqT.of upd_same) (.cons (.str _) (.cons (.int _) .nil))
    generalize L2.upd H t (.tup [.str ("box" : Str), .int (b : Nat)]) = H1 at *
    refine ⟨x, .ref t, h, d, (.box, b), q, rfl, Dp.same f1 _ _ hx, dt, hq, h1, h2, fun c => (kH (by rw [hq]; exact fun z => c (Option.some.inj z))).same f1, fun c H2 e2 => ?_⟩
    have hq' : whereD d (.box, b) = some (.hand, (h : Int)) := by rw [hq, c]
    have e12 := f1.trans e2
    have l5 := sizeLine_eq
    have l1 : (Str.empty : Str).length = 0 := rfl
    have l2 : ("box " : Str).length = 4 := by decide +kernel
    have l4 : (" has no seal" : Str).length = 12 := by decide +kernel
    have l3 := digits_small (i := (b : Nat)) (by omega) (by omega)
    refine ⟨_, rfl, _, rfl, x, b, d, rfl, Dp.same e12 _ _ hx, fun hin H3 e3 => ?_, fun hno H3 e3 => ?_⟩
    · obtain ⟨⟨z, hz1, hz2⟩, _⟩ := on_some hin
      have e13 := e12.trans e3
      refine ⟨_, rfl, _, rfl, iteF ⟨_, rfl, _, rfl, (by show 2 ≤ sizeLine; decide), fun t1 ht1 => ⟨(by show 2 ≤ sizeLine; decide), fun t2 ht2 => ?_⟩⟩⟩
      have f2 := same_upd (o := HO.tup [.str ("seal" : Str), .int (onIx d b : Nat)]) ht1
      have f3 := same_upd (o := HO.tup [.str ("gone" : Str), .int 0]) ht2
      have e15 := (e13.trans f2).trans f3
      exact ⟨x, .ref t1, .ref t2, d, (.sl, onIx d b), (.gone, 0), rfl, Dp.same e15 _ _ hx, .tup (SqT.of (f3 _ _ upd_same)) (.cons (.str _) (.cons (.int _) .nil)), .tup (SqT.of upd_same) (.cons (.str _) (.cons (.int _) .nil)), where_lt (q := z) hz1, hL, fun v H' e dv => kQ hq' hin v H' (e15.trans e) dv⟩
    · exact ⟨_, rfl, _, rfl, iteT ⟨_, rfl, by rw [str_app]; omega, _, rfl, .inr ⟨_, rfl, log2_small (by omega) (by omega), _, rfl, by rw [str_app, str_app]; omega, _, rfl, by rw [str_app, str_app, str_app]; omega, kS hq' hno _ (e12.trans e3)⟩⟩⟩
structure BreakF (P : Program) (w : World) (K : PySem.W.Frag) (mg : Str → Option Value) (base : Heap) (XH XN g : Addr) (fd : FuncData) : Prop where
  G : FnOk P w K mg base (L2.CX P w) 3 g fd ["state", "hand", "box"] (spBreak K XH XN)
  m : mg "state_behind_break" = some (.ref g)
  k : PySem.W.keepIn K (.ref g) = true
  b : Binds K fd ["state", "hand", "box"] []
end
end Kw



set_option Elab.async false
set_option linter.all false
set_option maxRecDepth 100000
set_option maxHeartbeats 4000000
namespace Kw
open PySem PySem.Spec PyProof.Rows L2
theorem mGo_hit {w0 : Str} {rest : List V} {D : Ends} {σ : L2.St} {H : Hp} {c : MCase} {cs : List MCase} (h1 : c.slots.length = rest.length) (h2 : c.word = w0) (h : c.body D (setAll c.slots rest σ) H) : mGo w0 rest D σ H (c :: cs) := by
  show (if c.slots.length = rest.length ∧ c.word = w0 then _ else _)
  rw [if_pos ⟨h1, h2⟩]
  exact h
theorem mGo_miss {w0 : Str} {rest : List V} {D : Ends} {σ : L2.St} {H : Hp} {c : MCase} {cs : List MCase} (h2 : ¬ c.word = w0) (h : mGo w0 rest D σ H cs) : mGo w0 rest D σ H (c :: cs) := by
  show (if c.slots.length = rest.length ∧ c.word = w0 then _ else _)
  rw [if_neg (fun z => h2 z.2)]
  exact h
section
variable {P : Program} {w : World} {K : PySem.W.Frag} {mg : Str → Option Value} {base : Heap}
/-! ### state_behind -/
/-- the errors by their names -/
def spBehind (K : PySem.W.Frag) (ce : Str → Addr) : Sp := fun vs H Q E => ∃ (x y : V) (d : Hs) (e : Dd), vs = [x, y] ∧ Dp K H x (stD d) ∧ Dp K H y (ddD e) ∧ Kn d e ∧ Sm e ∧ Ls d ∧
  (∀ z, barOf d e = z → z ≠ "" → Rp (ce z) H E) ∧ (barOf d e = "" → ∀ v H', Same H H' → Dp K H' v (stD (nextOf d e)) → Q v H')
theorem scBehind : FnScope ["state", "deed", "hand", "item", "other", "box", "seal"] ["state", "deed"] (defScope sBehind) := ⟨rfl, rfl, rfl, by decide +kernel, rfl, by decide +kernel, by decide +kernel⟩
theorem nb1 : ("NotHeld" : Str) ≠ "" := by decide +kernel
theorem nb2 : ("IsSealed" : Str) ≠ "" := by decide +kernel
theorem nb3 : ("NotInside" : Str) ≠ "" := by decide +kernel
theorem nb4 : ("NotSealed" : Str) ≠ "" := by decide +kernel
theorem ok_behind {f gH gR gW gL gZ : Addr} {fd fdH fdR fdW fdL fdZ : FuncData} {ce : Str → Addr} (F : Fun K "state_behind" "state_behind" sBehind f fd) (N : HeldF P w K mg base (ce "NotHeld") gH fdH) (R : BareF P w K mg base (ce "NotHeld") (ce "IsSealed") gR fdR) (W : WithF P w K mg base gW fdW) (L : PlF P w K mg base gL fdL)
    (Z : BreakF P w K mg base (ce "NotHeld") (ce "NotSealed") gZ fdZ) (X1 : PErr K mg "NotInside" (ce "NotInside")) :
    FnOk P w K mg base (L2.CX P w) 4 f fd ["state", "deed"] (spBehind K ce) := by
  refine F.okX scBehind (fun vs H Q E h => ?_) (fun cdv A outer s H vs Q E hr h => ?_)
  · obtain ⟨x, y, d, e, rfl, _⟩ := h
    rfl
  · obtain ⟨x, y, d, e, rfl, hx, hy, hk, hm, hL, kE, kQ⟩ := h
    have hr1 : Room 1 _ := hr.mono (by decide)
    have hr2 : Room 2 _ := hr.mono (by decide)
    have hr3 : Room 3 _ := hr
    have tk : Takes (cxOf (L2.CX P w) P w K mg base ["state", "deed", "hand", "item", "other", "box", "seal"] "state_behind" (defScope sBehind) f cdv A outer s H E) (fun cls d _ H => E cls d H) := takes_of rfl rfl rfl rfl
    have hu : (cxOf (L2.CX P w) P w K mg base ["state", "deed", "hand", "item", "other", "box", "seal"] "state_behind" (defScope sBehind) f cdv A outer s H E).A.units + 64 < cLine := by have := hr.un; show (A.deeper _).units + 64 < cLine; omega
    refine ⟨_, (pss_cons (ps_match rfl scBehind.nd (pv 1) (.cons (.name (i := 2) rfl rfl (.name (i := 3) rfl rfl (.name (i := 4) rfl rfl .nil))) (pss_cons (ps_expr (pe_call N.G hr2 rfl N.m N.k N.b .nil (passes_call tk (fun _ _ _ _ h => h)) (pa_cons (pv 0) (pa_cons (pv 2) (pa_cons (pv 3) pa_nil)))))
        (pss_one (ps_ret (pe_call W.G hr1 rfl W.m W.k W.b .nil pass0 (pa_cons (pv 0) (pa_cons (pv 3) (pa_cons (pe_tup (pa_cons pe_str (pa_cons (pv 4) pa_nil))) pa_nil)))))))
      (.cons (.name (i := 2) rfl rfl (.name (i := 3) rfl rfl (.name (i := 5) rfl rfl .nil))) (pss_cons (ps_expr (pe_call N.G hr2 rfl N.m N.k N.b .nil (passes_call tk (fun _ _ _ _ h => h)) (pa_cons (pv 0) (pa_cons (pv 2) (pa_cons (pv 3) pa_nil)))))
        (pss_cons (ps_expr (pe_call R.G hr3 rfl R.m R.k R.b .nil (passes_call tk (fun _ _ _ _ h => h)) (pa_cons (pv 0) (pa_cons (pv 2) (pa_cons (pv 5) pa_nil)))))
        (pss_one (ps_ret (pe_call W.G hr1 rfl W.m W.k W.b .nil pass0 (pa_cons (pv 0) (pa_cons (pv 3) (pa_cons (pe_tup (pa_cons pe_str (pa_cons (pv 5) pa_nil))) pa_nil))))))))
      (.cons (.name (i := 2) rfl rfl (.name (i := 3) rfl rfl (.name (i := 5) rfl rfl .nil))) (pss_cons (ps_expr (pe_call R.G hr3 rfl R.m R.k R.b .nil (passes_call tk (fun _ _ _ _ h => h)) (pa_cons (pv 0) (pa_cons (pv 2) (pa_cons (pv 5) pa_nil)))))
        (pss_cons (ps_if (pt_cmpR (op_neD hu) (pe_call L.G hr1 rfl L.m L.k L.b .nil pass0 (pa_cons (pv 0) (pa_cons (pv 3) pa_nil))) (pe_tup (pa_cons pe_str (pa_cons (pv 5) pa_nil))) (nomark _)) (pss_one (ps_raise rfl tk (SkE.pmk_own1 PySem.F.excBase_ValueError X1.ex X1.mg X1.kp (raises_own X1.sb X1.ty) rfl (pe_joined (.cons (pe_fmtI hr1 (pv 3)) (.cons pe_str (.cons (pe_fmt (pv 5)) .nil))))))) pss_nil)
        (pss_one (ps_ret (pe_call W.G hr1 rfl W.m W.k W.b .nil pass0 (pa_cons (pv 0) (pa_cons (pv 3) (pa_cons (pe_tup (pa_cons pe_str (pa_cons (pv 2) pa_nil))) pa_nil))))))))
      (.cons (.name (i := 2) rfl rfl (.name (i := 5) rfl rfl (.name (i := 6) rfl rfl .nil))) (pss_cons (ps_expr (pe_call N.G hr2 rfl N.m N.k N.b .nil (passes_call tk (fun _ _ _ _ h => h)) (pa_cons (pv 0) (pa_cons (pv 2) (pa_cons (pe_tup (pa_cons pe_str (pa_cons (pv 6) pa_nil))) pa_nil)))))
        (pss_cons (ps_expr (pe_call R.G hr3 rfl R.m R.k R.b .nil (passes_call tk (fun _ _ _ _ h => h)) (pa_cons (pv 0) (pa_cons (pv 2) (pa_cons (pv 5) pa_nil)))))
        (pss_one (ps_ret (pe_call W.G hr1 rfl W.m W.k W.b .nil pass0 (pa_cons (pv 0) (pa_cons (pe_tup (pa_cons pe_str (pa_cons (pv 6) pa_nil))) (pa_cons (pe_tup (pa_cons pe_str (pa_cons (pv 5) pa_nil))) pa_nil))))))))
      .nil)))))
      (pss_one (ps_ret (pe_call Z.G hr3 rfl Z.m Z.k Z.b .nil (passes_call tk (fun _ _ _ _ h => h)) (pa_cons (pv 0) (pa_cons (pe_ix ix_tup (pv 1) pe_int (fun _ _ => rfl)) (pa_cons (pe_ix ix_tup (pv 1) pe_int (fun _ _ => rfl)) pa_nil))))))), ?_⟩
    obtain ⟨yd, vs, rfl, sy, dvs⟩ := dd_at hy
    have kH : ∀ z, barOf d e = z → z ≠ "" → Rp (ce z) H E := kE
    have tl : ∀ (H1 : Hp) (t : Addr) (wd : Wd) (n : Nat), H1 t = none → Dp K (L2.upd H1 t (.tup [.str wd.str, .int (n : Nat)])) (.ref t) (plD (wd, (n : Int))) := fun H1 t wd n h => .tup (SqT.of upd_same) (.cons (.str _) (.cons (.int _) .nil))
    refine ⟨_, rfl, yd, e.word, _, rfl, sy, ?_⟩
    cases e with
    | give h p o =>
      obtain ⟨m1, m2, m3⟩ := hm
      cases dvs with
      | cons dp r =>
      cases r with
      | cons do_ r =>
      cases r
      cases do_
      obtain ⟨q, hq⟩ := Option.isSome_iff_exists.mp (show (whereD d p).isSome from hk)
      have eb : barOf d (.give h p o) = if q = (.hand, (h : Int)) then ("" : Str) else ("NotHeld" : Str) := by
        simp only [barOf, hq, Option.some.injEq]
      dsimp only [Dd.word, Dd.hand] at *
      refine mGo_hit rfl rfl ?_
      refine ⟨_, rfl, _, rfl, _, rfl, x, _, h, d, p, q, rfl, hx, dp, hq, m1, m2, fun c => kE _ (by rw [eb, if_neg c]) nb1, fun c H1 e1 => ?_⟩
      refine ⟨_, rfl, _, rfl, _, rfl, (by show 2 ≤ sizeLine; decide), fun t ht => ?_⟩
      have f1 := same_upd (o := HO.tup [.str ("hand" : Str), .int (o : Nat)]) ht
      have e2 := e1.trans f1
      exact ⟨x, _, .ref t, d, p, (.hand, (o : Int)), rfl, Dp.same e2 _ _ hx, Dp.same e2 _ _ dp, tl _ t .hand o ht, where_lt hq, hL, fun v H' e dv => kQ (by rw [eb, if_pos c]) v H' (e2.trans e) dv⟩
    | put h p b =>
      obtain ⟨m1, m2, m3⟩ := hm
      obtain ⟨hk1, hb⟩ := hk
      cases dvs with
      | cons dp r =>
      cases r with
      | cons do_ r =>
      cases r
      cases do_
      obtain ⟨q, hq⟩ := Option.isSome_iff_exists.mp hk1
      dsimp only [Dd.word, Dd.hand] at *
      refine mGo_miss (by dsimp only; decide +kernel) (mGo_hit rfl rfl ?_)
      by_cases c0 : ¬ q = (.hand, (h : Int))
      · -- the item is not held: what comes first does not matter
        refine ⟨_, rfl, _, rfl, _, rfl, x, _, h, d, p, q, rfl, hx, dp, hq, m1, m2, fun c => kE _ ?_ nb1, fun c => absurd c c0⟩
        simp only [barOf, hq, Option.some.injEq, if_neg c0]
        split <;> rfl
      have c0 := Classical.not_not.mp c0
      refine ⟨_, rfl, _, rfl, _, rfl, x, _, h, d, p, q, rfl, hx, dp, hq, m1, m2, fun c => absurd c0 c, fun c H1 e1 => ?_⟩
      refine ⟨_, rfl, _, rfl, _, rfl, x, h, b, d, rfl, Dp.same e1 _ _ hx, hb, m1, m3, fun z => (kE _ ?_ nb1).same e1, fun z1 z2 => (kE _ ?_ nb2).same e1, fun z1 z2 H2 e2 => ?_⟩
      · simp only [barOf, if_neg z]
      · simp only [barOf, if_pos z1, hq, Option.some.injEq, if_pos c0, if_pos z2]
      have e12 := e1.trans e2
      refine ⟨_, rfl, _, rfl, _, rfl, (by show 2 ≤ sizeLine; decide), fun t ht => ?_⟩
      have f1 := same_upd (o := HO.tup [.str ("box" : Str), .int (b : Nat)]) ht
      have e3 := e12.trans f1
      refine ⟨x, _, .ref t, d, p, (.box, (b : Int)), rfl, Dp.same e3 _ _ hx, Dp.same e3 _ _ dp, tl _ t .box b ht, where_lt hq, hL, fun v H' e dv => kQ ?_ v H' (e3.trans e) dv⟩
      simp only [barOf, if_pos z1, hq, Option.some.injEq, if_pos c0, if_neg z2]
    | take h p b =>
      obtain ⟨m1, m2, m3⟩ := hm
      obtain ⟨hk1, hb⟩ := hk
      cases dvs with
      | cons dp r =>
      cases r with
      | cons do_ r =>
      cases r
      cases do_
      obtain ⟨q, hq⟩ := Option.isSome_iff_exists.mp hk1
      obtain ⟨ip, rfl, sp⟩ := it_at dp
      dsimp only [Dd.word, Dd.hand] at *
      refine mGo_miss (by dsimp only; decide +kernel) (mGo_miss (by dsimp only; decide +kernel) (mGo_hit rfl rfl ?_))
      refine ⟨_, rfl, _, rfl, _, rfl, x, h, b, d, rfl, hx, hb, m1, m3, fun z => kE _ ?_ nb1, fun z1 z2 => kE _ ?_ nb2, fun z1 z2 H2 e2 => ?_⟩
      · simp only [barOf, if_neg z]
      · simp only [barOf, if_pos z1, if_pos z2]
      refine ⟨_, rfl, _, rfl, x, _, d, p, q, rfl, Dp.same e2 _ _ hx, Dp.same e2 _ _ dp, hq, fun v H3 e3 dv => ?_⟩
      refine ⟨_, rfl, (by show 2 ≤ sizeLine; decide), fun t ht => ?_⟩
      have f1 := same_upd (o := HO.tup [.str ("box" : Str), .int (b : Nat)]) ht
      refine ⟨plD q, plD (.box, (b : Int)), Dp.same f1 _ _ dv, tl _ t .box b ht, shaped_pl _, shaped_pl _, _, rfl, ?_⟩
      rw [eqv_pl]
      have e4 := (e2.trans e3).trans f1
      by_cases c : q = (.box, (b : Int))
      · rw [decide_eq_true c]
        refine iteF ⟨_, rfl, _, rfl, _, rfl, (by show 2 ≤ sizeLine; decide), fun t2 ht2 => ?_⟩
        have f2 := same_upd (o := HO.tup [.str ("hand" : Str), .int (h : Nat)]) ht2
        have e5 := e4.trans f2
        refine ⟨x, _, .ref t2, d, p, (.hand, (h : Int)), rfl, Dp.same e5 _ _ hx, Dp.same e5 _ _ dp, tl _ t2 .hand h ht2, where_lt hq, hL, fun v H' e dv => kQ ?_ v H' (e5.trans e) dv⟩
        simp only [barOf, if_pos z1, if_neg z2, hq, Option.some.injEq, if_pos c]
      · rw [decide_eq_false c]
        have l5 := sizeLine_eq
        have l1 : (Str.empty : Str).length = 0 := rfl
        have l2 : (" is not straight in box " : Str).length = 24 := by decide +kernel
        have l3 := digits_small (i := (b : Nat)) (by omega) (by omega)
        refine iteT ⟨_, rfl, ip, _, _, rfl, SqT.same e4 sp, (kd_len _).1, (kd_len _).2, by omega, by omega, fun m hm => ⟨_, rfl, by rw [str_app]; omega, _, rfl, by rw [str_app, str_app]; omega, _, rfl, .inr ⟨_, rfl, log2_small (by omega) (by omega), _, rfl, by rw [str_app, str_app, str_app]; omega, kE _ ?_ nb3 _ e4⟩⟩⟩
        simp only [barOf, if_pos z1, if_neg z2, hq, Option.some.injEq, if_neg c]
    | lock h b s =>
      obtain ⟨m1, m2, m3⟩ := hm
      obtain ⟨hb, hsl⟩ := hk
      cases dvs with
      | cons dp r =>
      cases r with
      | cons do_ r =>
      cases r
      cases do_
      cases dp
      obtain ⟨q, hq⟩ : ∃ q, d.ss[s]? = some q := ⟨_, List.getElem?_eq_getElem hsl⟩
      have hq' : whereD d (.sl, s) = some q := hq
      dsimp only [Dd.word, Dd.hand] at *
      refine mGo_miss (by dsimp only; decide +kernel) (mGo_miss (by dsimp only; decide +kernel) (mGo_miss (by dsimp only; decide +kernel) (mGo_hit rfl rfl ?_)))
      refine ⟨_, rfl, _, rfl, _, rfl, (by show 2 ≤ sizeLine; decide), fun t1 ht1 => ?_⟩
      have f1 := same_upd (o := HO.tup [.str ("seal" : Str), .int (s : Nat)]) ht1
      have ds : Dp K (L2.upd H t1 (.tup [.str ("seal" : Str), .int (s : Nat)])) (.ref t1) (itP (.sl, s)) := .tup (SqT.of upd_same) (.cons (.str _) (.cons (.int _) .nil))
      by_cases c0 : ¬ q = (.hand, (h : Int))
      · refine ⟨x, .ref t1, h, d, (.sl, s), q, rfl, Dp.same f1 _ _ hx, ds, hq', m1, m3, fun c => (kE _ ?_ nb1).same f1, fun c => absurd c c0⟩
        simp only [barOf, hq, Option.some.injEq, if_neg c0]
        split <;> rfl
      have c0 := Classical.not_not.mp c0
      refine ⟨x, .ref t1, h, d, (.sl, s), q, rfl, Dp.same f1 _ _ hx, ds, hq', m1, m3, fun c => absurd c0 c, fun c H1 e1 => ?_⟩
      have e1 := f1.trans e1
      refine ⟨_, rfl, _, rfl, _, rfl, x, h, b, d, rfl, Dp.same e1 _ _ hx, hb, m1, m2, fun z => (kE _ ?_ nb1).same e1, fun z1 z2 => (kE _ ?_ nb2).same e1, fun z1 z2 H2 e2 => ?_⟩
      · simp only [barOf, if_neg z]
      · simp only [barOf, if_pos z1, hq, Option.some.injEq, if_pos c0, if_pos z2]
      have e12 := e1.trans e2
      refine ⟨_, rfl, _, rfl, (by show 2 ≤ sizeLine; decide), fun t2 ht2 => ?_⟩
      have f2 := same_upd (o := HO.tup [.str ("seal" : Str), .int (s : Nat)]) ht2
      have ds2 : Dp K (L2.upd H2 t2 (.tup [.str ("seal" : Str), .int (s : Nat)])) (.ref t2) (itP (.sl, s)) := .tup (SqT.of upd_same) (.cons (.str _) (.cons (.int _) .nil))
      refine ⟨_, rfl, (by show 2 ≤ sizeLine; decide), fun t ht => ?_⟩
      have f3 := same_upd (o := HO.tup [.str ("box" : Str), .int (b : Nat)]) ht
      have e3 := (e12.trans f2).trans f3
      refine ⟨x, .ref t2, .ref t, d, (.sl, s), (.box, (b : Int)), rfl, Dp.same e3 _ _ hx, Dp.same f3 _ _ ds2, tl _ t .box b ht, hsl, hL, fun v H' e dv => kQ ?_ v H' (e3.trans e) dv⟩
      simp only [barOf, if_pos z1, hq, Option.some.injEq, if_pos c0, if_neg z2]
    | brk h b =>
      obtain ⟨m1, m2⟩ := hm
      have hb : b < d.bs.length := hk
      cases dvs with
      | cons dp r =>
      cases r
      cases dp
      dsimp only [Dd.word, Dd.hand] at *
      refine mGo_miss (by dsimp only; decide +kernel) (mGo_miss (by dsimp only; decide +kernel) (mGo_miss (by dsimp only; decide +kernel) (mGo_miss (by dsimp only; decide +kernel) ?_)))
      refine ⟨_, rfl, _, rfl, yd, _, 1, _, rfl, rfl, sy, rfl, _, rfl, yd, _, 2, _, rfl, rfl, sy, rfl, x, h, b, d, rfl, hx, hb, hL, m1, m2, fun z => kE _ ?_ nb1, fun z1 z2 => kE _ ?_ nb4, fun z1 z2 v H' e dv => kQ ?_ v H' e dv⟩
      · simp only [barOf, if_neg z]
      · simp only [barOf, if_pos z1, if_neg z2]
      · simp only [barOf, if_pos z1, if_pos z2]
/-! ### need_move, need_deed -/
structure NLoadF (P : Program) (w : World) (K : PySem.W.Frag) (mg : Str → Option Value) (base : Heap) (C X g : Addr) (fd : FuncData) : Prop where
  G : FnOk P w K mg base (L2N.CX P w) 3 g fd ["house", "item"] (spNLoad K C X)
  m : mg "need_load" = some (.ref g)
  k : PySem.W.keepIn K (.ref g) = true
  b : Binds K fd ["house", "item"] []
structure NItemF (P : Program) (w : World) (K : PySem.W.Frag) (mg : Str → Option Value) (base : Heap) (C X g : Addr) (fd : FuncData) : Prop where
  G : FnOk P w K mg base (L2N.CX P w) 3 g fd ["house", "item"] (spNItem K C X)
  m : mg "need_item" = some (.ref g)
  k : PySem.W.keepIn K (.ref g) = true
  b : Binds K fd ["house", "item"] []
structure NHandF (P : Program) (w : World) (K : PySem.W.Frag) (mg : Str → Option Value) (base : Heap) (C X g : Addr) (fd : FuncData) : Prop where
  G : FnOk P w K mg base (L2N.CX P w) 2 g fd ["house", "hand"] (spNHand K C X)
  m : mg "need_hand" = some (.ref g)
  k : PySem.W.keepIn K (.ref g) = true
  b : Binds K fd ["house", "hand"] []
structure NBoxF (P : Program) (w : World) (K : PySem.W.Frag) (mg : Str → Option Value) (base : Heap) (C X g : Addr) (fd : FuncData) : Prop where
  G : FnOk P w K mg base (L2N.CX P w) 2 g fd ["house", "box"] (spNBox K C X)
  m : mg "need_box" = some (.ref g)
  k : PySem.W.keepIn K (.ref g) = true
  b : Binds K fd ["house", "box"] []
structure NSealF (P : Program) (w : World) (K : PySem.W.Frag) (mg : Str → Option Value) (base : Heap) (C X g : Addr) (fd : FuncData) : Prop where
  G : FnOk P w K mg base (L2N.CX P w) 2 g fd ["house", "seal"] (spNSeal K C X)
  m : mg "need_seal" = some (.ref g)
  k : PySem.W.keepIn K (.ref g) = true
  b : Binds K fd ["house", "seal"] []
def mvOf (d : Hs) (p : It) (b : Nat) : Str := if ¬ inH d p ∨ p.1 = .sl then "UnknownItem" else if d.bs.length ≤ b then "UnknownBox" else if p = (.box, b) then "InsideItself" else ""
def spNMove (K : PySem.W.Frag) (C : Addr) (ce : Str → Addr) : Sp := fun vs H Q E => ∃ (h : Addr) (y : V) (p : It) (b : Nat) (d : Hs), vs = [.ref h, y, .int (b : Nat)] ∧ HouseAt K C H h d ∧ Dp K H y (itP p) ∧ p.2 ≤ 1000 ∧ b ≤ 1000 ∧
  (∀ z, mvOf d p b = z → z ≠ "" → Rp (ce z) H E) ∧ (mvOf d p b = "" → ∀ H', Same H H' → Q .non H')
theorem scNMove : FnScope ["house", "item", "box"] ["house", "item", "box"] (defScope sNMove) := ⟨rfl, rfl, rfl, by decide +kernel, rfl, by decide +kernel, by decide +kernel⟩
theorem ok_nmove {f g1 g2 C : Addr} {fd fd1 fd2 : FuncData} {ce : Str → Addr} (F : Fun K "need_move" "need_move" sNMove f fd) (NL : NLoadF P w K mg base C (ce "UnknownItem") g1 fd1) (NB : NBoxF P w K mg base C (ce "UnknownBox") g2 fd2) (X1 : PErr K mg "InsideItself" (ce "InsideItself")) :
    FnOk P w K mg base (L2N.CX P w) 4 f fd ["house", "item", "box"] (spNMove K C ce) := by
  refine okN F scNMove (fun vs H Q E h => ?_) (fun cdv A outer s H vs Q E hr h => ?_)
  · obtain ⟨h, y, p, b, d, rfl, _⟩ := h
    rfl
  · obtain ⟨h, y, p, b, d, rfl, hh, hy, m1, m2, kE, kQ⟩ := h
    have hr2 : Room 2 _ := hr.mono (by decide)
    have hr3 : Room 3 _ := hr
    have tk : L2N.Takes (cxOf (L2N.CX P w) P w K mg base ["house", "item", "box"] "need_move" (defScope sNMove) f cdv A outer s H E) (fun cls d _ H => E cls d H) := L2N.takes_of rfl rfl rfl rfl
    have hu : (cxOf (L2N.CX P w) P w K mg base ["house", "item", "box"] "need_move" (defScope sNMove) f cdv A outer s H E).A.units + 64 < cLine := by have := hr.un; show (A.deeper _).units + 64 < cLine; omega
    refine ⟨_, (pss_cons (ps_expr (pe_call NL.G hr3 rfl NL.m NL.k NL.b .nil (L2N.passes_call tk (fun _ _ _ _ h => h)) (pa_cons (pv 0) (pa_cons (pv 1) pa_nil))))
        (pss_cons (ps_expr (pe_call NB.G hr2 rfl NB.m NB.k NB.b .nil (L2N.passes_call tk (fun _ _ _ _ h => h)) (pa_cons (pv 0) (pa_cons (pv 2) pa_nil))))
        (pss_one (ps_if (pt_cmpR (op_eqD hu) (pv 1) (pe_tup (pa_cons pe_str (pa_cons (pv 2) pa_nil))) (nomark _)) (pss_one (L2N.ps_raise rfl tk (pmk_own1N PySem.F.excBase_ValueError X1.ex X1.mg X1.kp (raises_own X1.sb X1.ty) rfl (pe_joined (.cons pe_str (.cons (pe_fmt (pv 2)) (.cons pe_str .nil))))))) pss_nil)))), ?_⟩
    refine ⟨_, rfl, _, rfl, h, y, p, d, rfl, hh, hy, m1, fun z => kE _ (by unfold mvOf; rw [if_pos z]) ne_e2, fun z => ?_⟩
    refine ⟨_, rfl, _, rfl, h, b, d, rfl, hh, m2, fun z2 => kE _ (by unfold mvOf; rw [if_neg z, if_pos z2]) ne_e3, fun z2 => ?_⟩
    refine ⟨_, rfl, _, rfl, (by show 2 ≤ sizeLine; decide), fun t ht => ?_⟩
    have f1 := same_upd (o := HO.tup [.str ("box" : Str), .int (b : Nat)]) ht
    refine ⟨itP p, itP (.box, b), Dp.same f1 _ _ hy, .tup (SqT.of upd_same) (.cons (.str _) (.cons (.int _) .nil)), shaped_it _, shaped_it _, _, rfl, ?_⟩
    rw [eqv_it]
    have z3 : ¬ d.bs.length ≤ b := by omega
    by_cases c : p = (.box, b)
    · rw [decide_eq_true c]
      have l5 := sizeLine_eq
      have l1 : (Str.empty : Str).length = 0 := rfl
      have l2 : ("box " : Str).length = 4 := by decide +kernel
      have l4 : (" cannot be inside itself" : Str).length = 24 := by decide +kernel
      have l3 := digits_small (i := (b : Nat)) (by omega) (by omega)
      exact iteT ⟨_, rfl, by rw [str_app]; omega, _, rfl, .inr ⟨_, rfl, log2_small (by omega) (by omega), _, rfl, by rw [str_app, str_app]; omega, _, rfl, by rw [str_app, str_app, str_app]; omega, kE _ (by unfold mvOf; rw [if_neg z, if_neg z3, if_pos c]) ne_e4 _ f1⟩⟩
    · rw [decide_eq_false c]
      exact iteF (kQ (by unfold mvOf; rw [if_neg z, if_neg z3, if_neg c]) _ f1)
structure NMoveF (P : Program) (w : World) (K : PySem.W.Frag) (mg : Str → Option Value) (base : Heap) (C : Addr) (ce : Str → Addr) (g : Addr) (fd : FuncData) : Prop where
  G : FnOk P w K mg base (L2N.CX P w) 4 g fd ["house", "item", "box"] (spNMove K C ce)
  m : mg "need_move" = some (.ref g)
  k : PySem.W.keepIn K (.ref g) = true
  b : Binds K fd ["house", "item", "box"] []
def spNDeed (K : PySem.W.Frag) (C : Addr) (ce : Str → Addr) : Sp := fun vs H Q E => ∃ (h : Addr) (y : V) (e : Dd) (d : Hs), vs = [.ref h, y] ∧ HouseAt K C H h d ∧ Dp K H y (ddD e) ∧ Sm e ∧
  (∀ z, unkOf d e = z → z ≠ "" → Rp (ce z) H E) ∧ (unkOf d e = "" → ∀ H', Same H H' → Q .non H')
theorem scNDeed : FnScope ["house", "deed", "hand", "item", "other", "box", "seal"] ["house", "deed"] (defScope sNDeed) := ⟨rfl, rfl, rfl, by decide +kernel, rfl, by decide +kernel, by decide +kernel⟩
theorem sm_hand {e : Dd} (h : Sm e) : e.hand ≤ 1000 := by cases e <;> exact h.1
theorem ok_ndeed {f gI gH gM gB gS C : Addr} {fd fdI fdH fdM fdB fdS : FuncData} {ce : Str → Addr} (F : Fun K "need_deed" "need_deed" sNDeed f fd) (NI : NItemF P w K mg base C (ce "UnknownItem") gI fdI) (NH : NHandF P w K mg base C (ce "UnknownHand") gH fdH) (NM : NMoveF P w K mg base C ce gM fdM)
    (NB : NBoxF P w K mg base C (ce "UnknownBox") gB fdB) (NS : NSealF P w K mg base C (ce "UnknownSeal") gS fdS) (X1 : PErr K mg "UnknownHand" (ce "UnknownHand")) :
    FnOk P w K mg base (L2N.CX P w) 5 f fd ["house", "deed"] (spNDeed K C ce) := by
  refine okN F scNDeed (fun vs H Q E h => ?_) (fun cdv A outer s H vs Q E hr h => ?_)
  · obtain ⟨h, y, e, d, rfl, _⟩ := h
    rfl
  · obtain ⟨h, y, e, d, rfl, hh, hy, hm, kE, kQ⟩ := h
    have hr2 : Room 2 _ := hr.mono (by decide)
    have hr3 : Room 3 _ := hr.mono (by decide)
    have hr4 : Room 4 _ := hr
    have tk : L2N.Takes (cxOf (L2N.CX P w) P w K mg base ["house", "deed", "hand", "item", "other", "box", "seal"] "need_deed" (defScope sNDeed) f cdv A outer s H E) (fun cls d _ H => E cls d H) := L2N.takes_of rfl rfl rfl rfl
    refine ⟨_, (pss_cons (ps_expr (pe_call NH.G hr2 rfl NH.m NH.k NH.b .nil (L2N.passes_call tk (fun _ _ _ _ h => h)) (pa_cons (pv 0) (pa_cons (pe_ix ix_tup (pv 1) pe_int (fun _ _ => rfl)) pa_nil))))
      (pss_one (ps_match rfl scNDeed.nd (pv 1) (.cons (.name (i := 2) rfl rfl (.name (i := 3) rfl rfl (.name (i := 4) rfl rfl .nil))) (pss_cons (ps_expr (pe_call NI.G hr3 rfl NI.m NI.k NI.b .nil (L2N.passes_call tk (fun _ _ _ _ h => h)) (pa_cons (pv 0) (pa_cons (pv 3) pa_nil))))
        (pss_cons (ps_expr (pe_call NH.G hr2 rfl NH.m NH.k NH.b .nil (L2N.passes_call tk (fun _ _ _ _ h => h)) (pa_cons (pv 0) (pa_cons (pv 4) pa_nil))))
        (pss_one (ps_if (pt_cmpR op_eq (pv 2) (pv 4) (nomark _)) (pss_one (L2N.ps_raise rfl tk (pmk_own1N PySem.F.excBase_ValueError X1.ex X1.mg X1.kp (raises_own X1.sb X1.ty) rfl (pe_joined (.cons pe_str (.cons (pe_fmt (pv 2)) (.cons pe_str .nil))))))) pss_nil))))
      (.cons (.wild (.name (i := 3) rfl rfl (.name (i := 5) rfl rfl .nil))) (pss_one (ps_expr (pe_call NM.G hr4 rfl NM.m NM.k NM.b .nil (L2N.passes_call tk (fun _ _ _ _ h => h)) (pa_cons (pv 0) (pa_cons (pv 3) (pa_cons (pv 5) pa_nil))))))
      (.cons (.wild (.name (i := 3) rfl rfl (.name (i := 5) rfl rfl .nil))) (pss_one (ps_expr (pe_call NM.G hr4 rfl NM.m NM.k NM.b .nil (L2N.passes_call tk (fun _ _ _ _ h => h)) (pa_cons (pv 0) (pa_cons (pv 3) (pa_cons (pv 5) pa_nil))))))
      (.cons (.wild (.name (i := 5) rfl rfl (.name (i := 6) rfl rfl .nil))) (pss_cons (ps_expr (pe_call NB.G hr2 rfl NB.m NB.k NB.b .nil (L2N.passes_call tk (fun _ _ _ _ h => h)) (pa_cons (pv 0) (pa_cons (pv 5) pa_nil))))
        (pss_one (ps_expr (pe_call NS.G hr2 rfl NS.m NS.k NS.b .nil (L2N.passes_call tk (fun _ _ _ _ h => h)) (pa_cons (pv 0) (pa_cons (pv 6) pa_nil))))))
      (.cons (.wild (.name (i := 5) rfl rfl .nil)) (pss_one (ps_expr (pe_call NB.G hr2 rfl NB.m NB.k NB.b .nil (L2N.passes_call tk (fun _ _ _ _ h => h)) (pa_cons (pv 0) (pa_cons (pv 5) pa_nil)))))
      .nil)))))))), ?_⟩
    obtain ⟨yd, vs, rfl, sy, dvs⟩ := dd_at hy
    have sh := sm_hand hm
    have z1 := Same.refl H
    unfold unkOf at kE kQ
    refine ⟨_, rfl, _, rfl, yd, _, 1, _, rfl, rfl, sy, atI_nat (j := 1) rfl, h, (e.hand : Nat), d, rfl, hh, by omega, by omega, fun z => kE _ (if_pos z) ne_e1, fun z => ?_⟩
    have z' : ¬ d.hands ≤ ((e.hand : Nat) : Int) := by omega
    simp only [if_neg z'] at kE kQ
    refine ⟨_, rfl, yd, e.word, _, rfl, sy, ?_⟩
    cases e with
    | give hd p o =>
      obtain ⟨m1, m2, m3⟩ := hm
      cases dvs with
      | cons dp r =>
      cases r with
      | cons do_ r =>
      cases r
      cases do_
      dsimp only [Dd.word, Dd.hand] at *
      refine mGo_hit rfl rfl ?_
      refine ⟨_, rfl, _, rfl, h, _, p, d, rfl, hh, dp, m2, fun c => kE _ (if_pos c) ne_e2, fun c => ?_⟩
      have c' : ¬ ¬ inH d p := fun q => q c
      simp only [if_neg c'] at kE kQ
      refine ⟨_, rfl, _, rfl, h, (o : Nat), d, rfl, hh, by omega, by omega, fun c2 => kE _ (if_pos (.inl c2)) ne_e1, fun c2 => ?_⟩
      refine ⟨_, rfl, _, rfl, rfl, _, rfl, ?_⟩
      rw [decZ]
      by_cases c3 : ((hd : Nat) : Int) = ((o : Nat) : Int)
      · rw [decide_eq_true c3]
        have l5 := sizeLine_eq
        have l1 : (Str.empty : Str).length = 0 := rfl
        have l2 : ("hand " : Str).length = 5 := by decide +kernel
        have l4 : (" gives to itself" : Str).length = 16 := by decide +kernel
        have l3 := digits_small (i := (hd : Nat)) (by omega) (by omega)
        exact iteT ⟨_, rfl, by rw [str_app]; omega, _, rfl, .inr ⟨_, rfl, log2_small (by omega) (by omega), _, rfl, by rw [str_app, str_app]; omega, _, rfl, by rw [str_app, str_app, str_app]; omega, kE _ (if_pos (.inr (by omega))) ne_e1 _ z1⟩⟩
      · rw [decide_eq_false c3]
        exact iteF (kQ (if_neg fun q => q.elim (fun a => by omega) (fun a => c3 (by omega))) _ z1)
    | put hd p b =>
      obtain ⟨m1, m2, m3⟩ := hm
      cases dvs with
      | cons dp r =>
      cases r with
      | cons do_ r =>
      cases r
      cases do_
      dsimp only [Dd.word, Dd.hand] at *
      refine mGo_miss (by dsimp only; decide +kernel) (mGo_hit rfl rfl ?_)
      exact ⟨_, rfl, _, rfl, _, rfl, h, _, p, b, d, rfl, hh, dp, m2, m3, kE, kQ⟩
    | take hd p b =>
      obtain ⟨m1, m2, m3⟩ := hm
      cases dvs with
      | cons dp r =>
      cases r with
      | cons do_ r =>
      cases r
      cases do_
      dsimp only [Dd.word, Dd.hand] at *
      refine mGo_miss (by dsimp only; decide +kernel) (mGo_miss (by dsimp only; decide +kernel) (mGo_hit rfl rfl ?_))
      exact ⟨_, rfl, _, rfl, _, rfl, h, _, p, b, d, rfl, hh, dp, m2, m3, kE, kQ⟩
    | lock hd b s =>
      obtain ⟨m1, m2, m3⟩ := hm
      cases dvs with
      | cons dp r =>
      cases r with
      | cons do_ r =>
      cases r
      cases do_
      cases dp
      dsimp only [Dd.word, Dd.hand] at *
      refine mGo_miss (by dsimp only; decide +kernel) (mGo_miss (by dsimp only; decide +kernel) (mGo_miss (by dsimp only; decide +kernel) (mGo_hit rfl rfl ?_)))
      refine ⟨_, rfl, _, rfl, h, b, d, rfl, hh, m2, fun c => kE _ (if_pos c) ne_e3, fun c => ?_⟩
      have c' : ¬ d.bs.length ≤ b := by omega
      simp only [if_neg c'] at kE kQ
      exact ⟨_, rfl, _, rfl, h, s, d, rfl, hh, m3, fun c2 => kE _ (if_pos c2) ne_e5, fun c2 => kQ (if_neg (by omega)) _ z1⟩
    | brk hd b =>
      obtain ⟨m1, m2⟩ := hm
      cases dvs with
      | cons dp r =>
      cases r
      cases dp
      dsimp only [Dd.word, Dd.hand] at *
      refine mGo_miss (by dsimp only; decide +kernel) (mGo_miss (by dsimp only; decide +kernel) (mGo_miss (by dsimp only; decide +kernel) (mGo_miss (by dsimp only; decide +kernel) (mGo_hit rfl rfl ?_))))
      exact ⟨_, rfl, _, rfl, h, b, d, rfl, hh, m2, fun c => kE _ (if_pos c) ne_e3, fun c => kQ (if_neg (by omega)) _ z1⟩
end
end Kw




set_option Elab.async false
set_option linter.all false
set_option maxRecDepth 100000
set_option maxHeartbeats 4000000
namespace Kw
open PySem PySem.Spec PyProof.Rows L2
/-! ### _law_error, of any of the plain errors -/
abbrev sWInit : Stmt := inClass (top 62) 0
/-! ### worlds -/
structure WorldC (K : PySem.W.Frag) (CW : Addr) : Prop where
  cl : Cls K CW
  nH : NoAttr K CW "house"
  nS : NoAttr K CW "state"
structure WorldAt (K : PySem.W.Frag) (CW : Addr) (H : Hp) (a h : Addr) (d : Hs) : Prop where
  ex : ∃ dx fs vst, H a = some (.ins CW dx fs) ∧ fs.lookup ("house" : Str) = some (.ref h) ∧ fs.lookup ("state" : Str) = some vst ∧ (∀ x : Str, ¬ x = "house" → ¬ x = "state" → fs.lookup x = none) ∧ fs.length ≤ 100 ∧ Dp K H vst (stD d)
theorem WorldAt.nl {K : PySem.W.Frag} {CW : Addr} {H H' : Hp} {a h : Addr} {d : Hs} (k : Nl H H') (x : WorldAt K CW H a h d) : WorldAt K CW H' a h d := by
  obtain ⟨dx, fs, vst, h0, h1, h2, h3, h4, h5⟩ := x.ex
  exact ⟨dx, fs, vst, k _ _ h0 (fun _ z => nomatch z) (fun _ z => nomatch z), h1, h2, h3, h4, Dp.nl k _ _ (noL_st _) h5⟩
theorem WorldAt.same {K : PySem.W.Frag} {CW : Addr} {H H' : Hp} {a h : Addr} {d : Hs} (k : Same H H') (x : WorldAt K CW H a h d) : WorldAt K CW H' a h d := x.nl (nl_same k)
section
variable {P : Program} {w : World} {K : PySem.W.Frag} {mg : Str → Option Value} {base : Heap}
def spWInit (K : PySem.W.Frag) (C CW : Addr) : Sp := fun vs H Q _ => ∃ (a dx h : Addr) (d : Hs), vs = [.ref a, .ref h] ∧ H a = some (.ins CW dx []) ∧ HouseAt K C H h d ∧ (∀ H', But a H H' → WorldAt K CW H' a h d → (∃ dy fs, H' a = some (.ins CW dy fs) ∧ fs.length ≤ 10) → Q .non H')
theorem scWInit : FnScope ["self", "house"] ["self", "house"] (defScope sWInit) := ⟨rfl, rfl, rfl, by decide +kernel, rfl, by decide +kernel, by decide +kernel⟩
theorem but_ins {a C dx : Addr} {fs : List (Str × V)} {H H' : Hp} (ha : H a = some (.ins C dx fs)) (b : But a H H') {v : V} {d : PyData} (hn : noL d = true) (h : Dp K H v d) : Dp K H' v d :=
  Dp.tp (fun c xs e => by
    rcases e with e | ⟨o, e⟩
    · exact .inl (b c _ e (ne_of e ha (by intro z; cases z)))
    · exact .inr ⟨o, b c _ e (ne_of e ha (by intro z; cases z))⟩) _ _ hn h
theorem ok_winit {f C CW : Addr} {fd : FuncData} (F : Fun K "__init__" "World.__init__" sWInit f fd) (T : HouseC K C) (W : WorldC K CW) : FnOk P w K mg base CX0 1 f fd ["self", "house"] (spWInit K C CW) := by
  refine F.ok scWInit (fun vs H Q E h => ?_) (fun cdv A outer s H vs Q E hr h => ?_)
  · obtain ⟨a, dx, h, d, rfl, _⟩ := h
    rfl
  · obtain ⟨a, dx, h, d, rfl, ha, hh, k⟩ := h
    refine ⟨_, pss_cons (ps_fld (pv 0) (pv 1) rfl) (pss_one (ps_fld (pv 0) (pe_fld (pv 1) rfl) rfl)), ?_⟩
    obtain ⟨dh, vb, vt, vs, vst, g0, g1, g2, g3, g4⟩ := hh.ex
    have nh : h ≠ a := fun z => by
      rw [z, ha] at g0
      have := Option.some.inj g0
      injection this with _ _ q
      have z2 := fs_hands d.hands vb vt vs vst
      rw [← q] at z2
      cases z2
    refine ⟨_, rfl, _, rfl, a, CW, dx, _, rfl, ha, W.cl, W.nH, (by show 0 < 1000; decide), ?_⟩
    refine ⟨_, rfl, h, C, dh, _, vst, rfl, by rw [upd_ne nh]; exact g0, T.cl, T.nSt, fs_state _ _ _ _ _, _, rfl, a, CW, dx, _, rfl, upd_same, W.cl, W.nS, ?_, ?_⟩
    · have a4 := length_putF "house" (.ref h) []
      have a5 : ([] : List (Str × V)).length = 0 := rfl
      omega
    rw [upd_upd]
    have bt : But a H (L2.upd H a (.ins CW dx (putF "state" vst (putF "house" (.ref h) [])))) := fun b o e ne => by rw [upd_ne ne]; exact e
    have a3 := length_putF "state" vst (putF "house" (.ref h) [])
    have a4 := length_putF "house" (.ref h) []
    have a5 : ([] : List (Str × V)).length = 0 := rfl
    refine k _ bt ⟨dx, _, vst, upd_same, ?_, ?_, ?_, by omega, but_ins ha bt (noL_st _) g4⟩ ⟨dx, _, upd_same, by omega⟩
    · rw [lookup_putF, if_neg (by decide +kernel), lookup_putF, if_pos rfl]
    · rw [lookup_putF, if_pos rfl]
    · intro x n1 n2
      rw [lookup_putF, if_neg n2, lookup_putF, if_neg n1]
      rfl
/-! ### world.changed(state) -/
structure WMk (P : Program) (w : World) (K : PySem.W.Frag) (mg : Str → Option Value) (base : Heap) (C CW g : Addr) (fd : FuncData) : Prop where
  M : Mk K CW g
  G : FnOk P w K mg base CX0 1 g fd ["self", "house"] (spWInit K C CW)
  m : mg "World" = some (.ref CW)
  b : Binds K fd ["self", "house"] []
end
end Kw




set_option Elab.async false
set_option linter.all false
set_option maxRecDepth 100000
set_option maxHeartbeats 4000000
namespace Kw
open PySem PySem.Spec PyProof.Rows L2
/-! ### houses and states of one shape -/
structure Shp (d0 d : Hs) : Prop where
  h : d0.hands = d.hands
  r : ∀ k, (rowOf d0 k).length = (rowOf d k).length
theorem Shp.refl (d : Hs) : Shp d d := ⟨rfl, fun _ => rfl⟩
theorem Shp.trans {a b c : Hs} (x : Shp a b) (y : Shp b c) : Shp a c := ⟨x.h.trans y.h, fun k => (x.r k).trans (y.r k)⟩
theorem Shp.set (d : Hs) (p : It) (q : Pl) : Shp d (setD d p q) := by
  obtain ⟨k, n⟩ := p
  refine ⟨?_, fun j => ?_⟩
  · cases k <;> rfl
  · cases k <;> cases j <;> first | rfl | (show List.length _ = (List.set _ _ _).length; rw [List.length_set])
theorem Shp.next (d : Hs) (e : Dd) : Shp d (nextOf d e) := by cases e <;> exact Shp.set _ _ _
theorem Shp.inH {d0 d : Hs} (s : Shp d0 d) (p : It) : Kw.inH d0 p ↔ Kw.inH d p := by
  unfold Kw.inH
  rw [s.r]
theorem unk_shp {d0 d : Hs} (s : Shp d0 d) (e : Dd) : unkOf d0 e = unkOf d e := by
  have hb : d0.bs.length = d.bs.length := s.r .box
  have hs : d0.ss.length = d.ss.length := s.r .sl
  unfold unkOf
  simp only [s.h, s.inH, hb, hs]
theorem Shp.ls {d0 d : Hs} (s : Shp d0 d) (l : Ls d0) : Ls d := by
  have hb : d0.bs.length = d.bs.length := s.r .box
  have ht : d0.ts.length = d.ts.length := s.r .thing
  have hs : d0.ss.length = d.ss.length := s.r .sl
  exact ⟨by rw [← hb]; exact l.b, by rw [← ht]; exact l.t, by rw [← hs]; exact l.s⟩
section
variable {P : Program} {w : World} {K : PySem.W.Frag} {mg : Str → Option Value} {base : Heap}
/-! ### world == other -/
end
end Kw




set_option Elab.async false
set_option linter.all false
set_option maxRecDepth 100000
set_option maxHeartbeats 4000000
namespace Kw
open PySem PySem.Spec PyProof.Rows L2 SrtO
section
variable {prog : Program} {w : World} {A : Around} {E : Value → Shared → Prop} {s : Shared}
end
/-! ### items -/
def IsIt (h : Heap) (v : Value) (p : It) : Prop := ∃ a o t u n, v = .ref a ∧ h.get? a = some o ∧ o.cls = .type "tuple" ∧ o.data = .seq #[.str p.1.str t, .int (p.2 : Nat) u] n
theorem IsIt.uniq {h : Heap} {v : Value} {p q : It} (x : IsIt h v p) (y : IsIt h v q) : p = q := by
  obtain ⟨a, o, t, u, n, rfl, ho, _, hd⟩ := x
  obtain ⟨a', o', t', u', n', e, ho', _, hd'⟩ := y
  cases e
  rw [ho] at ho'
  cases ho'
  rw [hd] at hd'
  have e1 := Data.seq.inj hd'
  have e2 := congrArg Array.toList e1.1
  simp only [List.cons.injEq] at e2
  obtain ⟨e3, e4, _⟩ := e2
  have k1 := (Value.str.inj e3).1
  have k2 := (Value.int.inj e4).1
  exact Prod.ext (kd_inj k1) (by omega)
theorem IsIt.keeps {h h' : Heap} {v : Value} {p : It} (x : IsIt h v p) (k : ∀ b o, h.get? b = some o → h'.get? b = some o) : IsIt h' v p := by
  obtain ⟨a, o, t, u, n, e, ho, hc, hd⟩ := x
  exact ⟨a, o, t, u, n, e, k _ _ ho, hc, hd⟩
section
variable {prog : Program} {w : World} {A : Around} {s : Shared}
end
section
variable {X : Cx}
end
end Kw




set_option Elab.async false
set_option linter.all false
set_option maxRecDepth 100000
set_option maxHeartbeats 4000000
namespace Kw
open PySem PySem.Spec PyProof.Rows L2
/-! ### places that there are, boxes not around one another -/
def PlOk (d : Hs) (k : Kd) (q : Pl) : Prop := (q.1 = .hand → 0 ≤ q.2 ∧ q.2 < d.hands) ∧ (q.1 = .box → ∃ j : Nat, q.2 = (j : Int) ∧ j < d.bs.length) ∧ (q.1 = .gone → k = .sl ∧ q.2 = 0)
structure Wf (d : Hs) : Prop where
  pl : ∀ k (i : Nat) q, (rowOf d k)[i]? = some q → PlOk d k q
  ac : ∃ ρ : Nat → Nat, ∀ (i j : Nat), d.bs[i]? = some (.box, (j : Int)) → ρ j < ρ i
theorem set_get {l : List Pl} {i j : Nat} {q z : Pl} (h : (l.set i q)[j]? = some z) : (j = i ∧ z = q) ∨ (j ≠ i ∧ l[j]? = some z) := by
  by_cases c : j = i
  · subst c
    rw [List.getElem?_set_self (by have := (List.getElem?_eq_some_iff.mp h).1; rwa [List.length_set] at this)] at h
    exact .inl ⟨rfl, (Option.some.inj h).symm⟩
  · rw [List.getElem?_set_ne (Ne.symm c)] at h
    exact .inr ⟨c, h⟩
theorem row_set (d : Hs) (p : It) (q : Pl) (k : Kd) : rowOf (setD d p q) k = if k = p.1 then (rowOf d k).set p.2 q else rowOf d k := by
  obtain ⟨k', n⟩ := p
  cases k' <;> cases k <;> rfl
theorem PlOk.shp {d d' : Hs} (s : Shp d d') {k : Kd} {q : Pl} (h : PlOk d k q) : PlOk d' k q := by
  have hb : d.bs.length = d'.bs.length := s.r .box
  unfold PlOk at *
  rw [← s.h, ← hb]
  exact h
/-- all but a box put into another -/
theorem Wf.set {d : Hs} (w : Wf d) {p : It} {q : Pl} (hq : PlOk d p.1 q) (hb : p.1 = .box → q.1 ≠ .box) : Wf (setD d p q) := by
  have sh := Shp.set d p q
  refine ⟨fun k i z hz => ?_, ?_⟩
  · rw [row_set] at hz
    by_cases c : k = p.1
    · rw [if_pos c] at hz
      rcases set_get hz with ⟨_, e⟩ | ⟨_, e⟩
      · rw [e, c]
        exact hq.shp sh
      · exact (w.pl k i z e).shp sh
    · rw [if_neg c] at hz
      exact (w.pl k i z hz).shp sh
  · obtain ⟨ρ, hρ⟩ := w.ac
    refine ⟨ρ, fun i j h => ?_⟩
    have h : (rowOf (setD d p q) .box)[i]? = some (.box, (j : Int)) := h
    rw [row_set] at h
    by_cases c : Kd.box = p.1
    · rw [if_pos c] at h
      rcases set_get h with ⟨_, e⟩ | ⟨_, e⟩
      · exact absurd (by rw [← e]) (hb c.symm)
      · exact hρ i j e
    · rw [if_neg c] at h
      exact hρ i j h
/-- a box that is held straight put into another that is held straight -/
theorem Wf.put {d : Hs} (w : Wf d) {n b : Nat} {h h' : Int} (hn : d.bs[n]? = some (.hand, h)) (hb : d.bs[b]? = some (.hand, h')) (ne : n ≠ b) : Wf (setD d (.box, n) (.box, (b : Int))) := by
  have sh := Shp.set d (.box, n) (.box, (b : Int))
  have lb := (List.getElem?_eq_some_iff.mp hb).1
  have hq : PlOk d .box (.box, (b : Int)) := ⟨fun z => (nomatch z), fun _ => ⟨b, rfl, lb⟩, fun z => (nomatch z)⟩
  refine ⟨fun k i z hz => ?_, ?_⟩
  · rw [row_set] at hz
    by_cases c : k = Kd.box
    · rw [if_pos c] at hz
      rcases set_get hz with ⟨_, e⟩ | ⟨_, e⟩
      · rw [e, c]
        exact hq.shp sh
      · exact (w.pl k i z e).shp sh
    · rw [if_neg c] at hz
      exact (w.pl k i z hz).shp sh
  · obtain ⟨ρ, hρ⟩ := w.ac
    refine ⟨fun x => if x = b then 0 else ρ x + 1, fun i j hij => ?_⟩
    have hij : (rowOf (setD d (.box, n) (.box, (b : Int))) .box)[i]? = some (.box, (j : Int)) := hij
    rw [row_set, if_pos rfl] at hij
    have nb : i ≠ b := fun z => by
      subst z
      rcases set_get hij with ⟨e1, _⟩ | ⟨_, e2⟩
      · exact ne e1.symm
      · have e3 : d.bs[i]? = some (.box, (j : Int)) := e2
        rw [hb] at e3
        cases e3
    dsimp only
    rw [if_neg nb]
    by_cases cj : j = b
    · rw [if_pos cj]
      omega
    · rw [if_neg cj]
      rcases set_get hij with ⟨_, e⟩ | ⟨_, e⟩
      · have := congrArg Prod.snd e
        have e2 : ((j : Nat) : Int) = (b : Nat) := this
        exact absurd (by omega) cj
      · have := hρ i j e
        omega
theorem Wf.next {d : Hs} (w : Wf d) {e : Dd} (kn : Kn d e) (hb : Hb d e) (bar : barOf d e = "") : Wf (nextOf d e) := by
  cases e with
  | give h p o => exact w.set ⟨fun _ => ⟨by show (0 : Int) ≤ (o : Nat); omega, hb.2.1⟩, fun z => (nomatch z), fun z => (nomatch z)⟩ (fun _ => by intro z; cases z)
  | put h p b =>
    obtain ⟨k, n⟩ := p
    have hq : PlOk d k (.box, (b : Int)) := ⟨fun z => (nomatch z), fun _ => ⟨b, rfl, kn.2⟩, fun z => (nomatch z)⟩
    by_cases c : k = .box
    · subst c
      simp only [barOf] at bar
      by_cases c1 : whereD d (.box, b) = some (.hand, (h : Int))
      · rw [if_pos c1] at bar
        by_cases c2 : whereD d (.box, n) = some (.hand, (h : Int))
        · exact w.put (show d.bs[n]? = _ from c2) (show d.bs[b]? = _ from c1) (fun z => hb.2.1 (by rw [z]))
        · rw [if_neg c2] at bar; exact absurd bar (by decide +kernel)
      · rw [if_neg c1] at bar; exact absurd bar (by decide +kernel)
    · exact w.set hq fun z => absurd z c
  | take h p b => exact w.set ⟨fun _ => ⟨by show (0 : Int) ≤ (h : Nat); omega, hb.1⟩, fun z => (nomatch z), fun z => (nomatch z)⟩ (fun _ => by intro z; cases z)
  | lock h b s => exact w.set (p := (.sl, s)) ⟨fun z => (nomatch z), fun _ => ⟨b, rfl, kn.1⟩, fun z => (nomatch z)⟩ (fun z => by cases z)
  | brk h b => exact w.set (p := (.sl, onIx d b)) ⟨fun z => (nomatch z), fun z => (nomatch z), fun _ => ⟨rfl, rfl⟩⟩ (fun z => by cases z)
/-! ### what is straight at a place -/
def atOf (l : List Pl) (k : Kd) (q : Pl) : List It := ((List.range l.length).filter fun i => decide (l[i]? = some q)).map fun i => (k, i)
def loadsOf (d : Hs) (q : Pl) : List It := atOf d.bs .box q ++ atOf d.ts .thing q
def insideOf (d : Hs) (b : Nat) : List It := loadsOf d (.box, (b : Int))
theorem itP_map (l : List Nat) (k : Kd) : (l.map fun i => (k, i)).map itP = l.map fun i => itP (k, i) := by
  rw [List.map_map]
  rfl
section
variable {P : Program} {w : World} {K : PySem.W.Frag} {mg : Str → Option Value} {base : Heap}
/-- [(word, i) for i in range(n) if ..] -/
theorem lc_fltR {σ : L2.St} {H1 : Hp} {D : Addr} {tt : TT} {Qd : Hp → Prop} (k : Kd) (n j : Nat) (p : Nat → Bool) (hj : j < σ.length) (hn : n ≤ 1000) (hD : H1 D = none)
    (ht : ∀ (i : Nat) (H : Hp) (T : Bool → Hp → Prop), i < n → Same H1 H → (∀ H', Same H H' → T (p i) H') → tt ((wipe σ [j]).set j (some (.int (i : Nat)))) H T)
    (hd : ∀ H zs, Same H1 H → H D = some (.lst zs) → DpAll K H zs (((List.range n).filter p).map fun i => itP (k, i)) → Qd H) :
    ∃ W : Nat → Nat → Hp → Prop, (∃ m, W 0 m (upd H1 D (.lst []))) ∧ ∀ i m H, W i m H →
      ((Itr 0 n).stop i H ∧ Qd H) ∨ ((Itr 0 n).go i H ∧ ∃ Nx : Hp → Prop, (∀ H', Nx H' → ∃ m', m' < m ∧ W (i + 1) m' H') ∧ ∀ x H', (Itr 0 n).yld i H x H' → gName j x (wipe σ [j]) H' fun σ2 H2 => wipe σ2 [j] = wipe σ [j] ∧ tt σ2 H2 fun b H3 =>
        if b = true then tTup (tCons (tC (.str k.str)) (tCons (tVar j) tNil)) σ2 H3 fun y H4 => ∃ acc, H4 D = some (.lst acc) ∧ acc.length < sizeLine ∧ Nx (upd H4 D (.lst (acc ++ [y]))) else Nx H3) := by
  have e0 : ∀ (H' : Hp) (o : HO), Same H1 H' → Same H1 (L2.upd H' D o) := fun H' o e c u h => by rw [upd_ne (ne_of_none h hD)]; exact e c u h
  have nl : ∀ l : List Nat, noLs (l.map fun i => itP (k, i)) = true := fun l => noLs_map (fun i => itP (k, i)) (fun _ => rfl) l
  refine lc_range (lo := 0) (n := n) (fun i H => Same H1 H ∧ ∃ zs, H D = some (.lst zs) ∧ zs.length ≤ i ∧ DpAll K H zs (((List.range i).filter p).map fun i => itP (k, i))) ⟨same_upd hD, [], upd_same, Nat.le_refl _, .nil⟩ ?_ ?_
  · rintro i H hi ⟨e, zs, hz, lz, dz⟩
    rw [Int.zero_add]
    refine ⟨wipe_one _ j _, ht i H _ hi e fun H' e' => ?_⟩
    have hz' := e' _ _ hz
    have er : (List.range (i + 1)).filter p = (List.range i).filter p ++ (if p i = true then [i] else []) := by
      rw [List.range_succ, List.filter_append]
      congr 1
      simp only [List.filter_cons, List.filter_nil]
    refine ite_b _ (fun c => ?_) (fun c => ?_)
    · rw [c, if_pos rfl] at er
      refine ⟨_, List.getElem?_set_self (by rw [wipe_length]; exact hj), (by show 2 ≤ sizeLine; decide), fun t ht' => ?_⟩
      have f1 := same_upd (o := HO.tup [.str k.str, .int (i : Nat)]) ht'
      have hz2 := f1 _ _ hz'
      have nl2 := nl_updL (ys := zs ++ [V.ref t]) hz2
      refine ⟨zs, hz2, by rw [sizeLine_eq]; omega, e0 _ _ ((e.trans e').trans f1), zs ++ [.ref t], upd_same, by rw [List.length_append]; simp; exact lz, ?_⟩
      rw [er, List.map_append]
      exact DpAll.app (Dp.nls nl2 _ _ (nl _) (Dp.sames (e'.trans f1) _ _ dz)) (.cons (Dp.nl nl2 _ _ rfl (.tup (SqT.of upd_same) (.cons (.str _) (.cons (.int _) .nil)))) .nil)
    · rw [c, if_neg (by decide), List.append_nil] at er
      refine ⟨e.trans e', zs, hz', by omega, ?_⟩
      rw [er]
      exact Dp.sames e' _ _ dz
  · rintro H ⟨e, zs, hz, lz, dz⟩
    exact hd H zs e hz dz
/-! ### _law_inside -/
end
end Kw




set_option Elab.async false
set_option linter.all false
set_option maxRecDepth 100000
set_option maxHeartbeats 4000000
namespace Kw
open PySem PySem.Spec PyProof.Rows L2
abbrev sLoads : Stmt := top 29
abbrev sTrue : Stmt := top 41
/-- a comprehension over enumerate(tuple), the invariant Pv by the turn -/
theorem lc_enumT {K : PySem.W.Frag} {a : Addr} {xs : List V} {g : TG} {tt : TT} {te : TE} {vs : List Nat} {σ : L2.St} {H1 : Hp} {D : Addr} {Qd : Hp → Prop} (Pv : Nat → Hp → Prop) (h0 : Pv 0 (upd H1 D (.lst []))) (hl : ∀ i H, i ≤ xs.length → Pv i H → SqT K H a xs)
    (hs : ∀ i x H T, xs[i]? = some x → Pv i H → H T = none → g (.ref T) (wipe σ vs) (upd H T (.tup [.int (i : Nat), x])) fun σ2 H2 => wipe σ2 vs = wipe σ vs ∧ tt σ2 H2 fun b H3 =>
      if b = true then te σ2 H3 fun y H4 => ∃ acc, H4 D = some (.lst acc) ∧ acc.length < sizeLine ∧ Pv (i + 1) (upd H4 D (.lst (acc ++ [y]))) else Pv (i + 1) H3) (hd : ∀ H, Pv xs.length H → Qd H) :
    ∃ W : Nat → Nat → Hp → Prop, (∃ m, W 0 m (upd H1 D (.lst []))) ∧ ∀ i m H, W i m H →
      ((Itet K a).stop i H ∧ Qd H) ∨ ((Itet K a).go i H ∧ ∃ Nx : Hp → Prop, (∀ H', Nx H' → ∃ m', m' < m ∧ W (i + 1) m' H') ∧ ∀ x H', (Itet K a).yld i H x H' → g x (wipe σ vs) H' fun σ2 H2 => wipe σ2 vs = wipe σ vs ∧ tt σ2 H2 fun b H3 =>
        if b = true then te σ2 H3 fun y H4 => ∃ acc, H4 D = some (.lst acc) ∧ acc.length < sizeLine ∧ Nx (upd H4 D (.lst (acc ++ [y]))) else Nx H3) := by
  refine ⟨fun i m H => m = xs.length - i ∧ i ≤ xs.length ∧ Pv i H, ⟨xs.length, by simp, Nat.zero_le _, h0⟩, ?_⟩
  rintro i m H ⟨rfl, hi, p⟩
  have q := hl i H hi p
  by_cases hlt : i < xs.length
  · refine .inr ⟨⟨xs, xs[i], q, by simp [hlt]⟩, Pv (i + 1), fun H' p' => ⟨xs.length - (i + 1), by omega, rfl, hlt, p'⟩, fun x H' y => ?_⟩
    obtain ⟨T, x', ev, hT, eH, hx⟩ := y
    subst ev eH
    exact hs i x' H T (hx xs q) p hT
  · have e : i = xs.length := by omega
    subst e
    exact .inl ⟨⟨xs, q, Nat.le_refl _⟩, hd H p⟩
theorem wipe_two (σ : L2.St) (i j : Nat) (x y : Option V) (h : i ≠ j) : wipe (((wipe σ [i, j]).set i x).set j y) [i, j] = wipe σ [i, j] := by
  show (((((σ.set j none).set i none).set i x).set j y).set j none).set i none = (σ.set j none).set i none
  rw [List.set_set, List.set_set, List.set_comm _ _ h, List.set_set, List.set_set]
section
variable {P : Program} {w : World} {K : PySem.W.Frag} {mg : Str → Option Value} {base : Heap}
/-- [(word, i) for i, q in enumerate(row) if q == place] -/
theorem lc_at {σ : L2.St} {H1 : Hp} {D a : Addr} {xs : List V} {tt : TT} {Qd : Hp → Prop} (k : Kd) (l : List Pl) (i j : Nat) (q : Pl) (hij : i ≠ j) (hi : i < σ.length) (hj : j < σ.length) (hD : H1 D = none)
    (sq : SqT K H1 a xs) (dl : DpAll K H1 xs (l.map plD)) (ln : xs.length ≤ 1000)
    (ht : ∀ (n : Nat) (z : Pl) (y : V) (H : Hp) (T : Bool → Hp → Prop), l[n]? = some z → Dp K H y (plD z) → Same H1 H → (∀ H', Same H H' → T (decide (z = q)) H') → tt (((wipe σ [i, j]).set i (some (.int (n : Nat)))).set j (some y)) H T)
    (hd : ∀ H zs, Same H1 H → H D = some (.lst zs) → DpAll K H zs ((atOf l k q).map itP) → Qd H) :
    ∃ W : Nat → Nat → Hp → Prop, (∃ m, W 0 m (upd H1 D (.lst []))) ∧ ∀ n m H, W n m H →
      ((Itet K a).stop n H ∧ Qd H) ∨ ((Itet K a).go n H ∧ ∃ Nx : Hp → Prop, (∀ H', Nx H' → ∃ m', m' < m ∧ W (n + 1) m' H') ∧ ∀ x H', (Itet K a).yld n H x H' → (gTup K 2 (gCons (gName i) (gCons (gName j) gNil))) x (wipe σ [i, j]) H' fun σ2 H2 => wipe σ2 [i, j] = wipe σ [i, j] ∧ tt σ2 H2 fun b H3 =>
        if b = true then tTup (tCons (tC (.str k.str)) (tCons (tVar i) tNil)) σ2 H3 fun y H4 => ∃ acc, H4 D = some (.lst acc) ∧ acc.length < sizeLine ∧ Nx (upd H4 D (.lst (acc ++ [y]))) else Nx H3) := by
  have e0 : ∀ (H' : Hp) (o : HO), Same H1 H' → Same H1 (L2.upd H' D o) := fun H' o e c u h => by rw [upd_ne (ne_of_none h hD)]; exact e c u h
  have nl : ∀ l : List Nat, noLs (l.map fun i => itP (k, i)) = true := fun l => noLs_map (fun i => itP (k, i)) (fun _ => rfl) l
  have ll : xs.length = l.length := by rw [DpAll.len dl, List.length_map]
  refine lc_enumT (K := K) (a := a) (xs := xs) (fun n H => Same H1 H ∧ ∃ zs, H D = some (.lst zs) ∧ zs.length ≤ n ∧ DpAll K H zs (((List.range n).filter fun m => decide (l[m]? = some q)).map fun i => itP (k, i))) ⟨same_upd hD, [], upd_same, Nat.le_refl _, .nil⟩ (fun n H _ p => SqT.same p.1 sq) ?_ ?_
  · rintro n y H T hy ⟨e, zs, hz, lz, dz⟩ hT
    obtain ⟨z, hz1, hz2⟩ := pls_get dl hy
    have hn := (List.getElem?_eq_some_iff.mp hy).1
    have f0 := same_upd (o := HO.tup [.int (n : Nat), y]) hT
    refine ⟨T, _, rfl, SqT.of upd_same, rfl, _, _, rfl, _, _, rfl, rfl, wipe_two σ i j _ _ hij, ht n z y _ _ hz1 (Dp.same (e.trans f0) _ _ hz2) (e.trans f0) fun H' e' => ?_⟩
    have e'' := f0.trans e'
    have hz' := e'' _ _ hz
    have er : (List.range (n + 1)).filter (fun m => decide (l[m]? = some q)) = (List.range n).filter (fun m => decide (l[m]? = some q)) ++ (if z = q then [n] else []) := by
      rw [List.range_succ, List.filter_append]
      congr 1
      simp only [List.filter_cons, List.filter_nil, hz1, Option.some.injEq, decide_eq_true_eq]
    by_cases c : z = q
    · rw [if_pos c] at er
      rw [decide_eq_true c]
      have vi : ((((wipe σ [i, j]).set i (some (V.int (n : Nat)))).set j (some y))[i]?) = some (some (V.int (n : Nat))) := by
        rw [List.getElem?_set_ne hij.symm, List.getElem?_set_self (by rw [wipe_length]; exact hi)]
      refine iteTe rfl ⟨_, vi, (by show 2 ≤ sizeLine; decide), fun t ht' => ?_⟩
      have f1 := same_upd (o := HO.tup [.str k.str, .int (n : Nat)]) ht'
      have hz2 := f1 _ _ hz'
      have nl2 := nl_updL (ys := zs ++ [V.ref t]) hz2
      refine ⟨zs, hz2, by rw [sizeLine_eq]; omega, e0 _ _ ((e.trans e'').trans f1), zs ++ [.ref t], upd_same, by rw [List.length_append]; simp; exact lz, ?_⟩
      rw [er, List.map_append]
      exact DpAll.app (Dp.nls nl2 _ _ (nl _) (Dp.sames (e''.trans f1) _ _ dz)) (.cons (Dp.nl nl2 _ _ rfl (.tup (SqT.of upd_same) (.cons (.str _) (.cons (.int _) .nil)))) .nil)
    · rw [if_neg c, List.append_nil] at er
      rw [decide_eq_false c]
      refine iteFe rfl ⟨e.trans e'', zs, hz', by omega, ?_⟩
      rw [er]
      exact Dp.sames e'' _ _ dz
  · rintro H ⟨e, zs, hz, lz, dz⟩
    refine hd H zs e hz ?_
    unfold atOf
    rw [itP_map, ← ll]
    exact dz
end
end Kw




set_option Elab.async false
set_option linter.all false
set_option maxRecDepth 100000
set_option maxHeartbeats 4000000
namespace Kw
open PySem PySem.Spec PyProof.Rows L2
/-! ### what holds at the end -/
def Hold (d : Hs) (r : Pl) : Nat → Pl → Prop
  | 0, z => z.1 ≠ .box ∧ z = r
  | n + 1, z => ∃ j : Nat, z = (.box, (j : Int)) ∧ ∃ q, d.bs[j]? = some q ∧ Hold d r n q
theorem firstBad_none {f : Nat → Pl → Bool} : ∀ (l : List Pl) (k : Nat), firstBad f k l = none → ∀ (i : Nat) (q : Pl), l[i]? = some q → f (k + i) q = false
  | [], _, _, _, _, e => by simp at e
  | p :: r, k, h, i, q, e => by
    unfold firstBad at h
    cases c : f k p with
    | true => rw [c, if_pos rfl] at h; cases h
    | false =>
      rw [c, if_neg (by decide)] at h
      match i, e with
      | 0, e =>
        simp at e
        subst e
        exact c
      | i + 1, e =>
        have := firstBad_none r (k + 1) h i q (by simpa using e)
        rwa [show k + 1 + i = k + (i + 1) by omega] at this
theorem plOk_at {p : Pl} {n m : Int} (h : plOk p n m = true) : (p.1 = .hand → 0 ≤ p.2 ∧ p.2 < n) ∧ (p.1 = .box → 0 ≤ p.2 ∧ p.2 < m) ∧ p.1 ≠ .gone := by
  obtain ⟨w, i⟩ := p
  unfold plOk numOk at h
  cases w
  · simp at h
    exact ⟨fun _ => h, fun z => by simp at z, by simp⟩
  · simp at h
    exact ⟨fun z => by simp at z, fun _ => h, by simp⟩
  · simp at h
theorem errOf_none {d : Hs} (h : errOf d.hands d.bs d.ts d.ss = none) : (∀ (i : Nat) q, d.bs[i]? = some q → plOk q d.hands i = true) ∧ (∀ (i : Nat) q, d.ts[i]? = some q → plOk q d.hands d.bs.length = true) ∧ (∀ (i : Nat) q, d.ss[i]? = some q → plOk q d.hands d.bs.length = true) := by
  unfold errOf at h
  split at h
  · cases h
  split at h
  · cases h
  next hb =>
  split at h
  · cases h
  next ht =>
  split at h
  · cases h
  next hs =>
  unfold badBoxes at hb
  split at hb
  · cases hb
  refine ⟨fun i q e => ?_, fun i q e => ?_, fun i q e => ?_⟩
  · have := firstBad_none _ _ hb i q e
    unfold badB at this
    rw [Nat.zero_add] at this
    simp at this
    exact this.2
  · have := firstBad_none _ _ ht i q e
    unfold badT at this
    simp at this
    exact this.2
  · have := firstBad_none _ _ hs i q e
    unfold badS at this
    simp at this
    exact this.1.2
theorem HsOk.wf {d : Hs} (h : HsOk d) : Wf d := by
  obtain ⟨hb, ht, hs⟩ := errOf_none h.okE
  have one : ∀ (k : Kd) (q : Pl) (m : Int), plOk q d.hands m = true → m ≤ d.bs.length → PlOk d k q := fun k q m e hm => by
    obtain ⟨h1, h2, h3⟩ := plOk_at e
    exact ⟨h1, fun z => by obtain ⟨a, b⟩ := h2 z; exact ⟨q.2.toNat, by omega, by omega⟩, fun z => absurd z h3⟩
  refine ⟨fun k i q e => ?_, id, fun i j e => ?_⟩
  · cases k
    · have := (List.getElem?_eq_some_iff.mp (show d.bs[i]? = some q from e)).1
      exact one _ q i (hb i q e) (by omega)
    · exact one _ q _ (ht i q e) (Int.le_refl _)
    · exact one _ q _ (hs i q e) (Int.le_refl _)
  · have := (plOk_at (hb i _ e)).2.1 rfl
    show j < i
    have h2 : ((j : Nat) : Int) < (i : Nat) := this.2
    omega
theorem Hold.end {d : Hs} {r : Pl} : ∀ {n : Nat} {z : Pl}, Hold d r n z → r.1 ≠ .box
  | 0, _, h => by obtain ⟨h, e⟩ := h; rw [← e]; exact h
  | _ + 1, _, ⟨_, _, _, _, h⟩ => h.end
section
variable {P : Program} {w : World} {K : PySem.W.Frag} {mg : Str → Option Value} {base : Heap}
def spLoads (K : PySem.W.Frag) : Sp := fun vs H Q _ => ∃ (x y : V) (d : Hs) (q : Pl), vs = [x, y] ∧ Dp K H x (stD d) ∧ Dp K H y (plD q) ∧ Ls d ∧ ∀ p xs H', Same H H' → H' p = some (.lst xs) → DpAll K H' xs ((loadsOf d q).map itP) → Q (.ref p) H'
theorem scLoads : FnScope ["state", "place", "boxes", "number", "other", "things"] ["state", "place"] (defScope sLoads) := ⟨rfl, rfl, rfl, by decide +kernel, rfl, by decide +kernel, by decide +kernel⟩
theorem at_len (l : List Pl) (k : Kd) (q : Pl) : (atOf l k q).length ≤ l.length := by
  unfold atOf
  rw [List.length_map]
  have := List.length_filter_le (fun i => decide (l[i]? = some q)) (List.range l.length)
  rw [List.length_range] at this
  exact this
theorem ok_loads {f : Addr} {fd : FuncData} (F : Fun K "loads_at" "loads_at" sLoads f fd) (B : Bt mg) : FnOk P w K mg base CX0 1 f fd ["state", "place"] (spLoads K) := by
  refine F.ok scLoads (fun vs H Q E h => ?_) (fun cdv A outer s H vs Q E hr h => ?_)
  · obtain ⟨x, y, d, q, rfl, _⟩ := h
    rfl
  · obtain ⟨x, y, d, q, rfl, hx, hy, hL, k⟩ := h
    have hu : (cxOf CX0 P w K mg base ["state", "place", "boxes", "number", "other", "things"] "loads_at" (defScope sLoads) f cdv A outer s H E).nox.A.units + 64 < cLine := by have := hr.un; show (A.deeper _).units + 64 < cLine; omega
    refine ⟨_, pss_cons (ps_setLc (i := 2) (own := [("number", 3), ("other", 4)]) (g := gTup K 2 (gCons (gName 3) (gCons (gName 4) gNil))) (tt := tTest (tOp (rEqD K) (tVar 4) (tVar 1))) (te := tTup (tCons (tC (.str ("box" : Str))) (tCons (tVar 3) tNil))) rfl scLoads.nd rfl rfl (sw_true rfl rfl rfl (by decide +kernel))
        (pi_enumT (by rfl) B.enu (pa_cons (pe_ix ix_tup (pv 0) pe_int (fun _ _ => rfl)) pa_nil))
        (blkOk_by (own := [("number", 3), ("other", 4)]) (N := ["state", "place", "boxes", "number", "other", "things"]) (sc := defScope sLoads) (by decide +kernel)) (fun _ _ _ _ _ => pg_tup (by rfl) (pgs_cons (pg_name (i := 3) scLoads.nd rfl (.inl rfl)) (pgs_cons (pg_name (i := 4) scLoads.nd rfl (.inl rfl)) pgs_nil)))
        (fun _ _ _ _ _ => pts_one (pt_cmpR (op_eqD hu) (pv 4) (pv 1) (nomark _))) (fun _ _ _ _ _ => pe_tup (pa_cons pe_str (pa_cons (pv 3) pa_nil))))
      (pss_cons (ps_setLc (i := 5) (own := [("number", 3), ("other", 4)]) (g := gTup K 2 (gCons (gName 3) (gCons (gName 4) gNil))) (tt := tTest (tOp (rEqD K) (tVar 4) (tVar 1))) (te := tTup (tCons (tC (.str ("thing" : Str))) (tCons (tVar 3) tNil))) rfl scLoads.nd rfl rfl (sw_true rfl rfl rfl (by decide +kernel))
        (pi_enumT (by rfl) B.enu (pa_cons (pe_ix ix_tup (pv 0) pe_int (fun _ _ => rfl)) pa_nil))
        (blkOk_by (own := [("number", 3), ("other", 4)]) (N := ["state", "place", "boxes", "number", "other", "things"]) (sc := defScope sLoads) (by decide +kernel)) (fun _ _ _ _ _ => pg_tup (by rfl) (pgs_cons (pg_name (i := 3) scLoads.nd rfl (.inl rfl)) (pgs_cons (pg_name (i := 4) scLoads.nd rfl (.inl rfl)) pgs_nil)))
        (fun _ _ _ _ _ => pts_one (pt_cmpR (op_eqD hu) (pv 4) (pv 1) (nomark _))) (fun _ _ _ _ _ => pe_tup (pa_cons pe_str (pa_cons (pv 3) pa_nil))))
      (pss_one (ps_ret (pe_op op_cat (pv 2) (pv 5))))), ?_⟩
    obtain ⟨a, v1, v2, v3, rfl, sa, d1, d2, d3⟩ := st_at hx
    obtain ⟨a1, x1, rfl, s1, dl1, l1⟩ := pls_at d1
    obtain ⟨a2, x2, rfl, s2, dl2, l2⟩ := pls_at d2
    have lb := hL.b
    have lt := hL.t
    refine ⟨_, rfl, a, _, 0, _, rfl, rfl, sa, rfl, a1, x1, rfl, s1, fun D1 hD1 => ?_⟩
    refine lc_at (K := K) .box d.bs 3 4 q (by decide) (by show 3 < 6; decide) (by show 4 < 6; decide) hD1 s1 dl1 (by omega) (fun n z y' H' T hz dz e hT => ?_) (fun H1 z1 e1 hz1 dz1 => ?_)
    · refine ⟨_, rfl, _, rfl, plD z, plD q, dz, Dp.same e _ _ hy, shaped_pl _, shaped_pl _, _, rfl, ?_⟩
      rw [eqv_pl]
      exact hT _ (Same.refl _)
    refine ⟨_, rfl, a, _, 1, _, rfl, rfl, SqT.same e1 sa, rfl, a2, x2, rfl, SqT.same e1 s2, fun D2 hD2 => ?_⟩
    refine lc_at (K := K) .thing d.ts 3 4 q (by decide) (by show 3 < 6; decide) (by show 4 < 6; decide) hD2 (SqT.same e1 s2) (Dp.sames e1 _ _ dl2) (by omega) (fun n z y' H' T hz dz e hT => ?_) (fun H2 z2 e2 hz2 dz2 => ?_)
    · refine ⟨_, rfl, _, rfl, plD z, plD q, dz, Dp.same (e1.trans e) _ _ hy, shaped_pl _, shaped_pl _, _, rfl, ?_⟩
      rw [eqv_pl]
      exact hT _ (Same.refl _)
    have ln1 : z1.length ≤ 100 := by
      rw [DpAll.len dz1, List.length_map]
      have := at_len d.bs .box q
      omega
    have ln2 : z2.length ≤ 100 := by
      rw [DpAll.len dz2, List.length_map]
      have := at_len d.ts .thing q
      omega
    refine ⟨_, rfl, _, rfl, D1, D2, z1, z2, rfl, rfl, e2 _ _ hz1, hz2, by rw [sizeLine_eq]; omega, fun p hp => ?_⟩
    have f1 := same_upd (o := HO.lst (z1 ++ z2)) hp
    refine k _ _ _ ((e1.trans e2).trans f1) upd_same ?_
    unfold loadsOf
    rw [List.map_append]
    exact DpAll.app (Dp.sames (e2.trans f1) _ _ dz1) (Dp.sames f1 _ _ dz2)
/-! ### holder_in, _law_holder -/
end
end Kw




set_option Elab.async false
set_option linter.all false
set_option maxRecDepth 100000
set_option maxHeartbeats 4000000
namespace Kw
open PySem PySem.Spec PyProof.Rows L2
/-! ### sights -/
inductive Sg where
  | loc (p : It) (q : Pl)
  | bare (b : Nat)
  | inn (b : Nat) (l : List It)
  | gone (s : Nat)
  | nt (g : Sg)
def sgW : Sg → Str
  | .loc _ _ => "at"
  | .bare _ => "bare"
  | .inn _ _ => "in"
  | .gone _ => "gone"
  | .nt _ => "not"
def itsD (l : List It) : PyData := .tuple (l.map itP)
mutual
def sgT : Sg → List PyData
  | .loc p q => [itP p, plD q]
  | .bare b => [.int (b : Nat)]
  | .inn b l => [.int (b : Nat), itsD l]
  | .gone s => [.int (s : Nat)]
  | .nt g => [.tuple (.str (sgW g) :: sgT g)]
end
def sgD (g : Sg) : PyData := .tuple (.str (sgW g) :: sgT g)
def isS (d : Hs) : Sg → Bool
  | .loc p q => decide (whereD d p = some q)
  | .bare b => decide ((Wd.box, (b : Int)) ∉ d.ss)
  | .inn b l => decide (insideOf d b = l)
  | .gone s => decide (d.ss[s]? = some (.gone, 0))
  | .nt g => !isS d g
def depS : Sg → Nat
  | .nt g => depS g + 1
  | _ => 0
def KnS (d : Hs) : Sg → Prop
  | .loc p _ => (whereD d p).isSome
  | .bare b => b < d.bs.length
  | .inn b l => b < d.bs.length ∧ l.length ≤ 1000
  | .gone s => s < d.ss.length
  | .nt g => KnS d g
theorem sg_at {K : PySem.W.Frag} {H : Hp} {x : V} {g : Sg} (h : Dp K H x (sgD g)) : ∃ a vs, x = .ref a ∧ SqT K H a (.str (sgW g) :: vs) ∧ DpAll K H vs (sgT g) := by
  cases h with
  | tup hs ha =>
    cases ha with
    | cons d1 r =>
      cases d1
      exact ⟨_, _, rfl, hs, r⟩
theorem lay_its : ∀ ps : List It, PyData.canLayAll0 (ps.map itP) = true
  | [] => rfl
  | p :: ps => by simp [PyData.canLayAll0, lay_it p, lay_its ps]
theorem depth_its : ∀ ps : List It, PyData.depthAll (ps.map itP) ≤ 1
  | [] => by simp [PyData.depthAll]
  | p :: ps => by
    have := depth_its ps
    have := depth_it p
    simp [PyData.depthAll]
    omega
theorem shaped_its (ps : List It) : SeqAt.shaped (itsD ps) = true := by
  have h1 := lay_its ps
  have h2 := depth_its ps
  simp [SeqAt.shaped, itsD, PyData.canLay0, PyData.depth, h1]
  omega
theorem eqv_its (l m : List It) : PyData.eqv (itsD l) (itsD m) = decide (l = m) := by
  have go : ∀ l m : List It, PyData.eqvAll (l.map itP) (m.map itP) = decide (l = m) := by
    intro l
    induction l with
    | nil => intro m; cases m with
      | nil => rfl
      | cons a r => simp [PyData.eqvAll]
    | cons a r ih => intro m; cases m with
      | nil => simp [PyData.eqvAll]
      | cons c s =>
        show (PyData.eqv (itP a) (itP c) && PyData.eqvAll (r.map itP) (s.map itP)) = _
        rw [eqv_it, ih]
        by_cases h1 : a = c <;> by_cases h2 : r = s <;> simp [h1, h2]
  exact go l m
section
variable {P : Program} {w : World} {K : PySem.W.Frag} {mg : Str → Option Value} {base : Heap}
theorem its_at {H : Hp} {x : V} {l : List It} (h : Dp K H x (itsD l)) : ∃ a xs, x = .ref a ∧ SqT K H a xs ∧ DpAll K H xs (l.map itP) ∧ xs.length = l.length := by
  cases h with
  | tup hs ha => exact ⟨_, _, rfl, hs, ha, by rw [DpAll.len ha, List.length_map]⟩
/-! ### _law_holder -/
/-! ### _law_is -/
def spIs (K : PySem.W.Frag) (n : Nat) : Sp := fun vs H Q _ => ∃ (x y : V) (d : Hs) (g : Sg), vs = [x, y] ∧ depS g < n ∧ Dp K H x (stD d) ∧ Dp K H y (sgD g) ∧ KnS d g ∧ Ls d ∧ ∀ H', Same H H' → Q (.bl (isS d g)) H'
end
end Kw




set_option Elab.async false
set_option linter.all false
set_option maxRecDepth 100000
set_option maxHeartbeats 4000000
namespace Kw
open PySem PySem.Spec PyProof.Rows L2
abbrev sNPlace : Stmt := top 23
abbrev sNSight : Stmt := top 39
abbrev sNLoads : Stmt := top 40
structure OnceF (P : Program) (w : World) (K : PySem.W.Frag) (mg : Str → Option Value) (base : Heap) (x : Str) (n : Nat) (ps : List Str) (sp : Sp) (g : Addr) (fd : FuncData) : Prop where
  G : FnOk P w K mg base CX0 n g fd ps sp
  m : mg x = some (.ref g)
  k : PySem.W.keepIn K (.ref g) = true
  b : Binds K fd ps []
structure OnceX (P : Program) (w : World) (K : PySem.W.Frag) (mg : Str → Option Value) (base : Heap) (x : Str) (n : Nat) (ps : List Str) (sp : Sp) (g : Addr) (fd : FuncData) : Prop where
  G : FnOk P w K mg base (L2N.CX P w) n g fd ps sp
  m : mg x = some (.ref g)
  k : PySem.W.keepIn K (.ref g) = true
  b : Binds K fd ps []
/-! ### the errors of a sight -/
def GoodI (d : Hs) (l : List It) : Prop := ∀ (i : Nat) p, l[i]? = some p → (inH d p ∧ p.1 ≠ .sl) ∧ ∀ p', 0 < i → l[i - 1]? = some p' → itLt p' p = true
open Classical in
noncomputable def unkS (d : Hs) : Sg → Str
  | .loc p q => if ¬ inH d p then "UnknownItem" else if q.1 = .hand then (if d.hands ≤ q.2 then "UnknownHand" else "") else if (d.bs.length : Int) ≤ q.2 then "UnknownBox" else ""
  | .bare b => if d.bs.length ≤ b then "UnknownBox" else ""
  | .inn b l => if d.bs.length ≤ b then "UnknownBox" else if GoodI d l then "" else "UnknownItem"
  | .gone s => if d.ss.length ≤ s then "UnknownSeal" else ""
  | .nt g => unkS d g
def SmS : Sg → Prop
  | .loc p q => p.2 ≤ 1000 ∧ 0 ≤ q.2 ∧ q.2 ≤ 1000
  | .bare b => b ≤ 1000
  | .inn b l => b ≤ 1000 ∧ l.length ≤ 1000 ∧ ∀ p ∈ l, p.2 ≤ 1000
  | .gone s => s ≤ 1000
  | .nt g => SmS g
section
variable {P : Program} {w : World} {K : PySem.W.Frag} {mg : Str → Option Value} {base : Heap}
/-! ### need_place -/
def plErr (d : Hs) (q : Pl) : Str := if q.1 = .hand then (if d.hands ≤ q.2 then "UnknownHand" else "") else if (d.bs.length : Int) ≤ q.2 then "UnknownBox" else ""
def spNPlace (K : PySem.W.Frag) (C : Addr) (ce : Str → Addr) : Sp := fun vs H Q E => ∃ (h : Addr) (y : V) (q : Pl) (d : Hs), vs = [.ref h, y] ∧ HouseAt K C H h d ∧ Dp K H y (plD q) ∧ 0 ≤ q.2 ∧ q.2 ≤ 1000 ∧
  (∀ z, plErr d q = z → z ≠ "" → Rp (ce z) H E) ∧ (plErr d q = "" → ∀ H', Same H H' → Q .non H')
theorem scNPlace : FnScope ["house", "place", "word", "number"] ["house", "place"] (defScope sNPlace) := ⟨rfl, rfl, rfl, by decide +kernel, rfl, by decide +kernel, by decide +kernel⟩
theorem ok_nplace {f g1 g2 C : Addr} {fd fd1 fd2 : FuncData} {ce : Str → Addr} (F : Fun K "need_place" "need_place" sNPlace f fd) (NH : NHandF P w K mg base C (ce "UnknownHand") g1 fd1) (NB : NBoxF P w K mg base C (ce "UnknownBox") g2 fd2) :
    FnOk P w K mg base (L2N.CX P w) 3 f fd ["house", "place"] (spNPlace K C ce) := by
  refine okN F scNPlace (fun vs H Q E h => ?_) (fun cdv A outer s H vs Q E hr h => ?_)
  · obtain ⟨h, y, q, d, rfl, _⟩ := h
    rfl
  · obtain ⟨h, y, q, d, rfl, hh, hy, h0, h1, kE, kQ⟩ := h
    have hr2 : Room 2 _ := hr
    have tk : L2N.Takes (cxOf (L2N.CX P w) P w K mg base ["house", "place", "word", "number"] "need_place" (defScope sNPlace) f cdv A outer s H E) (fun cls d _ H => E cls d H) := L2N.takes_of rfl rfl rfl rfl
    refine ⟨_, pss_cons (ps_asg (pv 1) (pg_tup (by rfl) (pgs_cons (pg_name (i := 2) scNPlace.nd rfl (.inl rfl)) (pgs_cons (pg_name (i := 3) scNPlace.nd rfl (.inl rfl)) pgs_nil))))
      (pss_one (ps_if (pt_cmpR op_eq (pv 2) pe_str (nomark _)) (pss_one (ps_expr (pe_call NH.G hr2 rfl NH.m NH.k NH.b .nil (L2N.passes_call tk (fun _ _ _ _ h => h)) (pa_cons (pv 0) (pa_cons (pv 3) pa_nil)))))
        (pss_one (ps_expr (pe_call NB.G hr2 rfl NB.m NB.k NB.b .nil (L2N.passes_call tk (fun _ _ _ _ h => h)) (pa_cons (pv 0) (pa_cons (pv 3) pa_nil))))))), ?_⟩
    obtain ⟨aq, rfl, sq⟩ := pl_at hy
    refine ⟨_, rfl, aq, _, rfl, sq, rfl, _, _, rfl, _, _, rfl, rfl, ?_⟩
    refine ⟨_, rfl, rfl, _, rfl, ?_⟩
    rw [decS]
    unfold plErr at kE kQ
    by_cases c : q.1 = .hand
    · rw [decide_eq_true (show q.1.str = ("hand" : Str) by rw [c]; rfl)]
      simp only [if_pos c] at kE kQ
      exact iteT ⟨_, rfl, _, rfl, h, q.2, d, rfl, hh, h0, h1, fun z => kE _ (if_pos z) ne_e1, fun z => kQ (if_neg (by omega)) _ (Same.refl _)⟩
    · rw [decide_eq_false (show ¬ q.1.str = ("hand" : Str) from fun z' => c (wd_inj (v := .hand) z'))]
      simp only [if_neg c] at kE kQ
      obtain ⟨n, hn⟩ := nat_of h0
      refine iteF ⟨_, rfl, _, rfl, h, n, d, (by rw [hn]; rfl), hh, by omega, fun z => kE _ (if_pos (by omega)) ne_e3, fun z => kQ (if_neg (by omega)) _ (Same.refl _)⟩
/-! ### need_loads -/
def spNLoads (K : PySem.W.Frag) (C X : Addr) : Sp := fun vs H Q E => ∃ (h : Addr) (y : V) (l : List It) (d : Hs), vs = [.ref h, y] ∧ HouseAt K C H h d ∧ Dp K H y (itsD l) ∧ l.length ≤ 1000 ∧ (∀ p ∈ l, p.2 ≤ 1000) ∧
  (¬ GoodI d l → Rp X H E) ∧ (GoodI d l → ∀ H', Same H H' → Q .non H')
theorem scNLoads : FnScope ["house", "items", "index", "item"] ["house", "items"] (defScope sNLoads) := ⟨rfl, rfl, rfl, by decide +kernel, rfl, by decide +kernel, by decide +kernel⟩
theorem its_get {H : Hp} {xs : List V} {l : List It} {i : Nat} {y : V} (h : DpAll K H xs (l.map itP)) (e : xs[i]? = some y) : ∃ p, l[i]? = some p ∧ Dp K H y (itP p) := by
  obtain ⟨d, hd1, hd2⟩ := DpAll.get h e
  rw [List.getElem?_map] at hd1
  cases hl : l[i]? with
  | none => rw [hl] at hd1; cases hd1
  | some p =>
    rw [hl] at hd1
    cases hd1
    exact ⟨p, rfl, hd2⟩
theorem ok_nloads {f g1 C : Addr} {fd fd1 : FuncData} {ce : Str → Addr} (F : Fun K "need_loads" "need_loads" sNLoads f fd) (B : Bt mg) (NL : NLoadF P w K mg base C (ce "UnknownItem") g1 fd1) (X1 : PErr K mg "UnknownItem" (ce "UnknownItem")) :
    FnOk P w K mg base (L2N.CX P w) 4 f fd ["house", "items"] (spNLoads K C (ce "UnknownItem")) := by
  refine okN F scNLoads (fun vs H Q E h => ?_) (fun cdv A outer s H vs Q E hr h => ?_)
  · obtain ⟨h, y, l, d, rfl, _⟩ := h
    rfl
  · obtain ⟨h, y, l, d, rfl, hh, hy, hl, hs, kE, kQ⟩ := h
    have hr1 : Room 1 _ := hr.mono (by decide)
    have hr2 : Room 2 _ := hr.mono (by decide)
    have hr3 : Room 3 _ := hr
    have tk : L2N.Takes (cxOf (L2N.CX P w) P w K mg base ["house", "items", "index", "item"] "need_loads" (defScope sNLoads) f cdv A outer s H E) (fun cls d _ H => E cls d H) := L2N.takes_of rfl rfl rfl rfl
    have hu : (cxOf (L2N.CX P w) P w K mg base ["house", "items", "index", "item"] "need_loads" (defScope sNLoads) f cdv A outer s H E).A.units < cLine := by have := hr.un; show (A.deeper _).units < cLine; omega
    refine ⟨_, pss_one (ps_for (passes_of rfl) rfl (pi_enumT (by rfl) B.enu (pa_cons (pv 1) pa_nil)) (pg_tup (by rfl) (pgs_cons (pg_name (i := 2) scNLoads.nd rfl (.inl rfl)) (pgs_cons (pg_name (i := 3) scNLoads.nd rfl (.inl rfl)) pgs_nil)))
        (pss_cons (ps_expr (pe_call NL.G hr3 rfl NL.m NL.k NL.b .nil (L2N.passes_call tk (fun _ _ _ _ h => h)) (pa_cons (pv 0) (pa_cons (pv 3) pa_nil))))
        (pss_one (ps_if (PW.pt (pw_and (pt_cmpR op_gt (pv 2) pe_int (nomark _)) (pw_and1 (pt_cmpR (op_leI hu) (pv 3) (pe_ix ix_tup (pv 1) (pe_op op_sub (pv 2) pe_int) (fun _ _ => rfl)) (nomark _)))))
          (pss_one (L2N.ps_raise rfl tk (pmk_own1N PySem.F.excBase_ValueError X1.ex X1.mg X1.kp (raises_own X1.sb X1.ty) rfl (pe_joined (.cons (pe_fmtI hr1 (pv 3)) (.cons pe_str .nil)))))) pss_nil)))), ?_⟩
    obtain ⟨ay, xs, rfl, sy, dl, lx⟩ := its_at hy
    refine ⟨_, rfl, ay, xs, rfl, sy, for_enumT (K := K) (a := ay) (xs := xs) (fun i σ H2 => ∃ v1 v2 : Option V, σ = [some (.ref h), some (.ref ay), v1, v2] ∧ Same H H2 ∧ ∀ (j : Nat) p, j < i → l[j]? = some p → (inH d p ∧ p.1 ≠ .sl) ∧ ∀ p', 0 < j → l[j - 1]? = some p' → itLt p' p = true)
      ⟨none, none, rfl, Same.refl H, fun j p h => absurd h (by omega)⟩ (fun i σ H2 _ ⟨_, _, _, e, _⟩ => SqT.same e sy) ?_ ?_⟩
    · rintro i y σ H2 T' hi ⟨v1, v2, rfl, e, hb⟩ hT
      obtain ⟨p, hp, hy1⟩ := its_get dl hi
      have f1 := same_upd (o := HO.tup [.int (i : Nat), y]) hT
      have e1 := e.trans f1
      have dp := Dp.same e1 _ _ hy1
      have sm := hs p (List.mem_of_getElem? hp)
      have hi1 := (List.getElem?_eq_some_iff.mp hi).1
      refine ⟨T', _, rfl, SqT.of upd_same, rfl, _, _, rfl, _, _, rfl, rfl, ?_⟩
      refine ⟨_, rfl, _, rfl, h, y, p, d, rfl, hh.nl (nl_same e1), dp, sm, fun z => (kE fun g => ?_).same e1, fun z => ?_⟩
      · obtain ⟨⟨g1, g2⟩, _⟩ := g i p hp
        exact z.elim (fun q => q g1) g2
      have gi : inH d p ∧ p.1 ≠ .sl := ⟨Classical.byContradiction fun q => z (.inl q), fun q => z (.inr q)⟩
      refine ⟨_, rfl, _, _, rfl, rfl, _, rfl, ?_⟩
      by_cases c0 : 0 < i
      · obtain ⟨y', hy'⟩ : ∃ y', xs[i - 1]? = some y' := ⟨_, List.getElem?_eq_getElem (by omega)⟩
        obtain ⟨p', hp', dp'⟩ := its_get dl hy'
        obtain ⟨ip, rfl, sp⟩ := it_at dp
        have dp'1 := Dp.same e1 _ _ dp'
        obtain ⟨ip', rfl, sp'⟩ := it_at dp'1
        refine iteTe (decide_eq_true (by omega)) ⟨_, rfl, _, rfl, _, rfl, _, _, rfl, rfl, ay, xs, ((i - 1 : Nat) : Int), _, rfl, congrArg V.int (by omega), SqT.same e1 sy, atI_nat hy', ip, ip', p, p', rfl, rfl, sp, sp', _, rfl, ?_⟩
        by_cases c1 : itLt p' p = true
        · rw [c1]
          refine iteF ⟨_, _, rfl, e1, fun j z hj hz => ?_⟩
          by_cases cj : j = i
          · subst cj
            rw [hp] at hz
            cases hz
            refine ⟨gi, fun q _ hq => ?_⟩
            rw [hp'] at hq
            cases hq
            exact c1
          · exact hb j z (by omega) hz
        · rw [Bool.eq_false_iff.mpr c1]
          have l5 := sizeLine_eq
          have l1 : (Str.empty : Str).length = 0 := rfl
          have l2 : (" does not ascend" : Str).length = 16 := by decide +kernel
          refine iteT ⟨_, rfl, ip, _, _, rfl, sp, (kd_len _).1, (kd_len _).2, by omega, by omega, fun m hm => ⟨_, rfl, by rw [str_app]; omega, _, rfl, by rw [str_app, str_app]; omega, (kE fun g => c1 ((g i p hp).2 p' c0 hp')) _ e1⟩⟩
      · refine iteFe (decide_eq_false (by omega)) ⟨_, _, rfl, e1, fun j z hj hz => ?_⟩
        by_cases cj : j = i
        · subst cj
          rw [hp] at hz
          cases hz
          exact ⟨gi, fun q h => absurd h c0⟩
        · exact hb j z (by omega) hz
    · rintro σ H2 ⟨v1, v2, rfl, e, hb⟩
      exact kQ (fun i p hp => hb i p (by have := (List.getElem?_eq_some_iff.mp hp).1; omega) hp) _ e
/-! ### need_sight -/
def spNSight (K : PySem.W.Frag) (C : Addr) (ce : Str → Addr) (n : Nat) : Sp := fun vs H Q E => ∃ (h : Addr) (y : V) (g : Sg) (d : Hs), vs = [.ref h, y] ∧ depS g < n ∧ HouseAt K C H h d ∧ Dp K H y (sgD g) ∧ SmS g ∧
  (∀ z, unkS d g = z → z ≠ "" → Rp (ce z) H E) ∧ (unkS d g = "" → ∀ H', Same H H' → Q .non H')
theorem scNSight : FnScope ["house", "sight", "item", "place", "box", "items", "seal", "other"] ["house", "sight"] (defScope sNSight) := ⟨rfl, rfl, rfl, by decide +kernel, rfl, by decide +kernel, by decide +kernel⟩
theorem ok_nsight {f gI gP gB gL gS C : Addr} {fd fdI fdP fdB fdL fdS : FuncData} {ce : Str → Addr} (F : Fun K "need_sight" "need_sight" sNSight f fd) (mF : mg "need_sight" = some (.ref f)) (bF : Binds K fd ["house", "sight"] [])
    (NI : NItemF P w K mg base C (ce "UnknownItem") gI fdI) (NP : OnceX P w K mg base "need_place" 3 ["house", "place"] (spNPlace K C ce) gP fdP) (NB : NBoxF P w K mg base C (ce "UnknownBox") gB fdB)
    (NL : OnceX P w K mg base "need_loads" 4 ["house", "items"] (spNLoads K C (ce "UnknownItem")) gL fdL) (NS : NSealF P w K mg base C (ce "UnknownSeal") gS fdS) :
    ∀ n : Nat, FnOk P w K mg base (L2N.CX P w) (n + 4) f fd ["house", "sight"] (spNSight K C ce n) := by
  intro n
  induction n with
  | zero => exact ⟨fun vs H Q E h => by obtain ⟨_, _, _, _, _, h, _⟩ := h; omega, fun A outer s H args us vs Q E _ _ _ _ h => by obtain ⟨_, _, _, _, _, h, _⟩ := h; omega⟩
  | succ n R =>
  refine okN F scNSight (fun vs H Q E h => ?_) (fun cdv A outer s H vs Q E hr h => ?_)
  · obtain ⟨h, y, g, d, rfl, _⟩ := h
    rfl
  · obtain ⟨h, y, g, d, rfl, hn, hh, hy, hm, kE, kQ⟩ := h
    have hr2 : Room 2 _ := hr.mono (by omega)
    have hr3 : Room 3 _ := hr.mono (by omega)
    have hr4 : Room 4 _ := hr.mono (by omega)
    have hrn : Room (n + 4) _ := hr.mono (by omega)
    have tk : L2N.Takes (cxOf (L2N.CX P w) P w K mg base ["house", "sight", "item", "place", "box", "items", "seal", "other"] "need_sight" (defScope sNSight) f cdv A outer s H E) (fun cls d _ H => E cls d H) := L2N.takes_of rfl rfl rfl rfl
    refine ⟨_, pss_one (ps_match rfl scNSight.nd (pv 1)
      (.cons (.name (i := 2) rfl rfl (.name (i := 3) rfl rfl .nil)) (pss_cons (ps_expr (pe_call NI.G hr3 rfl NI.m NI.k NI.b .nil (L2N.passes_call tk (fun _ _ _ _ h => h)) (pa_cons (pv 0) (pa_cons (pv 2) pa_nil))))
        (pss_one (ps_expr (pe_call NP.G hr3 rfl NP.m NP.k NP.b .nil (L2N.passes_call tk (fun _ _ _ _ h => h)) (pa_cons (pv 0) (pa_cons (pv 3) pa_nil))))))
      (.cons (.name (i := 4) rfl rfl .nil) (pss_one (ps_expr (pe_call NB.G hr2 rfl NB.m NB.k NB.b .nil (L2N.passes_call tk (fun _ _ _ _ h => h)) (pa_cons (pv 0) (pa_cons (pv 4) pa_nil)))))
      (.cons (.name (i := 4) rfl rfl (.name (i := 5) rfl rfl .nil)) (pss_cons (ps_expr (pe_call NB.G hr2 rfl NB.m NB.k NB.b .nil (L2N.passes_call tk (fun _ _ _ _ h => h)) (pa_cons (pv 0) (pa_cons (pv 4) pa_nil))))
        (pss_one (ps_expr (pe_call NL.G hr4 rfl NL.m NL.k NL.b .nil (L2N.passes_call tk (fun _ _ _ _ h => h)) (pa_cons (pv 0) (pa_cons (pv 5) pa_nil))))))
      (.cons (.name (i := 6) rfl rfl .nil) (pss_one (ps_expr (pe_call NS.G hr2 rfl NS.m NS.k NS.b .nil (L2N.passes_call tk (fun _ _ _ _ h => h)) (pa_cons (pv 0) (pa_cons (pv 6) pa_nil)))))
      (.cons (.name (i := 7) rfl rfl .nil) (pss_one (ps_expr (pe_call R hrn rfl mF F.kp bF .nil (L2N.passes_call tk (fun _ _ _ _ h => h)) (pa_cons (pv 0) (pa_cons (pv 7) pa_nil)))))
      .nil)))))), ?_⟩
    obtain ⟨yd, vs, rfl, sy, dvs⟩ := sg_at hy
    have z1 := Same.refl H
    refine ⟨_, rfl, yd, sgW g, _, rfl, sy, ?_⟩
    cases g with
    | loc p q =>
      obtain ⟨m1, m2, m3⟩ := hm
      cases dvs with
      | cons dp r =>
      cases r with
      | cons dq r =>
      cases r
      dsimp only [sgW] at *
      unfold unkS at kE kQ
      refine mGo_hit rfl rfl ?_
      refine ⟨_, rfl, _, rfl, h, _, p, d, rfl, hh, dp, m1, fun c => kE _ (if_pos c) ne_e2, fun c => ?_⟩
      have c' : ¬ ¬ inH d p := fun q => q c
      simp only [if_neg c'] at kE kQ
      exact ⟨_, rfl, _, rfl, h, _, q, d, rfl, hh, dq, m2, m3, fun z e => kE z (by unfold plErr at e; exact e), fun e => kQ (by unfold plErr at e; exact e)⟩
    | bare b =>
      cases dvs with
      | cons dp r =>
      cases r
      cases dp
      dsimp only [sgW] at *
      unfold unkS at kE kQ
      refine mGo_miss (by dsimp only; decide +kernel) (mGo_hit rfl rfl ?_)
      exact ⟨_, rfl, _, rfl, h, b, d, rfl, hh, hm, fun c => kE _ (if_pos c) ne_e3, fun c => kQ (if_neg (by omega)) _ z1⟩
    | inn b l =>
      obtain ⟨m1, m2, m3⟩ := hm
      cases dvs with
      | cons dp r =>
      cases r with
      | cons dq r =>
      cases r
      cases dp
      dsimp only [sgW] at *
      unfold unkS at kE kQ
      refine mGo_miss (by dsimp only; decide +kernel) (mGo_miss (by dsimp only; decide +kernel) (mGo_hit rfl rfl ?_))
      refine ⟨_, rfl, _, rfl, h, b, d, rfl, hh, m1, fun c => kE _ (if_pos c) ne_e3, fun c => ?_⟩
      have c' : ¬ d.bs.length ≤ b := by omega
      simp only [if_neg c'] at kE kQ
      exact ⟨_, rfl, _, rfl, h, _, l, d, rfl, hh, dq, m2, m3, fun c => kE _ (if_neg c) ne_e2, fun c => kQ (if_pos c)⟩
    | gone b =>
      cases dvs with
      | cons dp r =>
      cases r
      cases dp
      dsimp only [sgW] at *
      unfold unkS at kE kQ
      refine mGo_miss (by dsimp only; decide +kernel) (mGo_miss (by dsimp only; decide +kernel) (mGo_miss (by dsimp only; decide +kernel) (mGo_hit rfl rfl ?_)))
      exact ⟨_, rfl, _, rfl, h, b, d, rfl, hh, hm, fun c => kE _ (if_pos c) ne_e5, fun c => kQ (if_neg (by omega)) _ z1⟩
    | nt g =>
      cases dvs with
      | cons dg r =>
      cases r
      dsimp only [sgW] at *
      unfold unkS at kE kQ
      refine mGo_miss (by dsimp only; decide +kernel) (mGo_miss (by dsimp only; decide +kernel) (mGo_miss (by dsimp only; decide +kernel) (mGo_miss (by dsimp only; decide +kernel) (mGo_hit rfl rfl ?_))))
      exact ⟨_, rfl, _, rfl, h, _, g, d, rfl, (by unfold depS at hn; omega), hh, dg, hm, kE, kQ⟩
theorem scTrue : FnScope ["state", "sight", "item", "place", "box", "items", "seal"] ["state", "sight"] (defScope sTrue) := ⟨rfl, rfl, rfl, by decide +kernel, rfl, by decide +kernel, by decide +kernel⟩
theorem ok_true {f gP gO gL : Addr} {fd fdP fdO fdL : FuncData} (F : Fun K "is_true" "is_true" sTrue f fd) (B : Bt mg) (mF : mg "is_true" = some (.ref f)) (bF : Binds K fd ["state", "sight"] [])
    (G : PlF P w K mg base gP fdP) (O : OnF P w K mg base gO fdO) (L : OnceF P w K mg base "loads_at" 1 ["state", "place"] (spLoads K) gL fdL) :
    ∀ n : Nat, FnOk P w K mg base CX0 (n + 1) f fd ["state", "sight"] (spIs K n) := by
  intro n
  induction n with
  | zero => exact ⟨fun vs H Q E h => by obtain ⟨_, _, _, _, _, h, _⟩ := h; omega, fun A outer s H args us vs Q E _ _ _ _ h => by obtain ⟨_, _, _, _, _, h, _⟩ := h; omega⟩
  | succ n R =>
  refine F.ok scTrue (fun vs H Q E h => ?_) (fun cdv A outer s H vs Q E hr h => ?_)
  · obtain ⟨x, y, d, g, rfl, _⟩ := h
    rfl
  · obtain ⟨x, y, d, g, rfl, hn, hx, hy, hk, hL, k⟩ := h
    have hr1 : Room 1 _ := hr.mono (by omega)
    have hu : (cxOf CX0 P w K mg base ["state", "sight", "item", "place", "box", "items", "seal"] "is_true" (defScope sTrue) f cdv A outer s H E).nox.A.units + 64 < cLine := by have := hr.un; show (A.deeper _).units + 64 < cLine; omega
    refine ⟨_, pss_cons (ps_match rfl scTrue.nd (pv 1)
      (.cons (.name (i := 2) rfl rfl (.name (i := 3) rfl rfl .nil)) (pss_one (ps_ret (pe_cmpR (op_eqD hu) (pe_call G.G hr1 rfl G.m G.k G.b .nil pass0 (pa_cons (pv 0) (pa_cons (pv 2) pa_nil))) (pv 3) (nomark _))))
      (.cons (.name (i := 4) rfl rfl .nil) (pss_one (ps_ret (pe_cmp (pc_isN (pe_call O.G hr1 rfl O.m O.k O.b .nil pass0 (pa_cons (pv 0) (pa_cons (pv 4) pa_nil)))))))
      (.cons (.name (i := 4) rfl rfl (.name (i := 5) rfl rfl .nil)) (pss_one (ps_ret (pe_cmpR (op_eqD hu) (pe_callTy call_tuple_of (by rfl) B.tup (by decide +kernel) (pa_cons (pe_call L.G hr1 rfl L.m L.k L.b .nil pass0 (pa_cons (pv 0) (pa_cons (pe_tup (pa_cons pe_str (pa_cons (pv 4) pa_nil))) pa_nil))) pa_nil))
          (pe_callTy call_tuple_of (by rfl) B.tup (by decide +kernel) (pa_cons (pv 5) pa_nil)) (nomark _))))
      (.cons (.name (i := 6) rfl rfl .nil) (pss_one (ps_ret (pe_cmpR (op_eqD hu) (pe_call G.G hr1 rfl G.m G.k G.b .nil pass0 (pa_cons (pv 0) (pa_cons (pe_tup (pa_cons pe_str (pa_cons (pv 6) pa_nil))) pa_nil))) (pe_tup (pa_cons pe_str (pa_cons pe_int pa_nil))) (nomark _))))
      .nil)))))
      (pss_one (ps_ret (pe_not (pe_call R hr rfl mF F.kp bF .nil pass0 (pa_cons (pv 0) (pa_cons (pe_ix ix_tup (pv 1) pe_int (fun _ _ => rfl)) pa_nil)))))), ?_⟩
    obtain ⟨yd, vs, rfl, sy, dvs⟩ := sg_at hy
    refine ⟨_, rfl, yd, sgW g, _, rfl, sy, ?_⟩
    cases g with
    | loc p q =>
      cases dvs with
      | cons dp r =>
      cases r with
      | cons dq r =>
      cases r
      dsimp only [sgW] at *
      refine mGo_hit rfl rfl ?_
      obtain ⟨q0, hq0⟩ := Option.isSome_iff_exists.mp (show (whereD d p).isSome from hk)
      refine ⟨_, rfl, _, rfl, x, _, d, p, q0, rfl, hx, dp, hq0, fun v H' e dv => ?_⟩
      refine ⟨_, rfl, plD q0, plD q, dv, Dp.same e _ _ dq, shaped_pl _, shaped_pl _, ?_⟩
      rw [eqv_pl]
      have := k H' e
      unfold isS at this
      rw [hq0] at this
      simp only [Option.some.injEq] at this
      exact this
    | bare b =>
      cases dvs with
      | cons dp r =>
      cases r
      cases dp
      dsimp only [sgW] at *
      refine mGo_miss (by dsimp only; decide +kernel) (mGo_hit rfl rfl ?_)
      refine ⟨_, rfl, _, rfl, x, b, d, rfl, hx, fun hin H' e => ?_, fun hno H' e => ?_⟩
      · have := k H' e
        unfold isS at this
        rw [decide_eq_false (fun z => z hin)] at this
        exact this
      · have := k H' e
        unfold isS at this
        rw [decide_eq_true hno] at this
        exact this
    | inn b l =>
      cases dvs with
      | cons dp r =>
      cases r with
      | cons dq r =>
      cases r
      cases dp
      dsimp only [sgW] at *
      refine mGo_miss (by dsimp only; decide +kernel) (mGo_miss (by dsimp only; decide +kernel) (mGo_hit rfl rfl ?_))
      refine ⟨_, rfl, _, rfl, (by show 2 ≤ sizeLine; decide), fun t ht => ?_⟩
      have f1 := same_upd (o := HO.tup [.str ("box" : Str), .int (b : Nat)]) ht
      refine ⟨x, .ref t, d, (.box, (b : Int)), rfl, Dp.same f1 _ _ hx, .tup (SqT.of upd_same) (.cons (.str _) (.cons (.int _) .nil)), hL, fun p xs H' e hs ha => ?_⟩
      have e1 := f1.trans e
      refine ⟨p, xs, rfl, .inl ⟨SqL.of hs, fun t2 ht2 => ?_⟩⟩
      have f2 := same_upd (o := HO.tup xs) ht2
      have e2 := e1.trans f2
      obtain ⟨al, xl, rfl, sl, dl, _⟩ := its_at (Dp.same e2 _ _ dq)
      refine ⟨_, rfl, al, xl, rfl, .inr ⟨sl, itsD (insideOf d b), itsD l, .tup (SqT.of upd_same) (Dp.sames f2 _ _ ha), .tup sl dl, shaped_its _, shaped_its _, ?_⟩⟩
      rw [eqv_its]
      exact k _ e2
    | gone b =>
      cases dvs with
      | cons dp r =>
      cases r
      cases dp
      dsimp only [sgW] at *
      refine mGo_miss (by dsimp only; decide +kernel) (mGo_miss (by dsimp only; decide +kernel) (mGo_miss (by dsimp only; decide +kernel) (mGo_hit rfl rfl ?_)))
      obtain ⟨q, hq⟩ : ∃ q, d.ss[b]? = some q := ⟨_, List.getElem?_eq_getElem hk⟩
      refine ⟨_, rfl, _, rfl, (by show 2 ≤ sizeLine; decide), fun t ht => ?_⟩
      have f1 := same_upd (o := HO.tup [.str ("seal" : Str), .int (b : Nat)]) ht
      refine ⟨x, .ref t, d, (.sl, b), q, rfl, Dp.same f1 _ _ hx, .tup (SqT.of upd_same) (.cons (.str _) (.cons (.int _) .nil)), hq, fun v H' e dv => ?_⟩
      refine ⟨(by show 2 ≤ sizeLine; decide), fun t2 ht2 => ?_⟩
      have f2 := same_upd (o := HO.tup [.str ("gone" : Str), .int 0]) ht2
      refine ⟨plD q, plD (.gone, 0), Dp.same f2 _ _ dv, .tup (SqT.of upd_same) (.cons (.str _) (.cons (.int _) .nil)), shaped_pl _, shaped_pl _, ?_⟩
      rw [eqv_pl]
      have := k _ ((f1.trans e).trans f2)
      unfold isS at this
      rw [hq] at this
      simp only [Option.some.injEq] at this
      exact this
    | nt g =>
      cases dvs with
      | cons dg r =>
      cases r
      dsimp only [sgW] at *
      refine mGo_miss (by dsimp only; decide +kernel) (mGo_miss (by dsimp only; decide +kernel) (mGo_miss (by dsimp only; decide +kernel) (mGo_miss (by dsimp only; decide +kernel) ?_)))
      refine ⟨_, rfl, _, rfl, yd, _, 1, _, rfl, rfl, sy, rfl, x, _, d, g, rfl, (by unfold depS at hn; omega), hx, dg, hk, hL, fun H' e => ?_⟩
      exact ⟨_, rfl, k H' e⟩
/-! ### is_true -/
end
end Kw




set_option Elab.async false
set_option linter.all false
set_option maxRecDepth 100000
set_option maxHeartbeats 4000000
namespace Kw
open PySem PySem.Spec PyProof.Rows L2
/-! ### what a hand holds -/
def kdI (k : Kd) (n : Nat) : List It := (List.range n).map fun i => (k, i)
def allI (d : Hs) : List It := kdI .box d.bs.length ++ kdI .sl d.ss.length ++ kdI .thing d.ts.length
theorem Shp.good {d0 d : Hs} (s : Shp d0 d) (l : List It) : GoodI d0 l ↔ GoodI d l := by
  unfold GoodI
  simp only [s.inH]
section
variable {P : Program} {w : World} {K : PySem.W.Frag} {mg : Str → Option Value} {base : Heap}
/-! ### need_box, of any whole number near 0 -/
structure WIn (K : PySem.W.Frag) (C CW : Addr) (H : Hp) (a h : Addr) (d0 d : Hs) : Prop where
  wd : WorldAt K CW H a h d
  hh : HouseAt K C H h d0
  sh : Shp d0 d
  ls : Ls d
theorem WIn.same {C CW : Addr} {H H' : Hp} {a h : Addr} {d0 d : Hs} (e : Same H H') (x : WIn K C CW H a h d0 d) : WIn K C CW H' a h d0 d := ⟨x.wd.same e, x.hh.nl (nl_same e), x.sh, x.ls⟩
/-! ### where, holder -/
/-! ### what is inside, what is on it -/
/-! ### held -/
/-! ### is_so -/
end
end Kw




set_option Elab.async false
set_option linter.all false
set_option maxRecDepth 100000
set_option maxHeartbeats 4000000
namespace Kw
open PySem PySem.Spec PyProof.Rows L2
theorem allI_len (d : Hs) : (allI d).length = d.bs.length + d.ss.length + d.ts.length := by
  unfold allI kdI
  simp
  omega
section
variable {P : Program} {w : World} {K : PySem.W.Frag} {mg : Str → Option Value} {base : Heap}
/-! ### _law_hands -/
/-! ### all items, with the list itself -/
/-! ### _law_sight -/
theorem noL_sg : ∀ g : Sg, noL (sgD g) = true
  | .loc p q => rfl
  | .bare b => rfl
  | .inn b l => by
    have : noLs (l.map itP) = true := noLs_map itP (fun _ => rfl) l
    simp [sgD, sgT, itsD, noL, noLs, this]
  | .gone b => rfl
  | .nt g => by
    have : noL (sgD g) = true := noL_sg g
    unfold sgD at this
    simp [sgD, sgT, noL, noLs] at this ⊢
    exact this
end
end Kw




set_option Elab.async false
set_option linter.all false
set_option maxRecDepth 100000
set_option maxHeartbeats 4000000
namespace Kw
open PySem PySem.Spec PyProof.Rows L2
section
variable {P : Program} {w : World} {K : PySem.W.Frag} {mg : Str → Option Value} {base : Heap}
end
end Kw




set_option Elab.async false
set_option linter.all false
set_option maxRecDepth 100000
set_option maxHeartbeats 4000000
namespace Kw
open PySem PySem.Spec PyProof.Rows L2
/-- a hand that exists, behind a lesser one -/
def okH (n : Int) (zs : List Int) (i : Nat) : Prop := ∀ z, zs[i]? = some z → numOk z n = true ∧ ∀ z', 0 < i → zs[i - 1]? = some z' → z' < z
/-! ### rows of logs -/
inductive Rw where
  | gap (zs : List Int)
  | deed (e : Dd)
  | sight (g : Sg)
def intsD (zs : List Int) : PyData := .tuple (zs.map .int)
def rwD : Rw → PyData
  | .gap zs => .tuple [.str "gap", intsD zs]
  | .deed e => ddD e
  | .sight g => sgD g
/-- a row that can be by itself -/
def okR (d : Hs) : Rw → Prop
  | .gap zs => ∀ i, okH d.hands zs i
  | .deed e => unkOf d e = ""
  | .sight g => unkS d g = ""
def SmR : Rw → Prop
  | .gap zs => zs.length ≤ 100
  | .deed e => Sm e
  | .sight g => SmS g ∧ depS g < 2
theorem noLs_ints : ∀ zs : List Int, noLs (zs.map PyData.int) = true
  | [] => rfl
  | z :: zs => by
    show (noL (.int z) && noLs (zs.map PyData.int)) = true
    rw [noLs_ints zs]
    rfl
theorem noL_rw : ∀ r : Rw, noL (rwD r) = true
  | .gap zs => by
    show (noL (.str "gap") && (noLs (zs.map PyData.int) && true)) = true
    rw [noLs_ints]
    rfl
  | .deed e => noL_dd e
  | .sight g => noL_sg g
theorem noLs_rw : ∀ rs : List Rw, noLs (rs.map rwD) = true := fun rs => noLs_map rwD noL_rw rs
/-- what a story's rows are -/
def RwOk (d : Hs) (r : Rw) : Prop := okR d r ∧ SmR r
theorem not_le_of {a b : Int} (h : a < b) : ¬ b ≤ a := by omega
theorem unk_of {d : Hs} {e : Dd} (kn : Kn d e) (hb : Hb d e) : unkOf d e = "" := by
  have wl : ∀ {p : It}, (whereD d p).isSome = true → inH d p := fun {p} h => by
    obtain ⟨q, hq⟩ := Option.isSome_iff_exists.mp h
    exact where_lt hq
  have hh : ∀ e : Dd, Kn d e → Hb d e → ¬ d.hands ≤ (e.hand : Nat) := fun e _ hb => by
    cases e with
    | give h p o => exact not_le_of hb.1
    | put h p b => exact not_le_of hb.1
    | take h p b => exact not_le_of hb.1
    | lock h b s => exact not_le_of hb
    | brk h b => exact not_le_of hb
  unfold unkOf
  rw [if_neg (hh e kn hb)]
  have no : ∀ {p : It} {q : Prop}, (whereD d p).isSome = true → ¬ q → ¬ (¬ inH d p ∨ q) := fun {p q} h1 h2 z => by
    rcases z with z | z
    · exact z (wl h1)
    · exact h2 z
  cases e with
  | give h p o =>
    have n1 : ¬ (d.hands ≤ (o : Nat) ∨ o = h) := fun z => by
      rcases z with z | z
      · exact not_le_of hb.2.1 z
      · exact hb.2.2 z
    exact (if_neg (fun z => z (wl kn))).trans (if_neg n1)
  | put h p b =>
    have h2 : b < d.bs.length := kn.2
    exact (if_neg (no kn.1 hb.2.2)).trans ((if_neg (by omega)).trans (if_neg hb.2.1))
  | take h p b =>
    have h2 : b < d.bs.length := kn.2
    exact (if_neg (no kn.1 hb.2.2)).trans ((if_neg (by omega)).trans (if_neg hb.2.1))
  | lock h b s =>
    have h2 : b < d.bs.length := kn.1
    have h3 : s < d.ss.length := kn.2
    exact (if_neg (by omega)).trans (if_neg (by omega))
  | brk h b =>
    have h2 : b < d.bs.length := kn
    exact if_neg (by omega)
end Kw



set_option Elab.async false
set_option linter.all false
set_option maxRecDepth 100000
set_option maxHeartbeats 4000000
namespace Kw
open PySem PySem.Spec PyProof.Rows L2
theorem seq_cont {t u : TS} {D : Ends} {σ : L2.St} {H : Hp} (PP : L2.St → Hp → Prop) (h : ∀ D' : Ends, (∀ σ' H', PP σ' H' → D'.nx σ' H') → t D' σ H) (k : ∀ σ' H', PP σ' H' → u D σ' H') : tSeq t u D σ H := h _ k
theorem ifs_by {c : TT} {t u : TS} {D : Ends} {σ : L2.St} {H : Hp} (PP : Bool → Hp → Prop) (h : ∀ Q' : Bool → Hp → Prop, (∀ b H', PP b H' → Q' b H') → c σ H Q') (k1 : ∀ H', PP true H' → t D σ H') (k2 : ∀ H', PP false H' → u D σ H') : tIfS c t u D σ H :=
  h _ fun b H' p => by
    cases b with
    | true => exact k1 H' p
    | false => exact k2 H' p
theorem HsOk.ls {d : Hs} (h : HsOk d) : Ls d := ⟨by have := h.b1; omega, by have := h.t1; omega, by have := h.s1; omega⟩
theorem Kb.fresh {b l : Addr} {H0 H : Hp} {Z : Addr} (k : Kb b l H0 H) (hB : BoxAt H b l) (hZ : H Z = none) : H0 Z = none := by
  obtain ⟨n1, n2⟩ := hB.neL hZ
  cases h : H0 Z with
  | none => rfl
  | some o =>
    by_cases c1 : ∃ xs, o = .lst xs
    · obtain ⟨xs, rfl⟩ := c1
      have := k.kp.ls _ _ h n1 n2
      rw [hZ] at this
      cases this
    · by_cases c2 : ∃ ps, o = .tbl ps
      · obtain ⟨ps, rfl⟩ := c2
        have := k.tb _ _ h
        rw [hZ] at this
        cases this
      · have := k.kp.nl _ _ h (fun xs z => c1 ⟨xs, z⟩) (fun ps z => c2 ⟨ps, z⟩)
        rw [hZ] at this
        cases this
/-- what a story keeps -/
structure SI (K : PySem.W.Frag) (C b l h R M S : Addr) (d0 : Hs) (H0 : Hp) (n nr : Nat) (v : V) (d : Hs) (H : Hp) : Prop where
  bx : BoxAt H b l
  hh : HouseAt K C H h d0
  st : StF K H v d
  sh : Shp d0 d
  wf : Wf d
  kb : Kb b l H0 H
  r : ∃ (xs : List V) (rs : List Rw), H R = some (.lst xs) ∧ DpAll K H xs (rs.map rwD) ∧ xs.length = nr ∧ ∀ r ∈ rs, RwOk d0 r
  m : ∃ xs, H M = some (.lst xs) ∧ xs.length ≤ n
  s : ∃ xs, H S = some (.lst xs) ∧ xs.length ≤ n
/-- addresses apart -/
structure SA (b l R M S : Addr) (H0 : Hp) : Prop where
  r0 : H0 R = none
  m0 : H0 M = none
  s0 : H0 S = none
  rb : R ≠ b ∧ R ≠ l
  mb : M ≠ b ∧ M ≠ l
  sb : S ≠ b ∧ S ≠ l
  rm : R ≠ M
  rs : R ≠ S
  ms : M ≠ S
section
variable {K : PySem.W.Frag} {C b l h R M S : Addr} {d0 d : Hs} {H0 H H' : Hp} {n nr : Nat} {v : V}
theorem SI.keep (a : SA b l R M S H0) (k : Kb b l H H') (hB : BoxAt H' b l) (x : SI K C b l h R M S d0 H0 n nr v d H) : SI K C b l h R M S d0 H0 n nr v d H' := by
  obtain ⟨r, rs, r1, r2, r3, r4⟩ := x.r
  obtain ⟨m, m1, m2⟩ := x.m
  obtain ⟨s, s1, s2⟩ := x.s
  exact ⟨hB, x.hh.nl k.nl, x.st.nl k.nl, x.sh, x.wf, x.kb.trans k, ⟨r, rs, k.kp.ls _ _ r1 a.rb.1 a.rb.2, Dp.nls k.nl _ _ (noLs_rw rs) r2, r3, r4⟩, ⟨m, k.kp.ls _ _ m1 a.mb.1 a.mb.2, m2⟩, ⟨s, k.kp.ls _ _ s1 a.sb.1 a.sb.2, s2⟩⟩
theorem SI.same (a : SA b l R M S H0) (e : Same H H') (x : SI K C b l h R M S d0 H0 n nr v d H) : SI K C b l h R M S d0 H0 n nr v d H' := x.keep a (Kb.same e) (x.bx.same e)
theorem SI.next {e : Dd} {v' : V} (x : SI K C b l h R M S d0 H0 n nr v d H) (st : StF K H v' (nextOf d e)) (kn : Kn d e) (hb : Hb d e) (br : barOf d e = "") : SI K C b l h R M S d0 H0 n nr v' (nextOf d e) H :=
  ⟨x.bx, x.hh, st, x.sh.trans (Shp.next d e), x.wf.next kn hb br, x.kb, x.r, x.m, x.s⟩
theorem SI.more (x : SI K C b l h R M S d0 H0 n nr v d H) {n' : Nat} (hn : n ≤ n') : SI K C b l h R M S d0 H0 n' nr v d H := by
  obtain ⟨m, m1, m2⟩ := x.m
  obtain ⟨s, s1, s2⟩ := x.s
  exact ⟨x.bx, x.hh, x.st, x.sh, x.wf, x.kb, x.r, ⟨m, m1, by omega⟩, ⟨s, s1, by omega⟩⟩
end
section
variable {P : Program} {w : World} {K : PySem.W.Frag} {mg : Str → Option Value} {base : Heap}
end
end Kw




set_option Elab.async false
set_option linter.all false
set_option maxRecDepth 100000
set_option maxHeartbeats 4000000
namespace Kw
open PySem PySem.Spec PyProof.Rows L2
/-! ### errors that have an index -/
def ixFs (i : Int) : List (Str × V) := [("index", .int i)]
def spIx (C : Addr) : Sp := fun vs H Q _ => ∃ (a : Addr) (i : Int), vs = [.ref a, .int i] ∧ H a = some (exo a C none) ∧ 0 ≤ i ∧ i ≤ 1000 ∧
  ∀ dx, H dx = none → dx ≠ a → Q .non (upd (upd H dx (exd dx (ixFs i))) a (exo a C (some dx)))
/-- its class, which the program makes -/
structure ExcX (P : Program) (K : PySem.W.Frag) (mg : Str → Option Value) (x qual : Str) (st : Stmt) (C f : Addr) (fd : FuncData) : Prop where
  sup : SupC P K mg C
  at_ : PySem.W.findIn K (.ref C) "__init__" = some (some (.ref f))
  ty : PySem.W.typeIn K (.ref f) = some (.type "function")
  mgC : mg x = some (.ref C)
  ex : ∃ (oc : Value) (od : Option Addr) (kV doc pm : Value) (an : Option Addr) (ct : Value) (osl : Array (Option Value)) (cc cda : Addr), fd = PySem.W.ksFn "__init__" qual (defArgs st) (defBody st) (defScope st) .none kV doc pm an (.ref cda) ct cc ∧
    K.lookup f = some ⟨oc, od, .func fd, osl⟩ ∧ PySem.W.codeIn K (.ref cda) qual = true ∧
    (∃ ccl cdd vsC ccs fileS tf, K.lookup cda = some ⟨ccl, cdd, .fields vsC, ccs⟩ ∧ vsC[2]? = some (.str fileS tf) ∧ ((P.main.file : Str) == fileS) = true) ∧
    (∃ cl cld csl, K.lookup cc = some ⟨cl, cld, .cell (some (.ref C)), csl⟩)
  bind : Binds K fd (["self", "index"] : List Str) []
section
variable {P : Program} {w : World} {K : PySem.W.Frag} {mg : Str → Option Value} {base : Heap}
end
/-- C(i) is let out -/
def Rx (C : Addr) (i : Nat) (H : Hp) (E : XK) : Prop := ∀ dd H', Same H H' → H' dd = some (.xd (ixFs i)) → E (.ref C) (some dd) H'
theorem Rx.same {C : Addr} {i : Nat} {H H' : Hp} {E : XK} (e : Same H H') (r : Rx C i H E) : Rx C i H' E := fun dd H2 e2 h => r dd H2 (e.trans e2) h
theorem ix_made {C : Addr} {H : Hp} {E : XK} {i : Nat} (hi : i ≤ 1000) (r : Rx C i H E) :
    ∀ a, H a = none → spIx C (.ref a :: ([.int i] ++ [])) (upd H a (exo a C none))
      (fun v H2 => v = .non ∧ ∃ (d : Addr) (fs : List (Str × V)), H2 a = some (exo a C (some d)) ∧ H2 d = some (exd d fs) ∧ H d = none ∧ E (.ref C) (some d) (upd (del H2 a) d (.xd fs))) (fun _ _ _ => False) := fun a ha => by
  refine ⟨a, i, rfl, upd_same, by omega, by omega, fun dx hd ne => ⟨rfl, dx, _, upd_same, by rw [upd_ne ne, upd_same], by rw [upd_ne ne] at hd; exact hd, ?_⟩⟩
  have hdx : H dx = none := by rw [upd_ne ne] at hd; exact hd
  refine r dx _ (fun b o e => ?_) upd_same
  have n1 : b ≠ dx := ne_of_none e hdx
  have n2 : b ≠ a := ne_of_none e ha
  rw [upd_ne n1, del_ne n2, upd_ne n2, upd_ne n1, upd_ne n2]
  exact e
end Kw



set_option Elab.async false
set_option linter.all false
set_option maxRecDepth 100000
set_option maxHeartbeats 4000000
namespace Kw
open PySem PySem.Spec PyProof.Rows L2
section
variable {P : Program} {w : World} {K : PySem.W.Frag} {mg : Str → Option Value} {base : Heap}
end
end Kw



set_option Elab.async false
set_option linter.all false
set_option maxRecDepth 100000
set_option maxHeartbeats 4000000
namespace Kw
open PySem PySem.Spec PyProof.Rows L2
theorem unk_names5 {d0 : Hs} {e : Dd} {z : Str} (h : unkOf d0 e = z) (n : z ≠ "") : z = "UnknownHand" ∨ z = "UnknownItem" ∨ z = "UnknownBox" ∨ z = "UnknownSeal" ∨ z = "InsideItself" := by
  subst h
  revert n
  unfold unkOf
  cases e <;> dsimp only <;> (repeat' split) <;> intro n <;> first | exact absurd rfl n | exact .inl rfl | exact .inr (.inl rfl) | exact .inr (.inr (.inl rfl)) | exact .inr (.inr (.inr (.inl rfl))) | exact .inr (.inr (.inr (.inr rfl)))
section
variable {P : Program} {w : World} {K : PySem.W.Frag} {mg : Str → Option Value} {base : Heap}
end
end Kw



set_option Elab.async false
set_option linter.all false
set_option maxRecDepth 100000
set_option maxHeartbeats 4000000
namespace Kw
open PySem PySem.Spec PyProof.Rows L2
section
variable {P : Program} {w : World} {K : PySem.W.Frag} {mg : Str → Option Value} {base : Heap}
/-! ### need_rows -/
/-- the least row that is wrong, or one too many -/
def BadAt (d : Hs) (rs : List Rw) (i : Nat) : Prop := i < rs.length ∧ (∀ j, j < i → j < 30 ∧ ∀ r, rs[j]? = some r → okR d r) ∧ (i = 30 ∨ ∃ r, rs[i]? = some r ∧ ¬ okR d r)
/-- what is caught as an error of the package -/
structure Caught (K : PySem.W.Frag) (ce : Str → Addr) (X CW : Addr) : Prop where
  x : PySem.W.exmOne K (.ref X) (.ref CW) = some true
  z : ∀ z : Str, (z = "UnknownHand" ∨ z = "UnknownItem" ∨ z = "UnknownBox" ∨ z = "UnknownSeal" ∨ z = "InsideItself") → PySem.W.exmOne K (.ref (ce z)) (.ref CW) = some true
end
end Kw



set_option Elab.async false
set_option linter.all false
set_option maxRecDepth 100000
set_option maxHeartbeats 4000000
/-! Own operators of an object that holds rows: len(o), o[i], o + a list. -/
namespace Kw
open PySem PySem.Spec PyProof.Rows L2
section
variable {X : Cx} {CX : CXT} {C f : Addr} {fd : FuncData} {k : Nat} {ps : List Str} {sp : Sp} {E : XK}
end
end Kw



set_option Elab.async false
set_option linter.all false
set_option maxRecDepth 100000
set_option maxHeartbeats 4000000
namespace Kw
open PySem PySem.Spec PyProof.Rows L2
/-! ### rows as data -/
/-! ### class Log -/
structure LogAt (K : PySem.W.Frag) (C CL : Addr) (H : Hp) (a h : Addr) (d : Hs) (rs : List Rw) : Prop where
  hh : HouseAt K C H h d
  ex : ∃ dx fs t xs, H a = some (.ins CL dx fs) ∧ fs.lookup ("house" : Str) = some (.ref h) ∧ fs.lookup ("rows" : Str) = some (.ref t) ∧ (∀ x : Str, ¬ x = "house" → ¬ x = "rows" → fs.lookup x = none) ∧ SqT K H t xs ∧ DpAll K H xs (rs.map rwD)
theorem LogAt.nl {K : PySem.W.Frag} {C CL : Addr} {H H' : Hp} {a h : Addr} {d : Hs} {rs : List Rw} (k : Nl H H') (x : LogAt K C CL H a h d rs) : LogAt K C CL H' a h d rs := by
  obtain ⟨dx, fs, t, xs, h0, h1, h2, h3, h4, h5⟩ := x.ex
  exact ⟨x.hh.nl k, dx, fs, t, xs, k _ _ h0 (fun _ z => nomatch z) (fun _ z => nomatch z), h1, h2, h3, SqT.nl k h4, Dp.nls k _ _ (noLs_rw rs) h5⟩
theorem LogAt.same {K : PySem.W.Frag} {C CL : Addr} {H H' : Hp} {a h : Addr} {d : Hs} {rs : List Rw} (k : Same H H') (x : LogAt K C CL H a h d rs) : LogAt K C CL H' a h d rs := x.nl (nl_same k)
structure OnceY (P : Program) (w : World) (K : PySem.W.Frag) (mg : Str → Option Value) (base : Heap) (x : Str) (n : Nat) (ps : List Str) (sp : Sp) (g : Addr) (fd : FuncData) : Prop where
  G : FnOk P w K mg base (L2.CX P w) n g fd ps sp
  m : mg x = some (.ref g)
  k : PySem.W.keepIn K (.ref g) = true
  b : Binds K fd ps []
section
variable {P : Program} {w : World} {K : PySem.W.Frag} {mg : Str → Option Value} {base : Heap}
end
end Kw



set_option Elab.async false
set_option linter.all false
set_option maxRecDepth 100000
set_option maxHeartbeats 4000000
namespace Kw
open PySem PySem.Spec PyProof.Rows L2
theorem weakN {P : Program} {w : World} {K : PySem.W.Frag} {mg : Str → Option Value} {base : Heap} {k : Nat} {f : Addr} {fd : FuncData} {ps : List Str} {sp : Sp} (F : FnOk P w K mg base (L2N.CX P w) k f fd ps sp) : FnOk P w K mg base (L2.CX P w) k f fd ps sp :=
  ⟨F.len, fun A outer s H args us vs Q E hr e0 hb r h => codeAny_mono (F.run A outer s H args us vs Q E hr e0 hb r h) fun r s' x => by
    cases r with
    | error e =>
      obtain ⟨a, B, H', cls, d, h1, h2, h3⟩ := (show L2N.CX P w outer H s E e s' from x)
      exact (show L2.CX P w outer H s E e s' from ⟨a, B, H', cls, d, h1, L2H.flyingZ_imp (fun o z => z.zc) h2, h3⟩)
    | ok fl => cases fl <;> exact x⟩
theorem okH_iff {n : Int} {zs : List Int} : (∀ i, okH n zs i) ↔ (∀ z ∈ zs, numOk z n = true) ∧ zs.Pairwise (· < ·) := by
  constructor
  · intro h
    refine ⟨fun z hz => ?_, ?_⟩
    · obtain ⟨i, hi⟩ := List.mem_iff_getElem?.mp hz
      exact (h i z hi).1
    · have step : ∀ (k i : Nat) (z z' : Int), zs[i]? = some z → zs[i + k + 1]? = some z' → z < z' := by
        intro k
        induction k with
        | zero =>
          intro i z z' h1 h2
          exact (h (i + 0 + 1) z' h2).2 z (by omega) h1
        | succ k ih =>
          intro i z z' h1 h2
          have hl := (List.getElem?_eq_some_iff.mp h2).1
          obtain ⟨y, hy⟩ : ∃ y, zs[i + k + 1]? = some y := ⟨_, List.getElem?_eq_getElem (by omega)⟩
          have a1 := ih i z y h1 hy
          have a2 := (h (i + (k + 1) + 1) z' h2).2 y (by omega) (by rw [show i + (k + 1) + 1 - 1 = i + k + 1 by omega]; exact hy)
          omega
      refine List.pairwise_iff_getElem.mpr fun i j hi hj hij => ?_
      refine step (j - i - 1) i _ _ (List.getElem?_eq_getElem hi) ?_
      rw [show i + (j - i - 1) + 1 = j by omega]
      exact List.getElem?_eq_getElem hj
  · rintro ⟨h1, h2⟩ i z hz
    refine ⟨h1 z (List.mem_of_getElem? hz), fun z' h0 hz' => ?_⟩
    obtain ⟨i1, q1⟩ := List.getElem?_eq_some_iff.mp hz
    obtain ⟨i2, q2⟩ := List.getElem?_eq_some_iff.mp hz'
    have := List.pairwise_iff_getElem.mp h2 (i - 1) i i2 i1 (by omega)
    rw [q1, q2] at this
    exact this
/-- the hands of a gap that are among some -/
def keepR (zs : List Int) : Rw → Rw
  | .gap ys => .gap (ys.filter fun y => decide (y ∈ zs))
  | r => r
theorem keep_ok {d : Hs} {zs : List Int} {r : Rw} (h : RwOk d r) : RwOk d (keepR zs r) := by
  cases r with
  | gap ys =>
    have h1 := okH_iff.mp h.1
    refine ⟨okH_iff.mpr ⟨fun z hz => h1.1 z (List.mem_filter.mp hz).1, h1.2.sublist List.filter_sublist⟩, ?_⟩
    have a : ys.length ≤ 100 := h.2
    have b := List.length_filter_le (fun y => decide (y ∈ zs)) ys
    show (ys.filter fun y => decide (y ∈ zs)).length ≤ 100
    omega
  | deed e => exact h
  | sight g => exact h
theorem inV_ints (z : Int) : ∀ zs : List Int, inV (.int z) (zs.map V.int) = decide (z ∈ zs)
  | [] => by simp [inV]
  | y :: zs => by
    have ih := inV_ints z zs
    simp only [inV, List.map_cons, List.any_cons, eqV] at ih ⊢
    rw [ih]
    by_cases c : y = z
    · subst c
      simp
    · have c' : ¬ z = y := fun q => c q.symm
      simp [c, c']
theorem flat_ints : ∀ zs : List Int, (zs.map V.int).all flatV = true
  | [] => rfl
  | z :: zs => by
    show (flatV (.int z) && (zs.map V.int).all flatV) = true
    rw [flat_ints zs]
    rfl
/-- a log whose rows can be -/
structure Vld (d : Hs) (rs : List Rw) : Prop where
  l : rs.length ≤ 30
  ok : ∀ r ∈ rs, RwOk d r
theorem Vld.take {d : Hs} {rs : List Rw} (v : Vld d rs) (n : Nat) : Vld d (rs.take n) := ⟨by have := v.l; have := List.length_take_le n rs; have := List.length_take (i := n) (l := rs); omega, fun r hr => v.ok r (List.mem_of_mem_take hr)⟩
theorem Vld.keep {d : Hs} {rs : List Rw} (v : Vld d rs) (zs : List Int) : Vld d (rs.map (keepR zs)) := ⟨by rw [List.length_map]; exact v.l, fun r hr => by
  obtain ⟨q, hq, rfl⟩ := List.mem_map.mp hr
  exact keep_ok (v.ok q hq)⟩
theorem Vld.bad {d : Hs} {rs : List Rw} (v : Vld d rs) {i : Nat} (b : BadAt d rs i) : False := by
  obtain ⟨h1, h2, h3 | ⟨r, hr, hn⟩⟩ := b
  · have := v.l
    omega
  · exact hn (v.ok r (List.mem_of_getElem? hr)).1
section
variable {P : Program} {w : World} {K : PySem.W.Frag} {mg : Str → Option Value} {base : Heap}
/-! ### gaps, len, items -/
end
end Kw



set_option Elab.async false
set_option linter.all false
set_option maxRecDepth 100000
set_option maxHeartbeats 4000000
namespace Kw
open PySem PySem.Spec PyProof.Rows L2
section
variable {P : Program} {w : World} {K : PySem.W.Frag} {mg : Str → Option Value} {base : Heap}
/-! ### == -/
/-! ### + -/
/-! ### until -/
/-! ### watched -/
theorem lc_in {σ : L2.St} {H1 : Hp} {D t : Addr} {Qd : Hp → Prop} (ys : List Int) (a : Addr) (zs : List Int) (hn : ys.length ≤ 1000) (hD : H1 D = none) (st : SqT K H1 t (ys.map V.int)) (sa : SqT K H1 a (zs.map V.int)) (hj : 4 < σ.length)
    (h1 : ∀ y, ((wipe σ [4]).set 4 y)[1]? = some (some (.ref a)))
    (hd : ∀ H, Same H1 H → H D = some (.lst ((ys.filter fun y => decide (y ∈ zs)).map V.int)) → Qd H) :
    ∃ W : Nat → Nat → Hp → Prop, (∃ m, W 0 m (upd H1 D (.lst []))) ∧ ∀ i m H, W i m H →
      ((Itt K t).stop i H ∧ Qd H) ∨ ((Itt K t).go i H ∧ ∃ Nx : Hp → Prop, (∀ H', Nx H' → ∃ m', m' < m ∧ W (i + 1) m' H') ∧ ∀ x H', (Itt K t).yld i H x H' → gName 4 x (wipe σ [4]) H' fun σ2 H2 => wipe σ2 [4] = wipe σ [4] ∧ (tTest (tOp (rIn K false) (tVar 4) (tVar 1))) σ2 H2 fun b H3 =>
        if b = true then (tVar 4) σ2 H3 fun y H4 => ∃ acc, H4 D = some (.lst acc) ∧ acc.length < sizeLine ∧ Nx (upd H4 D (.lst (acc ++ [y]))) else Nx H3) := by
  have e0 : ∀ (H' : Hp) (o : HO), Same H1 H' → Same H1 (L2.upd H' D o) := fun H' o e c u h => by rw [upd_ne (ne_of_none h hD)]; exact e c u h
  refine lc_tup (K := K) (a := t) (xs := ys.map V.int) (fun i H => Same H1 H ∧ H D = some (.lst (((ys.take i).filter fun y => decide (y ∈ zs)).map V.int))) ⟨same_upd hD, upd_same⟩ (fun i H _ p => SqT.same p.1 st) ?_ ?_
  · rintro i x H hi ⟨e, hz⟩
    rw [List.getElem?_map] at hi
    cases hy : ys[i]? with
    | none => rw [hy] at hi; cases hi
    | some y =>
      rw [hy] at hi
      cases hi
      have hv4 : ((wipe σ [4]).set 4 (some (V.int y)))[4]? = some (some (V.int y)) := List.getElem?_set_self (by rw [wipe_length]; exact hj)
      have et : ys.take (i + 1) = ys.take i ++ [y] := by rw [List.take_add_one, hy]; rfl
      refine ⟨wipe_one _ 4 _, _, hv4, _, h1 _, a, _, rfl, .inr (SqT.same e sa), rfl, flat_ints zs, _, rfl, ?_⟩
      rw [inV_ints]
      have ll : (((ys.take i).filter fun y => decide (y ∈ zs)).map V.int).length ≤ 1000 := by
        rw [List.length_map]
        have a1 := List.length_filter_le (fun y => decide (y ∈ zs)) (ys.take i)
        have a2 := List.length_take_le i ys
        have a3 := List.length_take (i := i) (l := ys)
        omega
      refine ite_b _ (fun c => ?_) (fun c => ?_)
      · refine ⟨_, hv4, _, hz, by rw [sizeLine_eq]; omega, e0 _ _ e, ?_⟩
        have c' : decide (y ∈ zs) = true := c
        rw [et, List.filter_append, List.map_append, List.filter_cons, c', if_pos rfl]
        exact upd_same
      · refine ⟨e, ?_⟩
        have c' : decide (y ∈ zs) = false := c
        rw [et, List.filter_append, List.map_append, List.filter_cons, c', if_neg (by decide)]
        show _ = some (HO.lst (_ ++ []))
        rw [List.append_nil]
        exact hz
  · rintro H ⟨e, hz⟩
    refine hd H e ?_
    rw [List.length_map, List.take_of_length_le (Nat.le_refl _)] at hz
    exact hz
end
end Kw



set_option Elab.async false
set_option linter.all false
set_option maxRecDepth 100000
set_option maxHeartbeats 4000000
namespace Kw
open PySem PySem.Spec PyProof.Rows L2
/-! ## the laws of the second form: their draws -/
abbrev sMix : Stmt := top 64
abbrev sNx : Stmt := top 65
def HAt (H : Hp) (h c : Addr) : Prop := ∃ (st k : Int) (ns : List Int), H h = some (.lst [.int st, .ref c, .int k]) ∧ H c = some (.lst (ns.map V.int)) ∧ ns.length ≤ 63
theorem HAt.same {H H' : Hp} {h c : Addr} (e : Same H H') (x : HAt H h c) : HAt H' h c := by
  obtain ⟨st, k, ns, h1, h2, h3⟩ := x
  exact ⟨st, k, ns, e _ _ h1, e _ _ h2, h3⟩
theorem HAt.upd {H : Hp} {h c p : Addr} {o : HO} (hp : H p = none) (x : HAt H h c) : HAt (L2.upd H p o) h c := HAt.same (same_upd hp) x
theorem HAt.ne {H : Hp} {h c : Addr} (x : HAt H h c) : h ≠ c := by
  obtain ⟨st, k, ns, h1, h2, _⟩ := x
  refine ne_of h1 h2 fun z => ?_
  have z' : [V.int st, V.ref c, V.int k] = ns.map V.int := HO.lst.inj z
  match ns, z' with
  | [], z' => cases z'
  | [n], z' => cases z'
  | n :: m :: r, z' => cases z'
theorem HAt.neL {H : Hp} {h c D : Addr} (x : HAt H h c) (hD : H D = .none) : D ≠ h ∧ D ≠ c := by
  obtain ⟨st, k, ns, h1, h2, _⟩ := x
  exact ⟨(ne_of_none h1 hD).symm, (ne_of_none h2 hD).symm⟩
theorem HAt.updD {H : Hp} {h c D : Addr} {o : HO} (x : HAt H h c) (n1 : D ≠ h) (n2 : D ≠ c) : HAt (L2.upd H D o) h c := by
  obtain ⟨st, k, ns, h1, h2, h3⟩ := x
  exact ⟨st, k, ns, by rw [upd_ne n1.symm]; exact h1, by rw [upd_ne n2.symm]; exact h2, h3⟩
section
variable {P : Program} {w : World} {K : PySem.W.Frag} {mg : Str → Option Value} {base : Heap}
def spMix (K : PySem.W.Frag) : Sp := fun vs H Q _ => ∃ (a : Addr) (seed : Int) (ns : List Int), vs = [.ref a, .int seed] ∧ SqL K H a (ns.map V.int) ∧ ns.length ≤ 63 ∧ ∀ h c H', Same H H' → HAt H' h c → Q (.ref h) H'
theorem scMix : FnScope ["_law_script", "_law_seed", "_law_state", "_law_cell"] ["_law_script", "_law_seed"] (defScope sMix) := ⟨rfl, rfl, rfl, by decide +kernel, rfl, by decide +kernel, by decide +kernel⟩
theorem ok_mix {f : Addr} {fd : FuncData} (F : Fun K "_law_mix" "_law_mix" sMix f fd) (B : Bt mg) : FnOk P w K mg base CX0 1 f fd ["_law_script", "_law_seed"] (spMix K) := by
  refine F.ok scMix (fun vs H Q E h => ?_) (fun cdv A outer s H vs Q E hr h => ?_)
  · obtain ⟨a, seed, ns, rfl, _⟩ := h
    rfl
  · obtain ⟨a, seed, ns, rfl, hs, hl, k⟩ := h
    refine ⟨_, (pss_cons (ps_set (i := 2) scMix.nd rfl (.inl rfl) (pv 1)) (pss_cons (ps_for PassesOwn.never rfl (pi_list (pv 0)) (pg_name (i := 3) scMix.nd rfl (.inl rfl)) (pss_one (ps_set (i := 2) scMix.nd rfl (.inl rfl) (pe_op op_mod (pe_callTy call_int1 (by rfl) B.int (by decide +kernel) (pa_cons (pe_op op_add (pe_op op_add (pe_op op_mul (pv 2) pe_int) (pe_op op_mod (pe_callTy call_int1 (by rfl) B.int (by decide +kernel) (pa_cons (pv 3) pa_nil)) pe_int)) pe_int) pa_nil)) pe_int)))) (pss_one (ps_ret (pe_lst (pa_cons (pv 2) (pa_cons (pe_callTy call_list_of (by rfl) B.lst (by decide +kernel) (pa_cons (pv 0) pa_nil)) (pa_cons pe_int pa_nil)))))))), ?_⟩
    refine ⟨_, rfl, _, rfl, a, rfl, ⟨_, hs⟩, for_list (K := K) (a := a) (xs := ns.map V.int) (fun i σ H2 => H2 = H ∧ ∃ (z : Int) (v : Option V), σ = [some (.ref a), some (.int seed), some (.int z), v])
      ⟨rfl, seed, none, rfl⟩ (fun i σ H2 _ ⟨e, _⟩ => by rw [e]; exact hs) ?_ ?_⟩
    · rintro i y σ H2 hi ⟨rfl, z, v, rfl⟩
      obtain ⟨c, rfl⟩ : ∃ c, y = V.int c := by
        rw [List.getElem?_map] at hi
        cases e : ns[i]? with
        | none => rw [e] at hi; cases hi
        | some c => rw [e] at hi; exact ⟨c, (Option.some.inj hi).symm⟩
      refine ⟨_, rfl, _, _, rfl, rfl, .inr (by decide), _, rfl, .inl ⟨_, rfl, _, _, rfl, rfl, (show (0 : Int) < 2147483629 by decide), _, _, rfl, rfl, _, _, rfl, rfl, .inl ⟨_, rfl, _, _, rfl, rfl, (show (0 : Int) < 2147483647 by decide), ?_⟩⟩⟩
      exact ⟨rfl, _, _, rfl⟩
    · rintro σ H2 ⟨rfl, z, v, rfl⟩
      refine ⟨_, rfl, _, rfl, a, _, rfl, .inl hs, fun l hl' => ?_⟩
      refine ⟨(by show 3 ≤ sizeLine; decide), fun b hb => ?_⟩
      have e1 := same_upd (o := HO.lst (ns.map V.int)) hl'
      have e2 := Same.upd2 (o := HO.lst [V.int z, V.ref l, .int 0]) e1 hb
      refine k b l _ e2 ⟨_, _, ns, upd_same, ?_, hl⟩
      rw [upd_ne (fun q => by rw [← q, upd_same] at hb; cases hb), upd_same]
def spNx : Sp := fun vs H Q _ => ∃ (h c : Addr) (m : Int), vs = [.ref h, .int m] ∧ 0 < m ∧ m ≤ 1000 ∧ HAt H h c ∧ ∀ r H', 0 ≤ r → r < m → HAt H' h c → Kb h c H H' → Q (.int r) H'
theorem scNx : FnScope ["_law_h", "_law_limit", "_law_cell"] ["_law_h", "_law_limit"] (defScope sNx) := ⟨rfl, rfl, rfl, by decide +kernel, rfl, by decide +kernel, by decide +kernel⟩
theorem ok_nx {f : Addr} {fd : FuncData} (F : Fun K "_law_next" "_law_next" sNx f fd) (B : Bt mg) (mX : mg "max" = none) : FnOk P w K mg base CX0 1 f fd ["_law_h", "_law_limit"] spNx := by
  refine F.ok scNx (fun vs H Q E h => ?_) (fun cdv A outer s H vs Q E hr h => ?_)
  · obtain ⟨h, c, m, rfl, _⟩ := h
    rfl
  · obtain ⟨h, c, m, rfl, m0, m1, hB, k⟩ := h
    have nhc := hB.ne
    obtain ⟨st, z, ns, hh, hc, hn⟩ := hB
    refine ⟨_, (pss_cons (ps_set (i := 2) scNx.nd rfl (.inl rfl) (pe_ix ix_list (pe_op op_cat (pe_ix ix_list (pv 0) pe_int (fun _ _ => rfl)) (pe_lst (pa_cons pe_int pa_nil))) (pe_op op_mod (pe_callTy call_int1 (by rfl) B.int (by decide +kernel) (pa_cons (pe_ix ix_list (pv 0) pe_int (fun _ _ => rfl)) pa_nil)) (pe_callB (call_max2 rfl) (by rfl) mX (by decide +kernel) (pa_cons pe_int (pa_cons (pe_callB call_len_seq (by rfl) B.len PySem.boot_len (pa_cons (pe_ix ix_list (pv 0) pe_int (fun _ _ => rfl)) pa_nil)) pa_nil)))) (fun _ _ => rfl))) (pss_cons (ps_if (pt_cmpR op_ge (pv 2) (pe_op op_pow pe_int pe_int) (nomark _)) (pss_cons (ps_asg (pe_op op_fdiv (pv 2) (pv 1)) (pg_sub (pe_ix ix_list (pv 0) pe_int (fun _ _ => rfl)) (pe_op op_mod (pe_callTy call_int1 (by rfl) B.int (by decide +kernel) (pa_cons (pe_ix ix_list (pv 0) pe_int (fun _ _ => rfl)) pa_nil)) (pe_callB call_len_seq (by rfl) B.len PySem.boot_len (pa_cons (pe_ix ix_list (pv 0) pe_int (fun _ _ => rfl)) pa_nil))) set_list)) (pss_one (ps_ret (pe_op op_mod (pe_callTy call_int1 (by rfl) B.int (by decide +kernel) (pa_cons (pv 2) pa_nil)) (pv 1))))) pss_nil) (pss_cons (ps_asg (pe_op op_mod (pe_callTy call_int1 (by rfl) B.int (by decide +kernel) (pa_cons (pe_op op_add (pe_op op_add (pe_op op_mul (pe_ix ix_list (pv 0) pe_int (fun _ _ => rfl)) pe_int) (pe_op op_mul (pv 2) pe_int)) pe_int) pa_nil)) pe_int) (pg_sub (pv 0) pe_int set_list)) (pss_cons (ps_asg (pe_op op_add (pe_ix ix_list (pv 0) pe_int (fun _ _ => rfl)) pe_int) (pg_sub (pv 0) pe_int set_list)) (pss_one (ps_ret (pe_op op_mod (pe_callTy call_int1 (by rfl) B.int (by decide +kernel) (pa_cons (pe_op op_fdiv (pe_ix ix_list (pv 0) pe_int (fun _ _ => rfl)) pe_int) pa_nil)) (pv 1)))))))), ?_⟩
    have ll : (ns.map V.int).length = ns.length := List.length_map ..
    refine ⟨_, rfl, h, _, 1, _, rfl, rfl, SqL.of hh, rfl, (by show 1 ≤ sizeLine; decide), fun p0 hp0 => ?_⟩
    have e0 : Same H (L2.upd H p0 (.lst [.int 0])) := same_upd hp0
    have l5 := sizeLine_eq
    refine ⟨c, p0, _, _, rfl, rfl, e0 _ _ hc, upd_same, (by rw [ll]; show ns.length + 1 ≤ sizeLine; omega), fun p hp => ?_⟩
    have e1 := Same.upd2 (o := HO.lst (ns.map V.int ++ [.int 0])) e0 hp
    refine ⟨_, rfl, h, _, 2, _, rfl, rfl, SqL.of (e1 _ _ hh), rfl, .inl ⟨_, rfl, _, rfl, h, _, 1, _, rfl, rfl, SqL.of (e1 _ _ hh), rfl, c, _, rfl, .inl (SqL.of (e1 _ _ hc)), _, _, rfl, _, _, rfl, rfl, ?_, ?_⟩⟩
    · split
      · rename_i g
        omega
      · decide
    obtain ⟨q, hq, q0, q1⟩ : ∃ q : Nat, (z % (if (((ns.map V.int).length : Nat) : Int) > 1 then (((ns.map V.int).length : Nat) : Int) else 1)) = (q : Nat) ∧ (q = 0 ∨ q < ns.length) ∧ (0 < ns.length → q < ns.length) := by
      rw [ll]
      by_cases g : ((ns.length : Nat) : Int) > 1
      · rw [if_pos g]
        have g1 := Int.emod_nonneg z (show ((ns.length : Nat) : Int) ≠ 0 by omega)
        have g2 := Int.emod_lt_of_pos z (show (0 : Int) < ((ns.length : Nat) : Int) by omega)
        exact ⟨(z % ((ns.length : Nat) : Int)).toNat, by omega, by omega, by omega⟩
      · rw [if_neg g]
        exact ⟨0, by omega, .inl rfl, by omega⟩
    obtain ⟨cl, hcl, c0⟩ : ∃ cl : Int, (ns.map V.int ++ [V.int 0])[q]? = some (V.int cl) ∧ (ns = [] → cl = 0) := by
      by_cases g : 0 < ns.length
      · have g1 := q1 g
        refine ⟨ns[q], ?_, fun e => by rw [e] at g; exact absurd g (by decide)⟩
        rw [List.getElem?_append_left (by rw [ll]; exact g1), List.getElem?_map, List.getElem?_eq_getElem g1]
        rfl
      · have g2 : ns = [] := List.length_eq_zero_iff.mp (by omega)
        subst g2
        refine ⟨0, ?_, fun _ => rfl⟩
        rcases q0 with rfl | q0
        · rfl
        · exact absurd q0 (by simp)
    refine ⟨p, _, _, _, rfl, rfl, SqL.of upd_same, by rw [hq]; exact atI_nat hcl, ?_⟩
    have fin : ∀ (ns' : List Int) (st' z' : Int), ns'.length ≤ 63 → ∀ H', H' h = some (.lst [.int st', .ref c, .int z']) → H' c = some (.lst (ns'.map V.int)) → (∀ a o, H a = some o → a ≠ h → a ≠ c → H' a = some o) →
        ∀ x : Int, Q (.int (x % m)) H' := fun ns' st' z' hn' H' g1 g2 g3 x => by
      refine k _ _ (Int.emod_nonneg _ (by omega)) (Int.emod_lt_of_pos _ m0) ⟨st', z', ns', g1, g2, hn'⟩ ⟨⟨fun a o h1 n1 n2 => ?_, fun a xs h1 n1 n2 => ?_⟩, fun a ps h1 => ?_⟩
      · exact g3 a o h1 (ne_of h1 hh (n1 _)) (ne_of h1 hc (n1 _))
      · exact g3 a _ h1 n1 n2
      · exact g3 a _ h1 (ne_of h1 hh (by intro q; cases q)) (ne_of h1 hc (by intro q; cases q))
    have hh1 := e1 _ _ hh
    have hc1 := e1 _ _ hc
    refine ⟨_, rfl, _, _, rfl, rfl, ⟨by decide, by decide, by decide⟩, _, _, rfl, rfl, _, rfl, ?_⟩
    refine ite2 (fun g => ?_) (fun g => ?_)
    · have g' : (10 : Int) ^ 18 ≤ cl := of_decide_eq_true g
      have hpos : 0 < ns.length := by
        rcases Nat.eq_zero_or_pos ns.length with e | e
        · rw [c0 (List.length_eq_zero_iff.mp e)] at g'
          exact absurd g' (by decide)
        · exact e
      have g1 := Int.emod_nonneg z (show ((ns.length : Nat) : Int) ≠ 0 by omega)
      have g2 := Int.emod_lt_of_pos z (show (0 : Int) < ((ns.length : Nat) : Int) by omega)
      refine ⟨_, rfl, _, rfl, _, _, rfl, rfl, ⟨m0, by omega⟩, _, rfl, h, _, 1, _, rfl, rfl, SqL.of hh1, rfl, _, rfl, h, _, 2, _, rfl, rfl, SqL.of hh1, rfl, .inl ⟨_, rfl, _, rfl, h, _, 1, _, rfl, rfl, SqL.of hh1, rfl, c, _, rfl, .inl (SqL.of hc1), _, _, rfl, rfl, ?_, ?_⟩⟩
      · rw [ll]; omega
      refine ⟨c, _, _, (z % ((ns.length : Nat) : Int)).toNat, rfl, by rw [ll], hc1, ?_, ?_⟩
      · rw [ll]
        unfold ixN
        rw [if_pos g1, if_pos g2]
      refine ⟨_, rfl, .inl ⟨_, rfl, _, rfl, _, _, rfl, rfl, m0, ?_⟩⟩
      refine fin (ns.set (z % ((ns.length : Nat) : Int)).toNat (cl / m)) st z (by rw [List.length_set]; exact hn) _ (by rw [upd_ne nhc]; exact hh1) ?_ (fun a o h1 n1 n2 => ?_) cl
      · rw [upd_same]
        show some (HO.lst ((ns.map V.int).set _ (V.int (cl / m)))) = _
        rw [List.map_set]
      · rw [upd_ne n2]
        exact e1 _ _ h1
    · refine ⟨_, rfl, h, _, 0, _, rfl, rfl, SqL.of hh1, rfl, _, _, rfl, rfl, .inr ⟨by decide, by decide⟩, _, rfl, _, _, rfl, rfl, .inr ⟨by decide, by decide⟩, _, _, rfl, rfl, _, _, rfl, rfl, .inl ⟨_, rfl, _, _, rfl, rfl, (show (0 : Int) < 2147483647 by decide), ?_⟩⟩
      refine ⟨_, rfl, h, _, 0, 0, rfl, rfl, hh1, rfl, ?_⟩
      refine ⟨_, rfl, h, _, 2, _, rfl, rfl, SqL.of upd_same, rfl, _, _, rfl, rfl, _, rfl, h, _, 2, 2, rfl, rfl, upd_same, rfl, ?_⟩
      rw [upd_upd]
      refine ⟨_, rfl, h, _, 0, _, rfl, rfl, SqL.of upd_same, rfl, _, _, rfl, rfl, ⟨by decide, by decide⟩, .inl ⟨_, rfl, _, rfl, _, _, rfl, rfl, m0, ?_⟩⟩
      refine fin ns _ _ hn _ upd_same (by rw [upd_ne nhc.symm]; exact hc1) (fun a o h1 n1 n2 => ?_) _
      rw [upd_ne n1]
      exact e1 _ _ h1
end
end Kw



set_option Elab.async false
set_option linter.all false
set_option maxRecDepth 100000
set_option maxHeartbeats 4000000
namespace Kw
open PySem PySem.Spec PyProof.Rows L2
abbrev sItm : Stmt := top 67
section
variable {P : Program} {w : World} {K : PySem.W.Frag} {mg : Str → Option Value} {base : Heap}
end
end Kw



set_option Elab.async false
set_option linter.all false
set_option maxRecDepth 100000
set_option maxHeartbeats 4000000
namespace Kw
open PySem PySem.Spec PyProof.Rows L2
section
variable {P : Program} {w : World} {K : PySem.W.Frag} {mg : Str → Option Value} {base : Heap}
/-! ### _law_lid -/
/-! ### _law_items -/
def drD (d : Hs) : PyData := .tuple [.int d.hands, plsD d.bs, plsD d.ts, plsD d.ss]
theorem dr_at {H : Hp} {x : V} {d : Hs} (h : Dp K H x (drD d)) : ∃ a v1 v2 v3, x = .ref a ∧ SqT K H a [.int d.hands, v1, v2, v3] ∧ Dp K H v1 (plsD d.bs) ∧ Dp K H v2 (plsD d.ts) ∧ Dp K H v3 (plsD d.ss) := by
  cases h with
  | tup hs ha =>
    cases ha with
    | cons d0 r =>
      cases d0
      cases r with
      | cons d1 r =>
        cases r with
        | cons d2 r =>
          cases r with
          | cons d3 r =>
            cases r
            exact ⟨_, _, _, _, rfl, hs, d1, d2, d3⟩
def spItm (K : PySem.W.Frag) : Sp := fun vs H Q _ => ∃ (x : V) (d : Hs), vs = [x] ∧ Dp K H x (drD d) ∧ Ls d ∧ ∀ p xs H', Same H H' → H p = none → H' p = some (.lst xs) → DpAll K H' xs ((allI d).map itP) → Q (.ref p) H'
theorem scItm : FnScope ["_law_house_here", "_law_found", "_law_k"] ["_law_house_here"] (defScope sItm) := ⟨rfl, rfl, rfl, by decide +kernel, rfl, by decide +kernel, by decide +kernel⟩
theorem flt_true (n : Nat) : (List.range n).filter (fun _ => true) = List.range n := List.filter_eq_self.mpr fun _ _ => rfl
theorem ok_itm {f : Addr} {fd : FuncData} (F : Fun K "_law_items" "_law_items" sItm f fd) (B : Bt mg) : FnOk P w K mg base CX0 1 f fd ["_law_house_here"] (spItm K) := by
  refine F.ok scItm (fun vs H Q E h => ?_) (fun cdv A outer s H vs Q E hr h => ?_)
  · obtain ⟨x, d, rfl, _⟩ := h
    rfl
  · obtain ⟨x, d, rfl, hx, hL, k⟩ := h
    refine ⟨_, (pss_cons (ps_set (i := 1) scItm.nd rfl (.inl rfl) (pe_op op_cat (pe_lc (own := [("_law_k", 2)]) (g := gName 2) (tt := tYes) (te := tTup (tCons (tC (.str ("box" : Str))) (tCons (tVar 2) tNil))) rfl scItm.nd (pi_range1 rfl B.rng (pa_cons (pe_callB call_len_seq (by rfl) B.len PySem.boot_len (pa_cons (pe_ix ix_tup (pv 0) pe_int (fun _ _ => rfl)) pa_nil)) pa_nil)) (blkOk_by (own := [("_law_k", 2)]) (N := ["_law_house_here", "_law_found", "_law_k"]) (sc := defScope sItm) (by decide +kernel)) (fun _ _ _ _ _ => pg_name (i := 2) scItm.nd rfl (.inl rfl)) (fun _ _ _ _ _ => pts_nil) (fun _ _ _ _ _ => pe_tup (pa_cons pe_str (pa_cons (pv 2) pa_nil)))) (pe_lc (own := [("_law_k", 2)]) (g := gName 2) (tt := tYes) (te := tTup (tCons (tC (.str ("seal" : Str))) (tCons (tVar 2) tNil))) rfl scItm.nd (pi_range1 rfl B.rng (pa_cons (pe_callB call_len_seq (by rfl) B.len PySem.boot_len (pa_cons (pe_ix ix_tup (pv 0) pe_int (fun _ _ => rfl)) pa_nil)) pa_nil)) (blkOk_by (own := [("_law_k", 2)]) (N := ["_law_house_here", "_law_found", "_law_k"]) (sc := defScope sItm) (by decide +kernel)) (fun _ _ _ _ _ => pg_name (i := 2) scItm.nd rfl (.inl rfl)) (fun _ _ _ _ _ => pts_nil) (fun _ _ _ _ _ => pe_tup (pa_cons pe_str (pa_cons (pv 2) pa_nil)))))) (pss_one (ps_ret (pe_op op_cat (pv 1) (pe_lc (own := [("_law_k", 2)]) (g := gName 2) (tt := tYes) (te := tTup (tCons (tC (.str ("thing" : Str))) (tCons (tVar 2) tNil))) rfl scItm.nd (pi_range1 rfl B.rng (pa_cons (pe_callB call_len_seq (by rfl) B.len PySem.boot_len (pa_cons (pe_ix ix_tup (pv 0) pe_int (fun _ _ => rfl)) pa_nil)) pa_nil)) (blkOk_by (own := [("_law_k", 2)]) (N := ["_law_house_here", "_law_found", "_law_k"]) (sc := defScope sItm) (by decide +kernel)) (fun _ _ _ _ _ => pg_name (i := 2) scItm.nd rfl (.inl rfl)) (fun _ _ _ _ _ => pts_nil) (fun _ _ _ _ _ => pe_tup (pa_cons pe_str (pa_cons (pv 2) pa_nil)))))))), ?_⟩
    obtain ⟨a, v1, v2, v3, rfl, sa, d1, d2, d3⟩ := dr_at hx
    obtain ⟨a1, x1, rfl, s1, dl1, l1⟩ := pls_at d1
    obtain ⟨a2, x2, rfl, s2, dl2, l2⟩ := pls_at d2
    obtain ⟨a3, x3, rfl, s3, dl3, l3⟩ := pls_at d3
    have lb := hL.b
    have lt := hL.t
    have ls := hL.s
    have l5 := sizeLine_eq
    refine ⟨_, rfl, a, _, 1, _, rfl, rfl, sa, rfl, a1, x1, rfl, .inr s1, _, rfl, by omega, by omega, fun D1 hD1 => ?_⟩
    rw [show (x1.length : Int).toNat = d.bs.length by omega]
    refine lc_fltR (K := K) .box d.bs.length 2 (fun _ => true) (by show 2 < 3; decide) (by omega) hD1 (fun i H' T hi e hT => hT _ fun _ _ h => h) (fun H1 z1 e1 hz1 dz1 => ?_)
    refine ⟨_, rfl, a, _, 3, _, rfl, rfl, SqT.same e1 sa, rfl, a3, x3, rfl, .inr (SqT.same e1 s3), _, rfl, by omega, by omega, fun D2 hD2 => ?_⟩
    rw [show (x3.length : Int).toNat = d.ss.length by omega]
    refine lc_fltR (K := K) .sl d.ss.length 2 (fun _ => true) (by show 2 < 3; decide) (by omega) hD2 (fun i H' T hi e hT => hT _ fun _ _ h => h) (fun H2 z2 e2 hz2 dz2 => ?_)
    rw [flt_true] at dz1 dz2
    have ln1 : z1.length = d.bs.length := by rw [DpAll.len dz1, List.length_map, List.length_range]
    have ln2 : z2.length = d.ss.length := by rw [DpAll.len dz2, List.length_map, List.length_range]
    refine ⟨D1, D2, z1, z2, rfl, rfl, e2 _ _ hz1, hz2, by omega, fun p hp => ?_⟩
    have f1 := same_upd (o := HO.lst (z1 ++ z2)) hp
    have e3 := (e1.trans e2).trans f1
    refine ⟨_, rfl, _, rfl, a, _, 2, _, rfl, rfl, SqT.same e3 sa, rfl, a2, x2, rfl, .inr (SqT.same e3 s2), _, rfl, by omega, by omega, fun D3 hD3 => ?_⟩
    rw [show (x2.length : Int).toNat = d.ts.length by omega]
    refine lc_fltR (K := K) .thing d.ts.length 2 (fun _ => true) (by show 2 < 3; decide) (by omega) hD3 (fun i H' T hi e hT => hT _ fun _ _ h => h) (fun H4 z3 e4 hz3 dz3 => ?_)
    rw [flt_true] at dz3
    have ln3 : z3.length = d.ts.length := by rw [DpAll.len dz3, List.length_map, List.length_range]
    have hp4 := e4 _ _ (show (L2.upd H2 p (.lst (z1 ++ z2))) p = some (.lst (z1 ++ z2)) from upd_same)
    refine ⟨p, D3, z1 ++ z2, z3, rfl, rfl, hp4, hz3, by rw [List.length_append]; omega, fun q hq => ?_⟩
    have f2 := same_upd (o := HO.lst (z1 ++ z2 ++ z3)) hq
    have e5 := (e3.trans e4).trans f2
    refine k q _ _ e5 ?_ upd_same ?_
    · cases hh : H q with
      | none => rfl
      | some u =>
        have := (e3.trans e4) _ _ hh
        rw [hq] at this
        cases this
    · unfold allI kdI
      rw [List.map_append, List.map_append, itP_map, itP_map, itP_map]
      exact DpAll.app (DpAll.app (Dp.sames (((e2.trans f1).trans e4).trans f2) _ _ dz1) (Dp.sames ((f1.trans e4).trans f2) _ _ dz2)) (Dp.sames f2 _ _ dz3)
end
end Kw



set_option Elab.async false
set_option linter.all false
set_option maxRecDepth 100000
set_option maxHeartbeats 4000000
namespace Kw
open PySem PySem.Spec PyProof.Rows L2
abbrev sDrn : Stmt := top 68
abbrev sHsM : Stmt := top 69
/-- the lists of a house that is drawn -/
structure DR (K : PySem.W.Frag) (h c Lb Lt Ls : Addr) (H0 : Hp) (bs ts ss : List Pl) (H : Hp) : Prop where
  hB : HAt H h c
  kb : Kb h c H0 H
  b : ∃ xs, H Lb = some (.lst xs) ∧ DpAll K H xs (bs.map plD)
  t : ∃ xs, H Lt = some (.lst xs) ∧ DpAll K H xs (ts.map plD)
  s : ∃ xs, H Ls = some (.lst xs) ∧ DpAll K H xs (ss.map plD)
theorem none_upd {H : Hp} {p q : Addr} {o : HO} (h : (L2.upd H p o) q = .none) : q ≠ p ∧ H q = .none := by
  by_cases c : q = p
  · subst c
    rw [upd_same] at h
    cases h
  · rw [upd_ne c] at h
    exact ⟨c, h⟩
structure Fr3 (h c Lb Lt Ls : Addr) (H0 : Hp) : Prop where
  b0 : H0 Lb = .none
  t0 : H0 Lt = .none
  s0 : H0 Ls = .none
  bt : Lb ≠ Lt
  bs : Lb ≠ Ls
  ts : Lt ≠ Ls
  bh : Lb ≠ h ∧ Lb ≠ c
  th : Lt ≠ h ∧ Lt ≠ c
  sh : Ls ≠ h ∧ Ls ≠ c
section
variable {K : PySem.W.Frag} {h c Lb Lt Ls : Addr} {H0 H H' : Hp} {bs ts ss : List Pl}
theorem dpl_nl (k : Nl H H') {xs : List V} {ps : List Pl} (d : DpAll K H xs (ps.map plD)) : DpAll K H' xs (ps.map plD) := Dp.nls k _ _ (noLs_map _ noL_pl _) d
theorem dpl_lst {D : Addr} {xs : List V} {o : HO} (hD : H D = some (.lst xs)) {ys : List V} {ps : List Pl} (d : DpAll K H ys (ps.map plD)) : DpAll K (L2.upd H D o) ys (ps.map plD) := Dp.tps (tp_lst hD) _ _ (noLs_map _ noL_pl _) d
theorem DR.draw (F : Fr3 h c Lb Lt Ls H0) (x : DR K h c Lb Lt Ls H0 bs ts ss H) (k : Kb h c H H') (hB : HAt H' h c) : DR K h c Lb Lt Ls H0 bs ts ss H' := by
  obtain ⟨_, kb, ⟨xb, b1, b2⟩, ⟨xt, t1, t2⟩, ⟨xs, s1, s2⟩⟩ := x
  exact ⟨hB, kb.trans k, ⟨xb, k.kp.ls _ _ b1 F.bh.1 F.bh.2, dpl_nl k.nl b2⟩, ⟨xt, k.kp.ls _ _ t1 F.th.1 F.th.2, dpl_nl k.nl t2⟩, ⟨xs, k.kp.ls _ _ s1 F.sh.1 F.sh.2, dpl_nl k.nl s2⟩⟩
theorem DR.same (F : Fr3 h c Lb Lt Ls H0) (x : DR K h c Lb Lt Ls H0 bs ts ss H) (e : Same H H') : DR K h c Lb Lt Ls H0 bs ts ss H' := x.draw F (Kb.same e) (x.hB.same e)
theorem DR.addB (F : Fr3 h c Lb Lt Ls H0) (x : DR K h c Lb Lt Ls H0 bs ts ss H) {xs : List V} {v : V} {q : Pl} (hb : H Lb = some (.lst xs)) (dv : Dp K H v (plD q)) : DR K h c Lb Lt Ls H0 (bs ++ [q]) ts ss (L2.upd H Lb (.lst (xs ++ [v]))) := by
  obtain ⟨hB, kb, ⟨xb, b1, b2⟩, ⟨xt, t1, t2⟩, ⟨xs', s1, s2⟩⟩ := x
  rw [hb] at b1
  cases b1
  exact ⟨hB.updD F.bh.1 F.bh.2, kb.updD F.b0, ⟨_, upd_same, by rw [List.map_append]; exact DpAll.app (dpl_lst hb b2) (.cons (Dp.tp (tp_lst hb) _ _ (noL_pl q) dv) .nil)⟩, ⟨xt, by rw [upd_ne F.bt.symm]; exact t1, dpl_lst hb t2⟩, ⟨xs', by rw [upd_ne F.bs.symm]; exact s1, dpl_lst hb s2⟩⟩
theorem DR.addT (F : Fr3 h c Lb Lt Ls H0) (x : DR K h c Lb Lt Ls H0 bs ts ss H) {xs : List V} {v : V} {q : Pl} (hb : H Lt = some (.lst xs)) (dv : Dp K H v (plD q)) : DR K h c Lb Lt Ls H0 bs (ts ++ [q]) ss (L2.upd H Lt (.lst (xs ++ [v]))) := by
  obtain ⟨hB, kb, ⟨xb, b1, b2⟩, ⟨xt, t1, t2⟩, ⟨xs', s1, s2⟩⟩ := x
  rw [hb] at t1
  cases t1
  exact ⟨hB.updD F.th.1 F.th.2, kb.updD F.t0, ⟨xb, by rw [upd_ne F.bt]; exact b1, dpl_lst hb b2⟩, ⟨_, upd_same, by rw [List.map_append]; exact DpAll.app (dpl_lst hb t2) (.cons (Dp.tp (tp_lst hb) _ _ (noL_pl q) dv) .nil)⟩, ⟨xs', by rw [upd_ne F.ts.symm]; exact s1, dpl_lst hb s2⟩⟩
theorem DR.addS (F : Fr3 h c Lb Lt Ls H0) (x : DR K h c Lb Lt Ls H0 bs ts ss H) {xs : List V} {v : V} {q : Pl} (hb : H Ls = some (.lst xs)) (dv : Dp K H v (plD q)) : DR K h c Lb Lt Ls H0 bs ts (ss ++ [q]) (L2.upd H Ls (.lst (xs ++ [v]))) := by
  obtain ⟨hB, kb, ⟨xb, b1, b2⟩, ⟨xt, t1, t2⟩, ⟨xs', s1, s2⟩⟩ := x
  rw [hb] at s1
  cases s1
  exact ⟨hB.updD F.sh.1 F.sh.2, kb.updD F.s0, ⟨xb, by rw [upd_ne F.bs]; exact b1, dpl_lst hb b2⟩, ⟨xt, by rw [upd_ne F.ts]; exact t1, dpl_lst hb t2⟩, ⟨_, upd_same, by rw [List.map_append]; exact DpAll.app (dpl_lst hb s2) (.cons (Dp.tp (tp_lst hb) _ _ (noL_pl q) dv) .nil)⟩⟩
end
/-- boxes as they are drawn -/
def OkB (n : Int) (bs : List Pl) : Prop := ∀ (i : Nat) p, bs[i]? = some p → (p = (.box, 0) ∧ 0 < i) ∨ (p.1 = .hand ∧ 0 ≤ p.2 ∧ p.2 < n)
theorem OkB.add {n : Int} {bs : List Pl} {q : Pl} (x : OkB n bs) (hq : (q = (.box, 0) ∧ 0 < bs.length) ∨ (q.1 = .hand ∧ 0 ≤ q.2 ∧ q.2 < n)) : OkB n (bs ++ [q]) := fun j p e => by
  by_cases c : j < bs.length
  · rw [List.getElem?_append_left c] at e
    exact x j p e
  · have ej : j = bs.length := by
      have := (List.getElem?_eq_some_iff.mp e).1
      simp at this
      omega
    subst ej
    rw [List.getElem?_append_right (Nat.le_refl _), Nat.sub_self] at e
    have ep : q = p := by simpa using e
    subst ep
    exact hq
theorem OkB.pl {n : Int} {bs : List Pl} (x : OkB n bs) (i : Nat) (p : Pl) (e : bs[i]? = some p) : plOk p n i = true := by
  unfold plOk
  rcases x i p e with ⟨rfl, h⟩ | ⟨h1, h2, h3⟩
  · rw [if_neg (by decide), numOk_of (Int.le_refl 0) (by show (0 : Int) < (i : Nat); omega)]
    rfl
  · rw [if_pos h1]
    exact numOk_of h2 h3
/-- things and seals as they are drawn -/
def OkP (n m : Int) (ts : List Pl) : Prop := ∀ p ∈ ts, plOk p n m = true
theorem OkP.add {n m : Int} {ts : List Pl} {q : Pl} (x : OkP n m ts) (hq : plOk q n m = true) : OkP n m (ts ++ [q]) := fun p hp => by
  rcases List.mem_append.mp hp with h | h
  · exact x p h
  · rw [List.mem_singleton.mp h]
    exact hq
theorem okS_bad {n m : Int} {qs : List Pl} (hp : OkP n m qs) (ok : OkS m qs) (hl : qs.length ≤ 3) : ∀ (i : Nat) p, qs[i]? = some p → badS n m qs (0 + i) p = false := fun i p e => by
  have hi := (List.getElem?_eq_some_iff.mp e).1
  rw [Nat.zero_add]
  unfold badS
  rw [decide_eq_false (show ¬ i = 3 by omega), hp p (List.mem_iff_getElem?.mpr ⟨i, e⟩)]
  rcases ok i p e with hq | ⟨hq, hn, hni⟩
  · rw [hq]
    rfl
  · have na : (qs.take i).any (fun z => decide (z = p)) = false := by
      rw [List.any_eq_false]
      intro z hz hzq
      rw [of_decide_eq_true hzq] at hz
      exact hni hz
    rw [na]
    simp
theorem shaped_plL (ps : List Pl) : SeqAt.shaped (.list (ps.map plD)) = true := by
  have h1 := lay_pls ps
  have h2 := depth_pls ps
  simp [SeqAt.shaped, plsD, PyData.canLay0, PyData.depth, h1]
  omega
theorem drawn_ok {n : Int} {bs ts ss : List Pl} (n0 : 1 ≤ n) (n1 : n ≤ 4) (b0 : 1 ≤ bs.length) (b1 : bs.length ≤ 3) (t1 : ts.length ≤ 4) (s1 : ss.length ≤ 3) (ob : OkB n bs) (ot : OkP n bs.length ts) (op : OkP n bs.length ss) (os : OkS bs.length ss) : HsOk ⟨n, bs, ts, ss⟩ :=
  ⟨n0, n1, b0, b1, t1, s1, err_none n0 n1 b0 b1 (fun i p e => ob.pl i p e) t1 (fun i p e => ot p (List.mem_iff_getElem?.mpr ⟨i, e⟩)) (okS_bad op os s1), fun p hp => by
    obtain ⟨i, hi⟩ := mem_get hp
    exact plOk_gone (ob.pl i p hi), fun p hp => plOk_gone (ot p hp), fun p hp => plOk_gone (op p hp)⟩
section
variable {P : Program} {w : World} {K : PySem.W.Frag} {mg : Str → Option Value} {base : Heap}
def spDrn (K : PySem.W.Frag) : Sp := fun vs H Q _ => ∃ (h c : Addr) (m : Int), vs = [.ref h, .int m] ∧ 2 ≤ m ∧ m ≤ 8 ∧ HAt H h c ∧ ∀ v d H', Dp K H' v (drD d) → HsOk d → d.hands ≤ 3 → d.bs.length ≤ 2 → d.bs.length + d.ts.length + d.ss.length ≤ m.toNat → HAt H' h c → Kb h c H H' → Q v H'
theorem scDrn : FnScope ["_law_h", "_law_most", "_law_hands", "_law_boxes", "_law_things", "_law_seals", "_law_k", "_law_spot"] ["_law_h", "_law_most"] (defScope sDrn) := ⟨rfl, rfl, rfl, by decide +kernel, rfl, by decide +kernel, by decide +kernel⟩
theorem ok_drn {f gN : Addr} {fd fdN : FuncData} (F : Fun K "_law_drawn" "_law_drawn" sDrn f fd) (B : Bt mg) (GN : OnceF P w K mg base "_law_next" 1 ["_law_h", "_law_limit"] spNx gN fdN) : FnOk P w K mg base CX0 2 f fd ["_law_h", "_law_most"] (spDrn K) := by
  refine F.ok scDrn (fun vs H Q E h => ?_) (fun cdv A outer s H vs Q E hr h => ?_)
  · obtain ⟨h, c, m, rfl, _⟩ := h
    rfl
  · obtain ⟨h, c, m, rfl, m0, m1, hB, k⟩ := h
    have hr1 : Room 1 _ := hr.mono (by decide)
    have hu65 : (cxOf CX0 P w K mg base ["_law_h", "_law_most", "_law_hands", "_law_boxes", "_law_things", "_law_seals", "_law_k", "_law_spot"] "_law_drawn" (defScope sDrn) f cdv A outer s H E).nox.A.units + 65 < cLine := by have := hr.un; show (A.deeper _).units + 65 < cLine; omega
    refine ⟨_, (pss_cons (ps_asg (pe_tup (pa_cons (pe_op op_add pe_int (pe_call GN.G hr1 rfl GN.m GN.k GN.b .nil pass0 (pa_cons (pv 0) (pa_cons pe_int pa_nil)))) (pa_cons (pe_lst pa_nil) (pa_cons (pe_lst pa_nil) (pa_cons (pe_lst pa_nil) pa_nil))))) (pg_tup (by rfl) (pgs_cons (pg_name (i := 2) scDrn.nd rfl (.inl rfl)) (pgs_cons (pg_name (i := 3) scDrn.nd rfl (.inl rfl)) (pgs_cons (pg_name (i := 4) scDrn.nd rfl (.inl rfl)) (pgs_cons (pg_name (i := 5) scDrn.nd rfl (.inl rfl)) pgs_nil)))))) (pss_cons (ps_for PassesOwn.never rfl (pi_range1 rfl B.rng (pa_cons (pe_op op_add pe_int (pe_call GN.G hr1 rfl GN.m GN.k GN.b .nil pass0 (pa_cons (pv 0) (pa_cons pe_int pa_nil)))) pa_nil)) (pg_name (i := 6) scDrn.nd rfl (.inl rfl)) (pss_one (ps_expr (pe_bm PySem.F.plainAttrs_list PySem.F.slot_list_append PySem.F.type_list_append mt_append (pv 3) (pa_cons (pe_ifExp (PW.pt (pw_and (pt_cmpR op_gt (pv 6) pe_int (nomark _)) (pw_and1 (pt_cmpR op_eq (pe_call GN.G hr1 rfl GN.m GN.k GN.b .nil pass0 (pa_cons (pv 0) (pa_cons pe_int pa_nil))) pe_int (nomark _))))) (pe_tup (pa_cons pe_str (pa_cons pe_int pa_nil))) (pe_tup (pa_cons pe_str (pa_cons (pe_call GN.G hr1 rfl GN.m GN.k GN.b .nil pass0 (pa_cons (pv 0) (pa_cons (pv 2) pa_nil))) pa_nil)))) pa_nil))))) (pss_cons (ps_for PassesOwn.never rfl (pi_range1 rfl B.rng (pa_cons (pe_call GN.G hr1 rfl GN.m GN.k GN.b .nil pass0 (pa_cons (pv 0) (pa_cons (pe_op op_add (pe_op op_sub (pv 1) (pe_callB call_len_seq (by rfl) B.len PySem.boot_len (pa_cons (pv 3) pa_nil))) pe_int) pa_nil))) pa_nil)) (pg_name (i := 6) scDrn.nd rfl (.inl rfl)) (pss_cons (ps_set (i := 7) scDrn.nd rfl (.inl rfl) (pe_ifExp (pt_cmpR op_eq (pe_call GN.G hr1 rfl GN.m GN.k GN.b .nil pass0 (pa_cons (pv 0) (pa_cons pe_int pa_nil))) pe_int (nomark _)) (pe_tup (pa_cons pe_str (pa_cons (pe_call GN.G hr1 rfl GN.m GN.k GN.b .nil pass0 (pa_cons (pv 0) (pa_cons (pe_callB call_len_seq (by rfl) B.len PySem.boot_len (pa_cons (pv 3) pa_nil)) pa_nil))) pa_nil))) (pe_tup (pa_cons pe_str (pa_cons (pe_call GN.G hr1 rfl GN.m GN.k GN.b .nil pass0 (pa_cons (pv 0) (pa_cons (pv 2) pa_nil))) pa_nil))))) (pss_one (ps_if (PW.pt (pw_or (pt_cmpR op_eq (pe_callB call_len_seq (by rfl) B.len PySem.boot_len (pa_cons (pv 5) pa_nil)) pe_int (nomark _)) (pw_or1 (PW.pt (pw_and (pt_cmpR op_eq (pe_call GN.G hr1 rfl GN.m GN.k GN.b .nil pass0 (pa_cons (pv 0) (pa_cons pe_int pa_nil))) pe_int (nomark _)) (pw_and1 (pt_cmpR op_lt (pe_callB call_len_seq (by rfl) B.len PySem.boot_len (pa_cons (pv 4) pa_nil)) pe_int (nomark _)))))))) (pss_one (ps_expr (pe_bm PySem.F.plainAttrs_list PySem.F.slot_list_append PySem.F.type_list_append mt_append (pv 4) (pa_cons (pv 7) pa_nil)))) (pss_one (ps_expr (pe_bm PySem.F.plainAttrs_list PySem.F.slot_list_append PySem.F.type_list_append mt_append (pv 5) (pa_cons (pe_ifExp (PW.pt (pw_or (pt_cmpR op_eq (pe_ix ix_tup (pv 7) pe_int (fun _ _ => rfl)) pe_str (nomark _)) (pw_or1 (pt_cmpR (op_notInD hu65) (pv 7) (pv 5) (by rfl))))) (pv 7) (pe_tup (pa_cons pe_str (pa_cons pe_int pa_nil)))) pa_nil)))))))) (pss_one (ps_ret (pe_tup (pa_cons (pv 2) (pa_cons (pe_callTy call_tuple_of (by rfl) B.tup (by decide +kernel) (pa_cons (pv 3) pa_nil)) (pa_cons (pe_callTy call_tuple_of (by rfl) B.tup (by decide +kernel) (pa_cons (pv 4) pa_nil)) (pa_cons (pe_callTy call_tuple_of (by rfl) B.tup (by decide +kernel) (pa_cons (pv 5) pa_nil)) pa_nil)))))))))), ?_⟩
    refine ⟨_, rfl, h, c, 3, rfl, by decide, by decide, hB, fun n H1 n0 n1 hB1 k1 => ⟨_, _, rfl, rfl, ?_⟩⟩
    refine ⟨(by show 0 ≤ sizeLine; decide), fun Lb hLb => ⟨(by show 0 ≤ sizeLine; decide), fun Lt hLt => ⟨(by show 0 ≤ sizeLine; decide), fun Ls hLs => ⟨(by show 4 ≤ sizeLine; decide), fun t ht => ?_⟩⟩⟩⟩
    refine ⟨t, _, rfl, SqT.of upd_same, rfl, _, _, rfl, _, _, rfl, _, _, rfl, _, _, rfl, rfl, ?_⟩
    obtain ⟨tb1, t01⟩ := none_upd hLt
    obtain ⟨st1, s02⟩ := none_upd hLs
    obtain ⟨sb1, s01⟩ := none_upd s02
    have F3 : Fr3 h c Lb Lt Ls H1 := ⟨hLb, t01, s01, tb1.symm, sb1.symm, st1.symm, hB1.neL hLb, hB1.neL t01, hB1.neL s01⟩
    have e5 : Same H1 (L2.upd (L2.upd (L2.upd (L2.upd H1 Lb (.lst [])) Lt (.lst [])) Ls (.lst [])) t (.tup [.int (1 + n), .ref Lb, .ref Lt, .ref Ls])) := Same.upd2 (Same.upd2 (Same.upd2 (same_upd hLb) hLt) hLs) ht
    have x5 : DR K h c Lb Lt Ls H1 [] [] [] (L2.upd (L2.upd (L2.upd (L2.upd H1 Lb (.lst [])) Lt (.lst [])) Ls (.lst [])) t (.tup [.int (1 + n), .ref Lb, .ref Lt, .ref Ls])) := by
      obtain ⟨q1, q2⟩ := none_upd ht
      obtain ⟨q3, q4⟩ := none_upd q2
      obtain ⟨q5, q6⟩ := none_upd q4
      refine ⟨hB1.same e5, Kb.same e5, ⟨[], ?_, .nil⟩, ⟨[], ?_, .nil⟩, ⟨[], ?_, .nil⟩⟩
      · rw [upd_ne q5.symm, upd_ne sb1.symm, upd_ne tb1.symm, upd_same]
      · rw [upd_ne q3.symm, upd_ne st1.symm, upd_same]
      · rw [upd_ne q1.symm, upd_same]
    clear e5
    generalize L2.upd (L2.upd (L2.upd (L2.upd H1 Lb (.lst [])) Lt (.lst [])) Ls (.lst [])) t (.tup [.int (1 + n), .ref Lb, .ref Lt, .ref Ls]) = H5 at *
    refine ⟨_, rfl, h, c, 2, rfl, by decide, by decide, x5.hB, fun nb H6 nb0 nb1 hB6 k6 => ⟨_, _, rfl, rfl, 1 + nb, rfl, by omega, by omega, ?_⟩⟩
    have x6 := x5.draw F3 k6 hB6
    refine for_range (lo := 0) (n := (1 + nb).toNat) (fun i σ Hn => ∃ (vi : Option V) (bs : List Pl), σ = [some (.ref h), some (.int m), some (.int (1 + n)), some (.ref Lb), some (.ref Lt), some (.ref Ls), vi, none] ∧ DR K h c Lb Lt Ls H1 bs [] [] Hn ∧ bs.length = i ∧ OkB (1 + n) bs) ⟨none, [], rfl, x6, rfl, fun i p e => by simp at e⟩ ?_ ?_
    · rintro i σ Hn hi ⟨vi, bs, rfl, xn, lb, ok⟩
      have l5 := sizeLine_eq
      -- what is put into the list
      have put : ∀ (q : Pl) (v : V) (H' : Hp), DR K h c Lb Lt Ls H1 bs [] [] H' → Dp K H' v (plD q) → ((q = (.box, 0) ∧ 0 < bs.length) ∨ (q.1 = .hand ∧ 0 ≤ q.2 ∧ q.2 < 1 + n)) → ∃ l xs x, V.ref Lb = .ref l ∧ [v] = [x] ∧ H' l = some (.lst xs) ∧ xs.length < sizeLine ∧ ∃ (vi : Option V) (bs' : List Pl), [some (V.ref h), some (.int m), some (.int (1 + n)), some (.ref Lb), some (.ref Lt), some (.ref Ls), some (V.int (0 + (i : Int))), none] = [some (V.ref h), some (.int m), some (.int (1 + n)), some (.ref Lb), some (.ref Lt), some (.ref Ls), vi, none] ∧ DR K h c Lb Lt Ls H1 bs' [] [] (L2.upd H' l (.lst (xs ++ [x]))) ∧ bs'.length = i + 1 ∧ OkB (1 + n) bs' := fun q v H' x' dv hq => by
        obtain ⟨xs, hx, dx⟩ := x'.b
        have lx : xs.length = bs.length := by rw [DpAll.len dx, List.length_map]
        exact ⟨Lb, xs, v, rfl, rfl, hx, by omega, _, bs ++ [q], rfl, x'.addB F3 hx dv, by rw [List.length_append, lb]; rfl, ok.add hq⟩
      obtain ⟨xs, hx, dx⟩ := xn.b
      refine ⟨_, rfl, .inl ⟨rfl, _, SqL.of hx⟩, ?_⟩
      have hand : ∀ H', DR K h c Lb Lt Ls H1 bs [] [] H' → ∀ R : V → Hp → Prop, (∀ v q H2, DR K h c Lb Lt Ls H1 bs [] [] H2 → Dp K H2 v (plD q) → ((q = (.box, 0) ∧ 0 < bs.length) ∨ (q.1 = .hand ∧ 0 ≤ q.2 ∧ q.2 < 1 + n)) → R v H2) →
          tTup (tCons (tC (.str ("hand" : Str))) (tCons (tCall spNx [] E0 (tCons (tVar 0) (tCons (tVar 2) tNil))) tNil)) [some (.ref h), some (.int m), some (.int (1 + n)), some (.ref Lb), some (.ref Lt), some (.ref Ls), some (V.int (0 + (i : Int))), none] H' R := fun H' x' R hR => by
        refine ⟨_, rfl, _, rfl, h, c, 1 + n, rfl, by omega, by omega, x'.hB, fun r H8 r0 r1 hB8 k8 => ⟨(by show 2 ≤ sizeLine; decide), fun p hp => ?_⟩⟩
        exact hR _ (.hand, r) _ ((x'.draw F3 k8 hB8).same F3 (same_upd hp)) (.tup (SqT.of upd_same) (.cons (.str _) (.cons (.int _) .nil))) (.inr ⟨rfl, r0, r1⟩)
      refine ⟨_, rfl, _, _, rfl, rfl, _, rfl, ?_⟩
      refine ite2 (fun c6 => ?_) (fun _ => iteF (hand _ xn _ fun v q H2 x2 dv hq => put q v H2 x2 dv hq))
      have c6' : (0 : Int) < 0 + (i : Int) := of_decide_eq_true c6
      refine ⟨_, rfl, h, c, 3, rfl, by decide, by decide, xn.hB, fun r3 H8 r30 r31 hB8 k8 => ⟨rfl, _, rfl, ?_⟩⟩
      have x8 := xn.draw F3 k8 hB8
      refine ite2 (fun _ => ?_) (fun _ => hand _ x8 _ fun v q H2 x2 dv hq => put q v H2 x2 dv hq)
      refine ⟨(by show 2 ≤ sizeLine; decide), fun p hp => ?_⟩
      exact put (.box, 0) _ _ (x8.same F3 (same_upd hp)) (.tup (SqT.of upd_same) (.cons (.str _) (.cons (.int _) .nil))) (.inl ⟨rfl, by omega⟩)
    · rintro σ Hn ⟨vi, bs, rfl, xn, lb, okb⟩
      have l5 := sizeLine_eq
      obtain ⟨xsb, hxb, dxb⟩ := xn.b
      have lxb : xsb.length = bs.length := by rw [DpAll.len dxb, List.length_map]
      refine ⟨_, rfl, _, rfl, _, rfl, Lb, _, rfl, .inl (SqL.of hxb), _, _, rfl, rfl, _, _, rfl, rfl, h, c, m - ((xsb.length : Nat) : Int) + 1, rfl, by omega, by omega, xn.hB, fun cnt H9 c0 c1 hB9 k9 => ⟨cnt, rfl, by omega, by omega, ?_⟩⟩
      have x9 := xn.draw F3 k9 hB9
      refine for_range (lo := 0) (n := cnt.toNat) (fun i σ Hm => ∃ (vi vp : Option V) (ts ss : List Pl), σ = [some (.ref h), some (.int m), some (.int (1 + n)), some (.ref Lb), some (.ref Lt), some (.ref Ls), vi, vp] ∧ DR K h c Lb Lt Ls H1 bs ts ss Hm ∧ ts.length + ss.length = i ∧ ts.length ≤ 4 ∧ ss.length ≤ 3 ∧ OkP (1 + n) bs.length ts ∧ OkP (1 + n) bs.length ss ∧ OkS bs.length ss)
        ⟨_, _, [], [], rfl, x9, rfl, by decide, by decide, fun p hp => (nomatch hp), fun p hp => (nomatch hp), OkS.nil _⟩ ?_ ?_
      · rintro i σ Hm hi ⟨vi, vp, ts, ss, rfl, xm, ll, l4, l3, okt, oks, okS⟩
        obtain ⟨xb, hb1, db⟩ := xm.b
        have lb1 : xb.length = bs.length := by rw [DpAll.len db, List.length_map]
        refine seq_cont (fun σ' H' => ∃ (v : V) (q : Pl), σ' = [some (.ref h), some (.int m), some (.int (1 + n)), some (.ref Lb), some (.ref Lt), some (.ref Ls), some (V.int (0 + (i : Int))), some v] ∧ DR K h c Lb Lt Ls H1 bs ts ss H' ∧ Dp K H' v (plD q) ∧ plOk q (1 + n) bs.length = true) (fun D' hD' => ?_) ?_
        · refine ⟨_, rfl, h, c, 2, rfl, by decide, by decide, xm.hB, fun r H2 r0 r1 hB2 k2 => ⟨rfl, _, rfl, ?_⟩⟩
          have x2 := xm.draw F3 k2 hB2
          obtain ⟨xb2, hb2, db2⟩ := x2.b
          have lb2 : xb2.length = bs.length := by rw [DpAll.len db2, List.length_map]
          refine ite2 (fun _ => ?_) (fun _ => ?_)
          · refine ⟨_, rfl, _, rfl, Lb, _, rfl, .inl (SqL.of hb2), h, c, _, rfl, by omega, by omega, hB2, fun r3 H3 r30 r31 hB3 k3 => ⟨(by show 2 ≤ sizeLine; decide), fun p hp => ?_⟩⟩
            refine hD' _ _ ⟨_, (.box, r3), rfl, (x2.draw F3 k3 hB3).same F3 (same_upd hp), .tup (SqT.of upd_same) (.cons (.str _) (.cons (.int _) .nil)), ?_⟩
            unfold plOk
            rw [if_neg (fun z => by cases z), numOk_of r30 (by omega)]
            rfl
          · refine ⟨_, rfl, _, rfl, h, c, 1 + n, rfl, by omega, by omega, hB2, fun r3 H3 r30 r31 hB3 k3 => ⟨(by show 2 ≤ sizeLine; decide), fun p hp => ?_⟩⟩
            refine hD' _ _ ⟨_, (.hand, r3), rfl, (x2.draw F3 k3 hB3).same F3 (same_upd hp), .tup (SqT.of upd_same) (.cons (.str _) (.cons (.int _) .nil)), ?_⟩
            unfold plOk
            rw [if_pos rfl]
            exact numOk_of r30 r31
        rintro σ' H' ⟨v, q, rfl, x', dv, okq⟩
        have im : i ≤ 6 := by omega
        obtain ⟨xs', hs', ds'⟩ := x'.s
        have ls' : xs'.length = ss.length := by rw [DpAll.len ds', List.length_map]
        refine ifs_by (fun b H2 => DR K h c Lb Lt Ls H1 bs ts ss H2 ∧ Dp K H2 v (plD q) ∧ (b = true → ts.length < 4) ∧ (b = false → ss.length < 3)) (fun Q' hQ' => ?_) (fun H2 => ?_) (fun H2 => ?_)
        · refine ⟨_, rfl, Ls, _, rfl, .inl (SqL.of hs'), rfl, _, rfl, ?_⟩
          refine ite2 (fun e3 => ?_) (fun e3 => ?_)
          · have e3' : ss.length = 3 := by
              rw [decZ] at e3
              have := of_decide_eq_true e3
              omega
            exact hQ' true _ ⟨x', dv, fun _ => by omega, fun z => (nomatch z)⟩
          · have e3' : ss.length < 3 := by
              rw [decZ] at e3
              have : ¬ ((xs'.length : Nat) : Int) = 3 := fun z => e3 (decide_eq_true z)
              omega
            refine ⟨_, rfl, h, c, 2, rfl, by decide, by decide, x'.hB, fun r H3 r0 r1 hB3 k3 => ⟨rfl, _, rfl, ?_⟩⟩
            have x3 := x'.draw F3 k3 hB3
            have dv3 := Dp.nl k3.nl _ _ (noL_pl q) dv
            refine ite2 (fun _ => ?_) (fun _ => hQ' false _ ⟨x3, dv3, fun z => (nomatch z), fun _ => e3'⟩)
            obtain ⟨xt3, ht3, dt3⟩ := x3.t
            have lt3 : xt3.length = ts.length := by rw [DpAll.len dt3, List.length_map]
            refine ⟨_, rfl, Lt, _, rfl, .inl (SqL.of ht3), _, _, rfl, rfl, _, rfl, hQ' _ _ ⟨x3, dv3, fun z => ?_, fun _ => e3'⟩⟩
            have := of_decide_eq_true z
            omega
        · rintro ⟨x4, dv4, t4, _⟩
          obtain ⟨xt4, ht4, dt4⟩ := x4.t
          have lt4 : xt4.length = ts.length := by rw [DpAll.len dt4, List.length_map]
          have t4 := t4 rfl
          refine ⟨_, rfl, .inl ⟨rfl, _, SqL.of ht4⟩, _, rfl, Lt, xt4, v, rfl, rfl, ht4, by omega, ?_⟩
          exact ⟨_, _, ts ++ [q], ss, rfl, x4.addT F3 ht4 dv4, by rw [List.length_append]; show ts.length + 1 + _ = _; omega, by rw [List.length_append]; show ts.length + 1 ≤ _; omega, l3, okt.add okq, oks, okS⟩
        · rintro ⟨x4, dv4, _, t4⟩
          have t4 := t4 rfl
          obtain ⟨xs4, hs4, ds4⟩ := x4.s
          have ls4 : xs4.length = ss.length := by rw [DpAll.len ds4, List.length_map]
          obtain ⟨av, rfl, qv⟩ := pl_at dv4
          -- what is put into the list
          have put : ∀ (q' : Pl) (v' : V) (H' : Hp), Same H2 H' → Dp K H' v' (plD q') → plOk q' (1 + n) bs.length = true → (q'.1 = .hand ∨ (q'.1 = .box ∧ numOk q'.2 bs.length = true ∧ q' ∉ ss)) → ∃ l xs x, V.ref Ls = .ref l ∧ [v'] = [x] ∧ H' l = some (.lst xs) ∧ xs.length < sizeLine ∧ ∃ (vi vp : Option V) (ts' ss' : List Pl), [some (V.ref h), some (.int m), some (.int (1 + n)), some (.ref Lb), some (.ref Lt), some (.ref Ls), some (V.int (0 + (i : Int))), some (V.ref av)] = [some (V.ref h), some (.int m), some (.int (1 + n)), some (.ref Lb), some (.ref Lt), some (.ref Ls), vi, vp] ∧ DR K h c Lb Lt Ls H1 bs ts' ss' (L2.upd H' l (.lst (xs ++ [x]))) ∧ ts'.length + ss'.length = i + 1 ∧ ts'.length ≤ 4 ∧ ss'.length ≤ 3 ∧ OkP (1 + n) bs.length ts' ∧ OkP (1 + n) bs.length ss' ∧ OkS bs.length ss' := fun q' v' H' e' d' o1 o2 => by
            have hs5 := e' _ _ hs4
            exact ⟨Ls, xs4, v', rfl, rfl, hs5, by omega, _, _, ts, ss ++ [q'], rfl, (x4.same F3 e').addS F3 hs5 d', by rw [List.length_append]; show _ + (ss.length + 1) = _; omega, l4, by rw [List.length_append]; show ss.length + 1 ≤ _; omega, okt, oks.add o1, okS.add o2⟩
          refine ⟨_, rfl, .inl ⟨rfl, _, SqL.of hs4⟩, ?_⟩
          refine ⟨_, rfl, av, _, 0, _, rfl, rfl, qv, rfl, rfl, _, rfl, ?_⟩
          rw [decS]
          by_cases c1 : q.1 = .hand
          · rw [show decide (q.1.str = ("hand" : Str)) = true from decide_eq_true (by rw [c1]; rfl)]
            exact iteT (iteT ⟨_, rfl, put q _ _ (fun _ _ e => e) dv4 okq (.inl c1)⟩)
          · rw [show decide (q.1.str = ("hand" : Str)) = false from decide_eq_false fun z => c1 (wd_inj (v := .hand) z)]
            have okb2 : q.1 = .box ∧ numOk q.2 bs.length = true := by
              unfold plOk at okq
              rw [if_neg c1, Bool.and_eq_true] at okq
              exact ⟨of_decide_eq_true okq.1, okq.2⟩
            refine iteF ⟨_, rfl, _, rfl, plD q, ss.map plD, dv4, .lst (SqL.of hs4) ds4, shaped_pl q, shaped_plL ss, _, rfl, ?_⟩
            rw [any_pl]
            cases ca : ss.any fun z => decide (z = q) with
            | true =>
              refine iteF ⟨(by show 2 ≤ sizeLine; decide), fun p hp => ?_⟩
              refine put (.hand, 0) _ _ (same_upd hp) (.tup (SqT.of upd_same) (.cons (.str _) (.cons (.int _) .nil))) ?_ (.inl rfl)
              unfold plOk
              rw [if_pos rfl]
              exact numOk_of (Int.le_refl 0) (by show (0 : Int) < 1 + n; omega)
            | false =>
              refine iteT ⟨_, rfl, put q _ _ (fun _ _ e => e) dv4 okq (.inr ⟨okb2.1, okb2.2, fun z => ?_⟩)⟩
              have := List.any_eq_false.mp ca q z
              exact this (decide_eq_true rfl)
      · rintro σ Hm ⟨vi, vp, ts, ss, rfl, xm, ll, l4, l3, okt, oks, okS⟩
        obtain ⟨xb, hb1, db⟩ := xm.b
        obtain ⟨xt, ht1, dt⟩ := xm.t
        obtain ⟨xs, hs1, ds⟩ := xm.s
        refine ⟨_, rfl, _, rfl, Lb, xb, rfl, .inl ⟨SqL.of hb1, fun ab hab => ?_⟩⟩
        have f1 := same_upd (o := HO.tup xb) hab
        refine ⟨_, rfl, Lt, xt, rfl, .inl ⟨SqL.of (f1 _ _ ht1), fun at' hat => ?_⟩⟩
        have f2 := same_upd (o := HO.tup xt) hat
        refine ⟨_, rfl, Ls, xs, rfl, .inl ⟨SqL.of (f2 _ _ (f1 _ _ hs1)), fun as has => ?_⟩⟩
        have f3 := same_upd (o := HO.tup xs) has
        refine ⟨(by show 4 ≤ sizeLine; decide), fun p hp => ?_⟩
        have f4 := same_upd (o := HO.tup [.int (1 + n), .ref ab, .ref at', .ref as]) hp
        refine k _ ⟨1 + n, bs, ts, ss⟩ _ (.tup (SqT.of upd_same) (.cons (.int _) (.cons ?_ (.cons ?_ (.cons ?_ .nil))))) (drawn_ok (by omega) (by omega) (by omega) (by omega) l4 l3 okb okt oks okS) (by show 1 + n ≤ 3; omega) (by show bs.length ≤ 2; omega) (by show bs.length + ts.length + ss.length ≤ m.toNat; omega) (xm.hB.same (((f1.trans f2).trans f3).trans f4)) ((k1.trans xm.kb).trans (Kb.same (((f1.trans f2).trans f3).trans f4)))
        · exact .tup (SqT.same ((f2.trans f3).trans f4) (SqT.of upd_same)) (Dp.sames (((f1.trans f2).trans f3).trans f4) _ _ db)
        · exact .tup (SqT.same (f3.trans f4) (SqT.of upd_same)) (Dp.sames (((f1.trans f2).trans f3).trans f4) _ _ dt)
        · exact .tup (SqT.same f4 (SqT.of upd_same)) (Dp.sames (((f1.trans f2).trans f3).trans f4) _ _ ds)
/-! ### _law_house -/
def spHsM (K : PySem.W.Frag) (C : Addr) : Sp := fun vs H Q _ => ∃ (x : V) (d : Hs), vs = [x] ∧ Dp K H x (drD d) ∧ HsOk d ∧ ∀ h H', Same H H' → HouseAt K C H' h d → Q (.ref h) H'
theorem scHsM : FnScope ["_law_drawn_here"] ["_law_drawn_here"] (defScope sHsM) := ⟨rfl, rfl, rfl, by decide +kernel, rfl, by decide +kernel, by decide +kernel⟩
theorem ok_hsm {f gH C CE : Addr} {fd fdH : FuncData} (F : Fun K "_law_house" "_law_house" sHsM f fd) (M : Mk K C gH) (GH : FnOk P w K mg base (L2.CX P w) 5 gH fdH ["self", "hands", "boxes", "things", "seals"] (spHouse K C CE)) (mH : mg "House" = some (.ref C)) (bH : Binds K fdH ["self", "hands", "boxes", "things", "seals"] []) :
    FnOk P w K mg base CX0 7 f fd ["_law_drawn_here"] (spHsM K C) := by
  refine F.ok scHsM (fun vs H Q E h => ?_) (fun cdv A outer s H vs Q E hr h => ?_)
  · obtain ⟨x, d, rfl, _⟩ := h
    rfl
  · obtain ⟨x, d, rfl, hx, ok, k⟩ := h
    refine ⟨_, pss_one (ps_ret (pe_make M GH hr rfl mH bH .nil passL (pa_cons (pe_ix ix_tup (pv 0) pe_int (fun _ _ => rfl)) (pa_cons (pe_ix ix_tup (pv 0) pe_int (fun _ _ => rfl)) (pa_cons (pe_ix ix_tup (pv 0) pe_int (fun _ _ => rfl)) (pa_cons (pe_ix ix_tup (pv 0) pe_int (fun _ _ => rfl)) pa_nil)))))), ?_⟩
    obtain ⟨a, v1, v2, v3, rfl, sa, d1, d2, d3⟩ := dr_at hx
    refine ⟨_, rfl, a, _, 0, _, rfl, rfl, sa, rfl, _, rfl, a, _, 1, _, rfl, rfl, sa, rfl, _, rfl, a, _, 2, _, rfl, rfl, sa, rfl, _, rfl, a, _, 3, _, rfl, rfl, sa, rfl, fun x dx hx hdx ne => ?_⟩
    have hdx' : (L2.upd H dx (.own x)) x = none := by rw [upd_ne ne.symm]; exact hx
    have e7 : Same H (L2.upd (L2.upd H dx (.own x)) x (.ins C dx [])) := Same.upd2 (same_upd hdx) hdx'
    have b1 := ok.b1
    have t1 := ok.t1
    have s1 := ok.s1
    refine ⟨x, dx, d.hands, _, _, _, d.bs, d.ts, d.ss, rfl, upd_same, Dp.same e7 _ _ d1, Dp.same e7 _ _ d2, Dp.same e7 _ _ d3, by omega, by omega, by omega, fun z i e => ?_, fun _ H8 hb8 hh8 hf8 => ⟨rfl, ?_⟩⟩
    · rw [ok.okE] at e
      cases e
    · exact k x H8 (fun a o h => hb8 a o (e7 a o h) (ne_of_none h hx)) hh8
end
end Kw



set_option Elab.async false
set_option linter.all false
set_option maxRecDepth 100000
set_option maxHeartbeats 4000000
namespace Kw
open PySem PySem.Spec PyProof.Rows L2
section
variable {P : Program} {w : World} {K : PySem.W.Frag} {mg : Str → Option Value} {base : Heap}
/-! ### _law_done -/
end
end Kw



set_option Elab.async false
set_option linter.all false
set_option maxRecDepth 100000
set_option maxHeartbeats 4000000
namespace Kw
open PySem PySem.Spec PyProof.Rows L2
abbrev sKno : Stmt := top 70
section
variable {P : Program} {w : World} {K : PySem.W.Frag} {mg : Str → Option Value} {base : Heap}
/-- deeds found so far -/
structure FF (K : PySem.W.Frag) (d : Hs) (H0 H : Hp) (p : Addr) (m : Nat) : Prop where
  e : Same H0 H
  ex : ∃ xs, H p = some (.lst xs) ∧ xs.length ≤ m ∧ ∀ v ∈ xs, DdU K d v H
theorem FF.same {d : Hs} {H0 H H' : Hp} {p : Addr} {m : Nat} (x : FF K d H0 H p m) (e : Same H H') : FF K d H0 H' p m := by
  obtain ⟨e0, xs, h1, h2, h3⟩ := x
  exact ⟨e0.trans e, xs, e _ _ h1, h2, fun v hv => (h3 v hv).nl (nl_same e)⟩
theorem FF.more {d : Hs} {H0 H : Hp} {p : Addr} {m n : Nat} (x : FF K d H0 H p m) (h : m ≤ n) : FF K d H0 H p n := by
  obtain ⟨e0, xs, h1, h2, h3⟩ := x
  exact ⟨e0, xs, h1, by omega, h3⟩
theorem FF.cat {d : Hs} {H0 H H1 : Hp} {p D : Addr} {m n : Nat} {zs : List V} {R : V → Hp → Prop} (x : FF K d H0 H p m) (e : Same H H1) (hm : m + n ≤ 2000) (hD : H1 D = some (.lst zs)) (lz : zs.length ≤ n) (rz : ∀ v ∈ zs, DdU K d v H1) (k : ∀ q H', FF K d H0 H' q (m + n) → R (.ref q) H') : rCat (.ref p) (.ref D) H1 R := by
  obtain ⟨e0, xs, h1, h2, h3⟩ := x.same e
  refine ⟨p, D, xs, zs, rfl, rfl, h1, hD, by rw [sizeLine_eq]; omega, fun q hq => k q _ ?_⟩
  have f := same_upd (o := HO.lst (xs ++ zs)) hq
  refine ⟨e0.trans f, _, upd_same, by rw [List.length_append]; omega, fun v hv => ?_⟩
  rcases List.mem_append.mp hv with hv | hv
  · exact (h3 v hv).nl (nl_same f)
  · exact (rz v hv).nl (nl_same f)
theorem rg_nv (n : Nat) : rgV 0 (n : Int) = nV (List.range n) := by
  unfold rgV nV
  rw [show ((n : Int) - 0).toNat = n by omega]
  refine List.map_congr_left fun i _ => ?_
  rw [Int.zero_add]
theorem allI_get {d : Hs} {p : It} (h : p ∈ allI d) : p.2 < (rowOf d p.1).length := by
  unfold allI kdI at h
  rcases List.mem_append.mp h with h | h
  · rcases List.mem_append.mp h with h | h
    · obtain ⟨i, hi, rfl⟩ := List.mem_map.mp h
      exact List.mem_range.mp hi
    · obtain ⟨i, hi, rfl⟩ := List.mem_map.mp h
      exact List.mem_range.mp hi
  · obtain ⟨i, hi, rfl⟩ := List.mem_map.mp h
    exact List.mem_range.mp hi
theorem ddu_all {d : Hs} {H : Hp} : ∀ {vs : List V}, (∀ v ∈ vs, DdU K d v H) → ∃ es : List Dd, DpAll K H vs (es.map ddD)
  | [], _ => ⟨[], .nil⟩
  | v :: vs, h => by
    obtain ⟨e, h1, _⟩ := h v List.mem_cons_self
    obtain ⟨es, h2⟩ := ddu_all (vs := vs) fun u hu => h u (List.mem_cons_of_mem _ hu)
    exact ⟨e :: es, .cons h1 h2⟩
theorem same_none {H H' : Hp} (e : Same H H') {p : Addr} (h : H' p = none) : H p = none := by
  cases q : H p with
  | none => rfl
  | some o =>
    have := e _ _ q
    rw [h] at this
    cases this
theorem scKno : FnScope ["_law_drawn_here", "_law_hands", "_law_found", "_law_items_here", "_law_boxes", "_law_seals", "_law_hand", "_law_item", "_law_other", "_law_box", "_law_seal"] ["_law_drawn_here", "_law_hands"] (defScope sKno) := ⟨rfl, rfl, rfl, by decide +kernel, rfl, by decide +kernel, by decide +kernel⟩
end
end Kw



set_option Elab.async false
set_option linter.all false
set_option maxRecDepth 100000
set_option maxHeartbeats 4000000
namespace Kw
open PySem PySem.Spec PyProof.Rows L2
section
variable {P : Program} {w : World} {K : PySem.W.Frag} {mg : Str → Option Value} {base : Heap}
end
end Kw


set_option Elab.async false
set_option linter.all false
set_option maxRecDepth 100000
set_option maxHeartbeats 4000000
namespace Kw
open PySem PySem.Spec PyProof.Rows L2
section
variable {P : Program} {w : World} {K : PySem.W.Frag} {mg : Str → Option Value} {base : Heap}
end
end Kw


set_option Elab.async false
set_option linter.all false
set_option maxRecDepth 100000
set_option maxHeartbeats 4000000
/-! o != p by an own __eq__ (no __ne__). -/
namespace Kw
open PySem PySem.Spec PyProof.Rows L2
section
variable {X : Cx} {CX : CXT} {C f : Addr} {fd : FuncData} {k : Nat} {ps : List Str} {sp : Sp} {E : XK}
end
end Kw


set_option Elab.async false
set_option linter.all false
set_option maxRecDepth 100000
set_option maxHeartbeats 4000000
/-! Dicts whose keys are tuples of any depth. -/
namespace Kw
open PySem PySem.Spec PyProof.Rows L2
mutual
def keyOf : PyData → NestedKey
  | .int i => .num i
  | .str x => .text x
  | .tuple ds => .tup (keysOf ds)
  | _ => .none
def keysOf : List PyData → List NestedKey
  | [] => []
  | d :: ds => keyOf d :: keysOf ds
end
mutual
def keyable : PyData → Bool
  | .int _ => true
  | .str _ => true
  | .tuple ds => keyables ds
  | _ => false
def keyables : List PyData → Bool
  | [] => true
  | d :: ds => keyable d && keyables ds
end
mutual
theorem keyOf_inj : ∀ (d e : PyData), keyable d = true → keyable e = true → keyOf d = keyOf e → d = e
  | .int i, e, _, he, h => by
    cases e with
    | int j => rw [keyOf, keyOf] at h; cases h; rfl
    | str x => rw [keyOf, keyOf] at h; cases h
    | tuple ds => rw [keyOf, keyOf] at h; cases h
    | _ => cases he
  | .str x, e, _, he, h => by
    cases e with
    | int j => rw [keyOf, keyOf] at h; cases h
    | str x => rw [keyOf, keyOf] at h; cases h; rfl
    | tuple ds => rw [keyOf, keyOf] at h; cases h
    | _ => cases he
  | .tuple ds, e, hd, he, h => by
    cases e with
    | int j => rw [keyOf, keyOf] at h; cases h
    | str x => rw [keyOf, keyOf] at h; cases h
    | tuple es =>
      rw [keyOf, keyOf] at h
      rw [keysOf_inj ds es hd he (NestedKey.tup.inj h)]
    | _ => cases he
  | .none, _, hd, _, _ => by cases hd
  | .bool _, _, hd, _, _ => by cases hd
  | .list _, _, hd, _, _ => by cases hd
  | .dict _, _, hd, _, _ => by cases hd
theorem keysOf_inj : ∀ (ds es : List PyData), keyables ds = true → keyables es = true → keysOf ds = keysOf es → ds = es
  | [], [], _, _, _ => rfl
  | [], e :: es, _, _, h => by rw [keysOf, keysOf] at h; cases h
  | d :: ds, [], _, _, h => by rw [keysOf, keysOf] at h; cases h
  | d :: ds, e :: es, hd, he, h => by
    rw [keysOf, keysOf] at h
    rw [keyables, Bool.and_eq_true] at hd he
    injection h with h1 h2
    rw [keyOf_inj d e hd.1 he.1 h1, keysOf_inj ds es hd.2 he.2 h2]
end
section
variable {X : Cx} {pins : List (Addr × Obj)} {σ : L2.St} {H : Hp} {s : Shared}
mutual
theorem Dp.nested (I : L2.Inv X pins σ H s) : ∀ (d : PyData) (v : V) (u : Value), keyable d = true → Dp X.K H v d → RelV v u → NestedIs s.heap (keyOf d) u
  | .int i, _, _, _, h, r => by
    cases h
    obtain ⟨t, rfl⟩ := r
    exact NestedIs.int i t
  | .str x, _, _, _, h, r => by
    cases h
    obtain ⟨t, rfl⟩ := r
    exact NestedIs.text x t
  | .tuple ds, _, _, k, h, r => by
    cases h with
    | tup hs ha =>
      cases r
      obtain ⟨its, rv, ⟨o, ho, hc, n, hd⟩, _⟩ := I.tuple hs
      rw [keyOf]
      exact NestedIs.tup ho hc hd (by simpa using Dp.nestedAll I ds _ its k ha rv)
  | .none, _, _, k, _, _ => by cases k
  | .bool _, _, _, k, _, _ => by cases k
  | .list _, _, _, k, _, _ => by cases k
  | .dict _, _, _, k, _, _ => by cases k
theorem Dp.nestedAll (I : L2.Inv X pins σ H s) : ∀ (ds : List PyData) (vs : List V) (us : List Value), keyables ds = true → DpAll X.K H vs ds → Vals vs us → NestedAll s.heap (keysOf ds) us
  | [], _, _, _, h, r => by
    cases h
    cases r
    exact NestedAll.nil
  | d :: ds, _, _, k, h, r => by
    cases h with
    | cons h1 h2 =>
      cases r with
      | cons r1 r2 =>
        rw [keyables, Bool.and_eq_true] at k
        rw [keysOf]
        exact NestedAll.cons (Dp.nested I d _ _ k.1 h1 r1) (Dp.nestedAll I ds _ _ k.2 h2 r2)
end
end
/-! ### the dict -/
abbrev KVs := List (NestedKey × Addr × V)
def DKR (kvs : KVs) (xs : List (NestedKey × Addr × Value)) : Prop := Paired (fun p q => p.1 = q.1 ∧ p.2.1 = q.2.1 ∧ RelV p.2.2 q.2.2) kvs xs
def DXok (P : Program) (w : World) (a : Addr) (kvs : KVs) (h : Heap) : Prop := kvs.length ≤ sizeLine ∧ (a == sysModules) = false ∧ ∃ xs, DKR kvs xs ∧ ∃ o es ep, h.get? a = some o ∧ o.ExactDict ∧ o.data = .dict es ep ∧ es.toList = xs.map (entryOfKey (nestedKind P w)) ∧ (xs.map (·.1)).Nodup
/-- a dict with such keys, each with the place of its own tuple -/
def DX (P : Program) (w : World) (a : Addr) (kvs : KVs) : HO := .ext (DXok P w a kvs)
theorem DXok.stay {P : Program} {w : World} {a : Addr} {kvs : KVs} {h1 h2 : Heap} (x : DXok P w a kvs h1) (k : ∀ o, h1.get? a = some o → h2.get? a = some o) : DXok P w a kvs h2 := by
  obtain ⟨z, hd, xs, r, o, es, ep, e, c⟩ := x
  exact ⟨z, hd, xs, r, o, es, ep, k _ e, c⟩
theorem dx_ok {P : Program} {w : World} {H : Hp} {a : Addr} {kvs : KVs} {h : Heap} (x : DXok P w a kvs h) : ObjOk P w H h a (DX P w a kvs) := by
  refine ⟨x, ?_, fun h1 h2 y k => y.stay k⟩
  obtain ⟨_, _, _, _, o, _, _, e, _⟩ := x
  exact ⟨o, e⟩
def kvAt (kvs : KVs) (k : NestedKey) : Option V := (kvs.find? fun x => decide (x.1 = k)).map (·.2.2)
/-- the keys' tuples stand -/
def KeysAt (K : PySem.W.Frag) (H : Hp) (kvs : KVs) : Prop := ∀ x ∈ kvs, ∃ d, keyable d = true ∧ (keyOf d).depth ≤ 8 ∧ keyOf d = x.1 ∧ Dp K H (.ref x.2.1) d
theorem DKR.at {kvs : KVs} {xs : List (NestedKey × Addr × Value)} (r : DKR kvs xs) (k : NestedKey) : (kvAt kvs k = none ∧ atKey xs k = none) ∨ ∃ v p, kvAt kvs k = some v ∧ atKey xs k = some p ∧ RelV v p.2 := by
  unfold DKR at r
  induction r with
  | nil => exact .inl ⟨rfl, rfl⟩
  | @cons p q kvs xs h t ih =>
    obtain ⟨e1, e2, e3⟩ := h
    by_cases c : p.1 = k
    · exact .inr ⟨p.2.2, q.2, by simp [kvAt, c], by simp [atKey, ← e1, c], e3⟩
    · have c2 : ¬ q.1 = k := fun z => c (e1.trans z)
      rcases ih with ⟨h1, h2⟩ | ⟨v, z, h1, h2, h3⟩
      · refine .inl ⟨?_, ?_⟩
        · simpa [kvAt, List.find?_cons, c] using h1
        · simpa [atKey, List.find?_cons, c2] using h2
      · refine .inr ⟨v, z, ?_, ?_, h3⟩
        · simpa [kvAt, List.find?_cons, c] using h1
        · simpa [atKey, List.find?_cons, c2] using h2
theorem DKR.keys {kvs : KVs} {xs : List (NestedKey × Addr × Value)} (r : DKR kvs xs) : ∀ y ∈ xs, ∃ x ∈ kvs, x.1 = y.1 ∧ x.2.1 = y.2.1 := by
  unfold DKR at r
  induction r with
  | nil => intro y hy; cases hy
  | @cons p q kvs xs h t ih =>
    intro y hy
    rcases List.mem_cons.mp hy with rfl | hy
    · exact ⟨p, List.mem_cons_self, h.1, h.2.1⟩
    · obtain ⟨x, hx, e⟩ := ih y hy
      exact ⟨x, List.mem_cons_of_mem _ hx, e⟩
theorem DKR.len {kvs : KVs} {xs : List (NestedKey × Addr × Value)} (r : DKR kvs xs) : xs.length = kvs.length := (Paired.length r).symm
theorem DKR.snoc {kvs : KVs} {xs : List (NestedKey × Addr × Value)} (r : DKR kvs xs) {k : NestedKey} {a : Addr} {v : V} {u : Value} (rv : RelV v u) : DKR (kvs ++ [(k, a, v)]) (xs ++ [(k, a, u)]) := by
  unfold DKR at *
  induction r with
  | nil => exact .cons ⟨rfl, rfl, rv⟩ .nil
  | cons h t ih => exact .cons h ih
section
variable {X : Cx} {pins : List (Addr × Obj)} {σ : L2.St} {H : Hp} {s : Shared} {a b : Addr} {kvs : KVs}
theorem dx_of (I : L2.Inv X pins σ H s) (e : H a = some (DX X.prog X.w a kvs)) (ks : KeysAt X.K H kvs) : kvs.length ≤ sizeLine ∧ (a == sysModules) = false ∧ ∃ xs, DKR kvs xs ∧ s.heap.DictOfH (nestedKind X.prog X.w) a xs := by
  obtain ⟨⟨z, hd, xs, r, o, es, ep, h1, h2, h3, h4, h5⟩, _⟩ := I.hok a _ e
  refine ⟨z, hd, xs, r, o, es, ep, h1, h2, h3, h4, fun y hy => ?_, h5⟩
  obtain ⟨x, hx, e1, e2⟩ := r.keys y hy
  obtain ⟨d, kd, dep, ek, dp⟩ := ks x hx
  rw [← e1, ← e2, ← ek]
  exact ⟨Dp.nested I d _ _ kd dp rfl, dep⟩
theorem key_is (I : L2.Inv X pins σ H s) {d : PyData} (kd : keyable d = true) (dep : (keyOf d).depth ≤ 8) (dp : Dp X.K H (.ref b) d) : (nestedKind X.prog X.w).is s.heap (keyOf d) b := ⟨Dp.nested I d _ _ kd dp rfl, dep⟩
end
section
variable {X : Cx}
/-- y in d, y not in d -/
def rInX (K : PySem.W.Frag) (P : Program) (w : World) : R2 := fun y x H Q => ∃ (a b : Addr) (kvs : KVs) (d : PyData), y = .ref b ∧ x = .ref a ∧ H a = some (DX P w a kvs) ∧ KeysAt K H kvs ∧ keyable d = true ∧ (keyOf d).depth ≤ 8 ∧ Dp K H (.ref b) d ∧ Q (.bl (kvAt kvs (keyOf d)).isSome) H
theorem op_inX (hu : X.A.units + 9 < cLine) : OpR X (compareOp .In) (rInX X.K X.prog X.w) := by
  intro pins s σ H x y v u Q I rx ry h
  obtain ⟨a, b, kvs, d, rfl, rfl, e, ks, kd, dep, dp, q⟩ := h
  cases rx
  cases ry
  obtain ⟨z, hd, xs, r, hm⟩ := dx_of I e ks
  refine wpAny_in_heap (knd := nestedKind X.prog X.w) (k := keyOf d) (show X.A.in1.units + 8 < cLine by show X.A.units + 1 + 8 < cLine; omega) (key_is I kd dep dp) hd hm ?_
  rcases r.at (keyOf d) with ⟨h1, h2⟩ | ⟨v, p, h1, h2, _⟩
  · rw [h2]
    rw [h1] at q
    exact ⟨.bl false, H, I.tok _, rfl, q⟩
  · rw [h2]
    rw [h1] at q
    exact ⟨.bl true, H, I.tok _, rfl, q⟩
/-- d[y] -/
def tDGetX (K : PySem.W.Frag) (P : Program) (w : World) (td ty : TE) : TE := fun σ H Q => td σ H fun x H1 => ty σ H1 fun y H2 => ∃ (a b : Addr) (kvs : KVs) (d : PyData) (v : V), x = .ref a ∧ y = .ref b ∧ H2 a = some (DX P w a kvs) ∧ KeysAt K H2 kvs ∧ keyable d = true ∧ (keyOf d).depth ≤ 8 ∧ Dp K H2 (.ref b) d ∧ kvAt kvs (keyOf d) = some v ∧ Q v H2
/-- d[y] = v, y new -/
def sDPutX (K : PySem.W.Frag) (P : Program) (w : World) (td ty tv : TE) : TS := fun D σ H => tv σ H fun v H1 => td σ H1 fun x H2 => ty σ H2 fun y H3 => ∃ (a b : Addr) (kvs : KVs) (d : PyData), x = .ref a ∧ y = .ref b ∧ H3 a = some (DX P w a kvs) ∧ KeysAt K H3 kvs ∧ keyable d = true ∧ (keyOf d).depth ≤ 8 ∧ Dp K H3 (.ref b) d ∧ kvAt kvs (keyOf d) = none ∧ kvs.length < sizeLine ∧ D.nx σ (L2.upd H3 a (DX P w a (kvs ++ [(keyOf d, b, v)])))
/-- {y: v} -/
def tDispX (K : PySem.W.Frag) (P : Program) (w : World) (tk tv : TE) : TE := fun σ H Q => ∀ p, H p = none → tk σ (L2.upd H p (DX P w p [])) fun y H1 => tv σ H1 fun v H2 => ∃ (b : Addr) (d : PyData), y = .ref b ∧ H2 p = some (DX P w p []) ∧ keyable d = true ∧ (keyOf d).depth ≤ 8 ∧ Dp K H2 (.ref b) d ∧ Q (.ref p) (L2.upd H2 p (DX P w p [(keyOf d, b, v)]))
variable {o i value : Expr} {pos pos' : Pos} {td ty tv tk : TE}
theorem pe_dgetX (hu : X.A.units + 9 < cLine) (ho : PE X o td) (hi : PE X i ty) (hs : NoSl i) : PE X (.Subscript o i pos) (tDGetX X.K X.prog X.w td ty) := by
  refine ⟨fun pins s σ H Q I h => ?_⟩
  refine subD_of PySem.F.slot_dict_getitem.lookup hs (thn (ho.run pins s σ H _ I h) fun u s1 ⟨x, H1, I1, rx, q1⟩ => thn (hi.run pins s1 σ H1 _ I1 q1) fun iv s2 ⟨y, H2, I2, ry, a, b, kvs, d, v, ex, ey, e, ks, kd, dep, dp, hv, q2⟩ => ?_)
  subst ex ey
  obtain rfl : u = Value.ref a := rx
  obtain rfl : iv = Value.ref b := ry
  obtain ⟨z, hd, xs, r, hm⟩ := dx_of I2 e ks
  refine ⟨hm.typeIs, ?_⟩
  rcases r.at (keyOf d) with ⟨h1, h2⟩ | ⟨v', p, h1, h2, h3⟩
  · rw [h1] at hv
    cases hv
  · rw [h1] at hv
    cases hv
    exact wpAny_getItem_heap (knd := nestedKind X.prog X.w) (k := keyOf d) (show X.A.in1.units + 8 < cLine by show X.A.units + 1 + 8 < cLine; omega) (key_is I2 kd dep dp) hm h2 ⟨v, H2, I2.tok _, h3, q2⟩
theorem dx_write {pins : List (Addr × Obj)} {σ : L2.St} {H : Hp} {s : Shared} {a : Addr} {kvs kvs' : KVs} {xs' : List (NestedKey × Addr × Value)} {h' : Heap} {t : Nat} (I : L2.Inv X pins σ H s) (e : H a = some (DX X.prog X.w a kvs)) (hd : (a == sysModules) = false) (r : DKR kvs' xs') (z : kvs'.length ≤ sizeLine) (hm : h'.DictOfH (nestedKind X.prog X.w) a xs') (hs : Heap.SameBut a s.heap h') : L2.Inv X pins σ (L2.upd H a (DX X.prog X.w a kvs')) { s with heap := h', toks := t } := by
  obtain ⟨q, es, ep, hq, h2, h3, h4, _, h5⟩ := hm
  exact d_write I (by rw [e]; exact True.intro) hs ⟨q, hq⟩ (dx_ok ⟨z, hd, xs', r, q, es, ep, hq, h2, h3, h4, h5⟩)
theorem ps_dputX (hu : X.A.units + 9 < cLine) (ho : PE X o td) (hi : PE X i ty) (hv : PE X value tv) (hs : swapsWith value (some (.Subscript o i pos')) pos.line X.env = pure false) :
    PS X (.Assign [.Subscript o i pos'] value pos) (sDPutX X.K X.prog X.w td ty tv) := by
  refine ⟨fun pins s σ H D I h => ?_⟩
  refine wpAny_Assign_Subscript (thn (hv.run pins s σ H _ I h) fun r s1 ⟨v, H1, I1, rv, q1⟩ => thn (ho.run pins s1 σ H1 _ I1 q1) fun u s2 ⟨x, H2, I2, rx, q2⟩ => thn (hi.run pins s2 σ H2 _ I2 q2) fun iv s3 ⟨y, H3, I3, ry, a, b, kvs, d, ex, ey, e, ks, kd, dep, dp, hv, lz, q3⟩ => ?_) hs
  subst ex ey
  obtain rfl : u = Value.ref a := rx
  obtain rfl : iv = Value.ref b := ry
  obtain ⟨z, hd, xs, rr, hm⟩ := dx_of I3 e ks
  rcases rr.at (keyOf d) with ⟨h1, h2⟩ | ⟨v', p, h1, h2, h3⟩
  · refine wpAny_setItem_heap (hsz := by rw [rr.len]; exact z) (knd := nestedKind X.prog X.w) (k := keyOf d) (show X.A.in1.units + 8 < cLine by show X.A.units + 1 + 8 < cLine; omega) (key_is I3 kd dep dp) hm fun h' hm' hs' => ⟨σ, _, ?_, q3⟩
    rw [storedH_new h2] at hm'
    exact dx_write I3 e hd (rr.snoc rv) (by rw [List.length_append]; exact lz) hm' hs'
  · rw [h1] at hv
    cases hv
theorem pe_dispX {k v : Expr} (hu : X.A.units + 8 < cLine) (hk : PE X k tk) (hv : PE X v tv) : PE X (.Dict [some k] [v] pos) (tDispX X.K X.prog X.w tk tv) := by
  refine ⟨fun pins s σ H Q I q => ?_⟩
  have hn := I.hok.fresh (Nat.le_refl s.heap.objs.size)
  have hsm : (s.heap.objs.size == sysModules) = false := beq_eq_false_iff_ne.mpr (Ne.symm (Nat.ne_of_lt I.big))
  have I1 := I.laid (a := s.heap.objs.size) (o := DX X.prog X.w s.heap.objs.size []) (h' := s.heap.push { cls := .type "dict", data := .dict #[] }) (t' := s.toks) (fun _ _ q => Heap.get?_push_of_some _ q) (Nat.le_refl _)
    (dx_ok ⟨Nat.zero_le _, hsm, [], .nil, _, #[], 0, Heap.get?_push_size _ rfl, ⟨rfl, rfl, rfl⟩, rfl, rfl, List.nodup_nil⟩)
  have shape : (evalEachOpt [some k] X.env).zip ((evalEach [v] X.env).map fun v => do let x ← v; standAt pos; pure x) = (pairTrees [some k] [v] X.env pos).map fun p => (some p.1, p.2) := zip_pairTrees [some k] [v] X.env pos rfl rfl
  rw [arm_eval_Dict, shape, dictDisplay_pairs _ (by simp [pairTrees]) (by simp [pairTrees])]
  refine wpAny_bind (wpAny_standAt (wpAny_bind (wpAny_subDictH (knd := nestedKind X.prog X.w) (Q := fun d s' => wpAny (model X.prog X.w) X.A (pure (Value.ref d)) (EP X pins σ Q) X.xe s') hu (by simp [pairTrees]) ?_)))
  refine pairTrees_cons_walk (thn (hk.run pins _ σ _ _ I1 (q _ hn)) fun u s1 ⟨y, H1, I2, ry, q1⟩ => thn (hv.run pins s1 σ H1 _ I2 q1) fun u2 s2 ⟨v', H2, I3, rv, b, d, ey, e, kd, dep, dp, q2⟩ => pairTrees_nil_walk ?_)
  subst ey
  obtain rfl : u = Value.ref b := ry
  obtain ⟨z, hd, xs, rr, hm⟩ := dx_of I3 e (fun x hx => nomatch hx)
  cases rr
  refine ⟨[(keyOf d, b, u2)], ⟨rfl, rfl, key_is I3 kd dep dp, trivial⟩, hm, fun h' tk hk' hs' => wpAny_pure ⟨.ref _, _, ?_, rfl, q2⟩⟩
  have e2 : storedAllH [] [(keyOf d, b, u2)] = [(keyOf d, b, u2)] := rfl
  rw [e2] at hk'
  exact dx_write I3 e hd (.cons ⟨rfl, rfl, rv⟩ .nil) (by rw [sizeLine_eq]; simp) hk' hs'
end
end Kw


set_option Elab.async false
set_option linter.all false
set_option maxRecDepth 100000
set_option maxHeartbeats 4000000
namespace Kw
open PySem PySem.Spec PyProof.Rows L2
abbrev sAlk : Stmt := top 66
/-! ### _law_alike of equal data -/
def Alk : Nat → PyData → Prop
  | 0, _ => False
  | n + 1, d => match d with
    | .none => True
    | .int _ => True
    | .str _ => True
    | .tuple ds => ds.length ≤ 100000 ∧ ∀ e ∈ ds, Alk n e
    | .list ds => ds.length ≤ 100000 ∧ ∀ e ∈ ds, Alk n e
    | _ => False
theorem kit_tup (K : PySem.W.Frag) : PySem.W.kitAny K (.type "tuple") [.type "tuple", .type "list"] = some true := by
  have h1 : PySem.W.kitOne K (.type "tuple") (.type "tuple") = some true := kit_ty (by decide +kernel)
  have h2 : PySem.W.kitOne K (.type "tuple") (.type "list") = some false := kit_ty (by decide +kernel)
  simp [PySem.W.kitAny, h1, h2]
theorem kit_lst (K : PySem.W.Frag) : PySem.W.kitAny K (.type "list") [.type "tuple", .type "list"] = some true := by
  have h1 : PySem.W.kitOne K (.type "list") (.type "tuple") = some false := kit_ty (by decide +kernel)
  have h2 : PySem.W.kitOne K (.type "list") (.type "list") = some true := kit_ty (by decide +kernel)
  simp [PySem.W.kitAny, h1, h2]
theorem kit_str (K : PySem.W.Frag) : PySem.W.kitAny K (.type "str") [.type "tuple", .type "list"] = some false := by
  have h1 : PySem.W.kitOne K (.type "str") (.type "tuple") = some false := kit_ty (by decide +kernel)
  have h2 : PySem.W.kitOne K (.type "str") (.type "list") = some false := kit_ty (by decide +kernel)
  simp [PySem.W.kitAny, h1, h2]
theorem kit_int (K : PySem.W.Frag) : PySem.W.kitAny K (.type "int") [.type "tuple", .type "list"] = some false := by
  have h1 : PySem.W.kitOne K (.type "int") (.type "tuple") = some false := kit_ty (by decide +kernel)
  have h2 : PySem.W.kitOne K (.type "int") (.type "list") = some false := kit_ty (by decide +kernel)
  simp [PySem.W.kitAny, h1, h2]
section
variable {P : Program} {w : World} {K : PySem.W.Frag} {mg : Str → Option Value} {base : Heap}
def spAlD (K : PySem.W.Frag) (n : Nat) : Sp := fun vs H Q _ => ∃ (x y : V) (d : PyData), vs = [x, y] ∧ Dp K H x d ∧ Dp K H y d ∧ Alk n d ∧ ∀ H', Same H H' → Q (.bl true) H'
theorem scAlk : FnScope ["_law_found", "_law_due", "_law_k"] ["_law_found", "_law_due"] (defScope sAlk) := ⟨rfl, rfl, rfl, by decide +kernel, rfl, by decide +kernel, by decide +kernel⟩
theorem ok_alD {f : Addr} {fd : FuncData} (F : Fun K "_law_alike" "_law_alike" sAlk f fd) (B : Bt mg) (mD : mg "dict" = none) (mF : mg "_law_alike" = some (.ref f)) (bF : Binds K fd ["_law_found", "_law_due"] []) : ∀ n : Nat, FnOk P w K mg base CX0 n f fd ["_law_found", "_law_due"] (spAlD K n) := by
  intro n
  induction n with
  | zero => exact ⟨fun vs H Q E h => by obtain ⟨_, _, _, _, _, _, h, _⟩ := h; exact h.elim, fun A outer s H args us vs Q E _ _ _ _ h => by obtain ⟨_, _, _, _, _, _, h, _⟩ := h; exact h.elim⟩
  | succ n G =>
  refine F.ok scAlk (fun vs H Q E h => ?_) (fun cdv A outer s H vs Q E hr h => ?_)
  · obtain ⟨x, y, d, rfl, _⟩ := h
    rfl
  · obtain ⟨x, y, d, rfl, hx, hy, ok, k⟩ := h
    have hu : (cxOf CX0 P w K mg base ["_law_found", "_law_due", "_law_k"] "_law_alike" (defScope sAlk) f cdv A outer s H E).nox.A.units + 64 < cLine := by have := hr.un; show (A.deeper _).units + 64 < cLine; omega
    have l5 := sizeLine_eq
    refine ⟨_, (pss_cons (ps_if (pt_val (pe_callB call_isi (by rfl) B.isi (by decide +kernel) (pa_cons (pv 1) (pa_cons (pe_bltn (v := .ty "dict") (by rfl) mD (by decide +kernel) rfl) pa_nil)))) (pss_one ps_never) pss_nil) (pss_cons (ps_if (pt_val (pe_callB call_isiT (by rfl) B.isi (by decide +kernel) (pa_cons (pv 1) (pa_cons (pe_tup (pa_cons (pe_bltn (v := .ty "tuple") (by rfl) B.tup (by decide +kernel) rfl) (pa_cons (pe_bltn (v := .ty "list") (by rfl) B.lst (by decide +kernel) rfl) pa_nil))) pa_nil)))) (pss_cons (ps_if (PW.pt (pw_or (pt_not (pt_val (pe_callB call_isiT (by rfl) B.isi (by decide +kernel) (pa_cons (pv 0) (pa_cons (pe_tup (pa_cons (pe_bltn (v := .ty "tuple") (by rfl) B.tup (by decide +kernel) rfl) (pa_cons (pe_bltn (v := .ty "list") (by rfl) B.lst (by decide +kernel) rfl) pa_nil))) pa_nil))))) (pw_or1 (pt_cmpR op_ne (pe_callB call_isi (by rfl) B.isi (by decide +kernel) (pa_cons (pv 0) (pa_cons (pe_bltn (v := .ty "list") (by rfl) B.lst (by decide +kernel) rfl) pa_nil))) (pe_callB call_isi (by rfl) B.isi (by decide +kernel) (pa_cons (pv 1) (pa_cons (pe_bltn (v := .ty "list") (by rfl) B.lst (by decide +kernel) rfl) pa_nil))) (nomark _))))) (pss_one (ps_ret pe_bl)) pss_nil) (pss_cons (ps_if (pt_cmpR op_ne (pe_callB call_len_seq (by rfl) B.len PySem.boot_len (pa_cons (pv 0) pa_nil)) (pe_callB call_len_seq (by rfl) B.len PySem.boot_len (pa_cons (pv 1) pa_nil)) (nomark _)) (pss_one (ps_ret pe_bl)) pss_nil) (pss_one (ps_ret (pe_cmpR (op_eqD hu) (pe_lc (own := [("_law_k", 2)]) (g := gName 2) (tt := (tNot (tTest (tCall (spAlD K n) [] E0 (tCons (tOp (rIx K) (tVar 0) (tVar 2)) (tCons (tOp (rIx K) (tVar 1) (tVar 2)) tNil)))))) (te := (tVar 2)) rfl scAlk.nd (pi_range1 rfl B.rng (pa_cons (pe_callB call_len_seq (by rfl) B.len PySem.boot_len (pa_cons (pv 1) pa_nil)) pa_nil)) (blkOk_by (own := [("_law_k", 2)]) (N := ["_law_found", "_law_due", "_law_k"]) (sc := defScope sAlk) (by decide +kernel)) (fun _ _ _ _ _ => pg_name (i := 2) scAlk.nd rfl (.inl rfl)) (fun _ _ _ _ _ => pts_one (pt_not (pt_val (pe_call G hr rfl mF F.kp bF .nil pass0 (pa_cons (pe_ix ix_seq (pv 0) (pv 2) (fun _ _ => rfl)) (pa_cons (pe_ix ix_seq (pv 1) (pv 2) (fun _ _ => rfl)) pa_nil)))))) (fun _ _ _ _ _ => (pv 2))) (pe_lst pa_nil) (nomark _)))))) pss_nil) (pss_cons (ps_if (PW.pt (pw_or (pt_cmpR op_isN (pv 1) pe_non (nomark _)) (pw_or1 (pt_val (pe_callB call_isi (by rfl) B.isi (by decide +kernel) (pa_cons (pv 1) (pa_cons (pe_bltn (v := .ty "str") (by rfl) B.str (by decide +kernel) rfl) pa_nil))))))) (pss_one (ps_ret (pe_and (pe_cmpR op_eq (pv 0) (pv 1) (nomark _)) (pe_one (pe_cmpR op_eq (pe_callB call_isi (by rfl) B.isi (by decide +kernel) (pa_cons (pv 0) (pa_cons (pe_bltn (v := .ty "str") (by rfl) B.str (by decide +kernel) rfl) pa_nil))) (pe_callB call_isi (by rfl) B.isi (by decide +kernel) (pa_cons (pv 1) (pa_cons (pe_bltn (v := .ty "str") (by rfl) B.str (by decide +kernel) rfl) pa_nil))) (nomark _)))))) pss_nil) (pss_one (ps_ret (pe_and (pe_callB call_isi (by rfl) B.isi (by decide +kernel) (pa_cons (pv 0) (pa_cons (pe_bltn (v := .ty "int") (by rfl) B.int (by decide +kernel) rfl) pa_nil))) (pe_and (pe_cmpR op_eq (pe_callB call_isi (by rfl) B.isi (by decide +kernel) (pa_cons (pv 0) (pa_cons (pe_bltn (v := .ty "bool") (by rfl) B.bool (by decide +kernel) rfl) pa_nil))) (pe_callB call_isi (by rfl) B.isi (by decide +kernel) (pa_cons (pv 1) (pa_cons (pe_bltn (v := .ty "bool") (by rfl) B.bool (by decide +kernel) rfl) pa_nil))) (nomark _)) (pe_one (pe_cmpR op_eq (pv 0) (pv 1) (nomark _)))))))))), ?_⟩
    cases hx with
    | int i =>
      cases hy
      refine ⟨_, rfl, _, _, _, _, false, rfl, .ty "dict", .base (.int i), kit_ty (by decide +kernel), _, rfl, iteF ?_⟩
      refine ⟨_, rfl, (by show 2 ≤ sizeLine; decide), fun tp htp => ?_⟩
      have f1 := same_upd (o := HO.tup [V.ty "tuple", .ty "list"]) htp
      refine ⟨_, tp, _, _, _, false, rfl, upd_same, .cons (.ty "tuple") (.cons (.ty "list") .nil), .base (.int i), kit_int K, _, rfl, iteF ?_⟩
      refine ⟨_, rfl, rfl, _, rfl, iteF ⟨_, rfl, _, _, _, _, false, rfl, .ty "str", .base (.int i), kit_ty (by decide +kernel), _, rfl, iteF ?_⟩⟩
      refine ⟨_, rfl, _, _, _, _, true, rfl, .ty "int", .base (.int i), kit_ty (by decide +kernel), _, rfl, iteT ?_⟩
      refine ⟨_, rfl, _, _, _, _, false, rfl, .ty "bool", .base (.int i), kit_ty (by decide +kernel), _, rfl, _, _, _, _, false, rfl, .ty "bool", .base (.int i), kit_ty (by decide +kernel), rfl, _, rfl, iteTe (decide_eq_true rfl) ?_⟩
      refine ⟨_, rfl, _, rfl, rfl, ?_⟩
      rw [decide_eq_true rfl]
      exact k _ f1
    | str z =>
      cases hy
      refine ⟨_, rfl, _, _, _, _, false, rfl, .ty "dict", .base (.str z), kit_ty (by decide +kernel), _, rfl, iteF ?_⟩
      refine ⟨_, rfl, (by show 2 ≤ sizeLine; decide), fun tp htp => ?_⟩
      have f1 := same_upd (o := HO.tup [V.ty "tuple", .ty "list"]) htp
      refine ⟨_, tp, _, _, _, false, rfl, upd_same, .cons (.ty "tuple") (.cons (.ty "list") .nil), .base (.str z), kit_str K, _, rfl, iteF ?_⟩
      refine ⟨_, rfl, rfl, _, rfl, iteF ⟨_, rfl, _, _, _, _, true, rfl, .ty "str", .base (.str z), kit_ty (by decide +kernel), _, rfl, iteT ?_⟩⟩
      refine ⟨_, rfl, _, rfl, rfl, _, rfl, iteTe (decide_eq_true rfl) ?_⟩
      refine ⟨_, rfl, _, _, _, _, true, rfl, .ty "str", .base (.str z), kit_ty (by decide +kernel), _, rfl, _, _, _, _, true, rfl, .ty "str", .base (.str z), kit_ty (by decide +kernel), rfl, ?_⟩
      rw [decide_eq_true rfl]
      exact k _ f1
    | @lst a xs ds hs ha =>
      cases hy with
      | @lst b ys _ hs2 ha2 =>
      have ok' : ds.length ≤ 100000 ∧ ∀ e ∈ ds, Alk n e := ok
      have l1 := DpAll.len ha
      have l2 := DpAll.len ha2
      refine ⟨_, rfl, _, _, _, _, false, rfl, .ty "dict", ty_lst hs2, kit_ty (by decide +kernel), _, rfl, iteF ?_⟩
      refine ⟨_, rfl, (by show 2 ≤ sizeLine; decide), fun tp htp => ?_⟩
      have f1 := same_upd (o := HO.tup [V.ty "tuple", .ty "list"]) htp
      have hs1' := sqL_same f1 hs
      have hs2' := sqL_same f1 hs2
      refine ⟨_, tp, _, _, _, true, rfl, upd_same, .cons (.ty "tuple") (.cons (.ty "list") .nil), ty_lst hs2', kit_lst K, _, rfl, iteT ?_⟩
      generalize L2.upd H tp (HO.tup [V.ty "tuple", .ty "list"]) = H1 at *
      refine ⟨_, rfl, (by show 2 ≤ sizeLine; decide), fun tq htq => ?_⟩
      have f2 := same_upd (o := HO.tup [V.ty "tuple", .ty "list"]) htq
      have hs1 := sqL_same f2 hs1'
      have hs3 := sqL_same f2 hs2'
      refine ⟨_, tq, _, _, _, true, rfl, upd_same, .cons (.ty "tuple") (.cons (.ty "list") .nil), ty_lst hs1, kit_lst K, _, rfl, iteF ?_⟩
      have e12 := f1.trans f2
      generalize L2.upd H1 tq (HO.tup [V.ty "tuple", .ty "list"]) = H2 at *
      have t1 := ty_lst hs1
      have t2 := ty_lst hs3
      refine ⟨_, rfl, _, _, _, _, true, rfl, .ty "list", t1, kit_ty (by decide +kernel), _, rfl, _, _, _, _, true, rfl, .ty "list", t2, kit_ty (by decide +kernel), rfl, _, rfl, iteF ?_⟩
      refine ⟨_, rfl, a, xs, rfl, .inl hs1, _, rfl, b, ys, rfl, .inl hs3, rfl, _, rfl, iteFe (by rw [decI, l1, l2, decide_eq_true rfl]; rfl) ?_⟩
      refine ⟨_, rfl, b, ys, rfl, .inl hs3, _, rfl, by omega, by omega, fun D hD => ?_⟩
      rw [show ((ys.length : Nat) : Int).toNat = ys.length by omega]
      have up : ∀ (H' : Hp) (o : HO), Same H2 H' → Same H2 (L2.upd H' D o) := fun H' o e c u hc => by rw [upd_ne (ne_of_none hc hD)]; exact e _ _ hc
      refine lc_range (lo := 0) (n := ys.length) (fun i H' => Same H2 H' ∧ H' D = some (.lst [])) ⟨up _ _ (Same.refl _), upd_same⟩ (fun i H' hi ⟨e', hz⟩ => ?_) (fun H' ⟨e', hz⟩ => ?_)
      · obtain ⟨d', hd'⟩ : ∃ d', ds[i]? = some d' := ⟨ds[i]'(by omega), List.getElem?_eq_getElem (by omega)⟩
        obtain ⟨xv, hxv, dxv⟩ := DpAll.at2 ha hd'
        obtain ⟨yv, hyv, dyv⟩ := DpAll.at2 ha2 hd'
        have ax : atI xs (0 + (i : Int)) = some xv := by rw [Int.zero_add]; exact atI_nat hxv
        have ay : atI ys (0 + (i : Int)) = some yv := by rw [Int.zero_add]; exact atI_nat hyv
        have e2' := e12.trans e'
        refine ⟨rfl, _, rfl, _, rfl, .inl ⟨a, xs, _, xv, rfl, rfl, sqL_same e' hs1, ax, _, rfl, _, rfl, .inl ⟨b, ys, _, yv, rfl, rfl, sqL_same e' hs3, ay, xv, yv, d', rfl, Dp.same e2' _ _ dxv, Dp.same e2' _ _ dyv, ok'.2 _ (List.mem_of_getElem? hd'), fun H3 e3 => ⟨true, rfl, iteF ⟨e'.trans e3, e3 _ _ hz⟩⟩⟩⟩⟩
      · refine ⟨(by show 0 ≤ sizeLine; decide), fun pn hpn => ?_⟩
        have f3 := same_upd (o := HO.lst []) hpn
        refine ⟨.list [], .list [], .lst (SqL.of (f3 _ _ hz)) .nil, .lst (SqL.of upd_same) .nil, by decide, by decide, ?_⟩
        exact k _ ((e12.trans e').trans f3)
    | @tup a xs ds hs ha =>
      cases hy with
      | @tup b ys _ hs2 ha2 =>
      have ok' : ds.length ≤ 100000 ∧ ∀ e ∈ ds, Alk n e := ok
      have l1 := DpAll.len ha
      have l2 := DpAll.len ha2
      refine ⟨_, rfl, _, _, _, _, false, rfl, .ty "dict", ty_tup hs2, kit_ty (by decide +kernel), _, rfl, iteF ?_⟩
      refine ⟨_, rfl, (by show 2 ≤ sizeLine; decide), fun tp htp => ?_⟩
      have f1 := same_upd (o := HO.tup [V.ty "tuple", .ty "list"]) htp
      have hs1' := SqT.same f1 hs
      have hs2' := SqT.same f1 hs2
      refine ⟨_, tp, _, _, _, true, rfl, upd_same, .cons (.ty "tuple") (.cons (.ty "list") .nil), ty_tup hs2', kit_tup K, _, rfl, iteT ?_⟩
      generalize L2.upd H tp (HO.tup [V.ty "tuple", .ty "list"]) = H1 at *
      refine ⟨_, rfl, (by show 2 ≤ sizeLine; decide), fun tq htq => ?_⟩
      have f2 := same_upd (o := HO.tup [V.ty "tuple", .ty "list"]) htq
      have hs1 := SqT.same f2 hs1'
      have hs3 := SqT.same f2 hs2'
      refine ⟨_, tq, _, _, _, true, rfl, upd_same, .cons (.ty "tuple") (.cons (.ty "list") .nil), ty_tup hs1, kit_tup K, _, rfl, iteF ?_⟩
      have e12 := f1.trans f2
      generalize L2.upd H1 tq (HO.tup [V.ty "tuple", .ty "list"]) = H2 at *
      have t1 := ty_tup hs1
      have t2 := ty_tup hs3
      refine ⟨_, rfl, _, _, _, _, false, rfl, .ty "list", t1, kit_ty (by decide +kernel), _, rfl, _, _, _, _, false, rfl, .ty "list", t2, kit_ty (by decide +kernel), rfl, _, rfl, iteF ?_⟩
      refine ⟨_, rfl, a, xs, rfl, .inr hs1, _, rfl, b, ys, rfl, .inr hs3, rfl, _, rfl, iteFe (by rw [decI, l1, l2, decide_eq_true rfl]; rfl) ?_⟩
      refine ⟨_, rfl, b, ys, rfl, .inr hs3, _, rfl, by omega, by omega, fun D hD => ?_⟩
      rw [show ((ys.length : Nat) : Int).toNat = ys.length by omega]
      have up : ∀ (H' : Hp) (o : HO), Same H2 H' → Same H2 (L2.upd H' D o) := fun H' o e c u hc => by rw [upd_ne (ne_of_none hc hD)]; exact e _ _ hc
      refine lc_range (lo := 0) (n := ys.length) (fun i H' => Same H2 H' ∧ H' D = some (.lst [])) ⟨up _ _ (Same.refl _), upd_same⟩ (fun i H' hi ⟨e', hz⟩ => ?_) (fun H' ⟨e', hz⟩ => ?_)
      · obtain ⟨d', hd'⟩ : ∃ d', ds[i]? = some d' := ⟨ds[i]'(by omega), List.getElem?_eq_getElem (by omega)⟩
        obtain ⟨xv, hxv, dxv⟩ := DpAll.at2 ha hd'
        obtain ⟨yv, hyv, dyv⟩ := DpAll.at2 ha2 hd'
        have ax : atI xs (0 + (i : Int)) = some xv := by rw [Int.zero_add]; exact atI_nat hxv
        have ay : atI ys (0 + (i : Int)) = some yv := by rw [Int.zero_add]; exact atI_nat hyv
        have e2' := e12.trans e'
        refine ⟨rfl, _, rfl, _, rfl, .inr (.inl ⟨a, xs, _, xv, rfl, rfl, SqT.same e' hs1, ax, _, rfl, _, rfl, .inr (.inl ⟨b, ys, _, yv, rfl, rfl, SqT.same e' hs3, ay, xv, yv, d', rfl, Dp.same e2' _ _ dxv, Dp.same e2' _ _ dyv, ok'.2 _ (List.mem_of_getElem? hd'), fun H3 e3 => ⟨true, rfl, iteF ⟨e'.trans e3, e3 _ _ hz⟩⟩⟩)⟩)⟩
      · refine ⟨(by show 0 ≤ sizeLine; decide), fun pn hpn => ?_⟩
        have f3 := same_upd (o := HO.lst []) hpn
        refine ⟨.list [], .list [], .lst (SqL.of (f3 _ _ hz)) .nil, .lst (SqL.of upd_same) .nil, by decide, by decide, ?_⟩
        exact k _ ((e12.trans e').trans f3)
    | non =>
      cases hy
      have kn : PySem.W.kitAny K (.type "NoneType") [.type "tuple", .type "list"] = some false := by
        have h1 : PySem.W.kitOne K (.type "NoneType") (.type "tuple") = some false := kit_ty (by decide +kernel)
        have h2 : PySem.W.kitOne K (.type "NoneType") (.type "list") = some false := kit_ty (by decide +kernel)
        simp [PySem.W.kitAny, h1, h2]
      refine ⟨_, rfl, _, _, _, _, false, rfl, .ty "dict", .base .non, kit_ty (by decide +kernel), _, rfl, iteF ?_⟩
      refine ⟨_, rfl, (by show 2 ≤ sizeLine; decide), fun tp htp => ?_⟩
      have f1 := same_upd (o := HO.tup [V.ty "tuple", .ty "list"]) htp
      refine ⟨_, tp, _, _, _, false, rfl, upd_same, .cons (.ty "tuple") (.cons (.ty "list") .nil), .base .non, kn, _, rfl, iteF ?_⟩
      refine ⟨_, rfl, rfl, _, rfl, iteTe (by rfl) (iteTe (by rfl) ?_)⟩
      refine ⟨_, rfl, _, rfl, rfl, _, rfl, iteTe (decide_eq_true rfl) ?_⟩
      refine ⟨_, rfl, _, _, _, _, false, rfl, .ty "str", .base .non, kit_ty (by decide +kernel), _, rfl, _, _, _, _, false, rfl, .ty "str", .base .non, kit_ty (by decide +kernel), rfl, ?_⟩
      rw [decide_eq_true rfl]
      exact k _ f1
    | bl c => exact ok.elim
end
end Kw


set_option Elab.async false
set_option linter.all false
set_option maxRecDepth 100000
set_option maxHeartbeats 4000000
namespace Kw
open PySem PySem.Spec PyProof.Rows L2
/-! ### rounds of deeds, and traces -/
/-- the state behind all deeds, or ahead of the first that cannot be done, with its place -/
def runAll : Hs → List Dd → Nat → Hs × Option Nat
  | d, [], _ => (d, none)
  | d, e :: es, i => if barOf d e = "" then runAll (nextOf d e) es (i + 1) else (d, some i)
theorem run_shp : ∀ (es : List Dd) (d : Hs) (i : Nat), Shp d (runAll d es i).1
  | [], d, _ => Shp.refl d
  | e :: es, d, i => by
    unfold runAll
    by_cases c : barOf d e = ""
    · rw [if_pos c]
      exact (Shp.next d e).trans (run_shp es _ _)
    · rw [if_neg c]
      exact Shp.refl d
/-- deeds that are known in a house -/
def KnAll (d : Hs) (es : List Dd) : Prop := ∀ e ∈ es, Kn d e ∧ Hb d e ∧ Sm e
theorem Kn.shp' {d0 d : Hs} (s : Shp d0 d) {e : Dd} (h : Kn d0 e) : Kn d e := by
  have w : ∀ p : It, (whereD d0 p).isSome = true → (whereD d p).isSome = true := fun p hp => by
    obtain ⟨q, hq⟩ := Option.isSome_iff_exists.mp hp
    have hl := (List.getElem?_eq_some_iff.mp hq).1
    unfold whereD
    rw [List.getElem?_eq_getElem (by rw [← s.r p.1]; exact hl)]
    rfl
  have b := s.r .box
  have c := s.r .sl
  simp only [rowOf] at b c
  cases e with
  | give h' p o => exact w p h
  | put h' p b' => exact ⟨w p h.1, by rw [← b]; exact h.2⟩
  | take h' p b' => exact ⟨w p h.1, by rw [← b]; exact h.2⟩
  | lock h' b' s' => exact ⟨by rw [← b]; exact h.1, by rw [← c]; exact h.2⟩
  | brk h' b' => exact (by rw [← b]; exact h : b' < d.bs.length)
theorem Hb.shp' {d0 d : Hs} (s : Shp d0 d) {e : Dd} (h : Hb d0 e) : Hb d e := by
  have b := s.h
  cases e with
  | give h' p o => exact ⟨by rw [← b]; exact h.1, by rw [← b]; exact h.2.1, h.2.2⟩
  | put h' p b' => exact ⟨by rw [← b]; exact h.1, h.2⟩
  | take h' p b' => exact ⟨by rw [← b]; exact h.1, h.2⟩
  | lock h' b' s' => exact (by rw [← b]; exact h : (h' : Int) < d.hands)
  | brk h' b' => exact (by rw [← b]; exact h : (h' : Int) < d.hands)
theorem KnAll.shp {d0 d : Hs} (s : Shp d0 d) {es : List Dd} (h : KnAll d0 es) : KnAll d es := fun e he => ⟨Kn.shp' s (h e he).1, Hb.shp' s (h e he).2.1, (h e he).2.2⟩
theorem run_wf : ∀ (es : List Dd) (d : Hs) (i : Nat), Wf d → KnAll d es → Wf (runAll d es i).1
  | [], d, _, w, _ => w
  | e :: es, d, i, w, k => by
    unfold runAll
    by_cases c : barOf d e = ""
    · rw [if_pos c]
      have ke := k e List.mem_cons_self
      exact run_wf es _ _ (w.next ke.1 ke.2.1 c) (KnAll.shp (Shp.next d e) fun x hx => k x (List.mem_cons_of_mem _ hx))
    · rw [if_neg c]
      exact w
/-! ### a state as a number -/
def plN (q : Pl) : Nat := match q.1 with
  | .hand => q.2.toNat
  | .box => 3 + q.2.toNat
  | .gone => 5
def digs : List Pl → Nat
  | [] => 0
  | q :: l => plN q + 6 * digs l
def stN (d : Hs) : Nat := digs (d.bs ++ d.ts ++ d.ss)
/-- places in a small house -/
def Plc (q : Pl) : Prop := (q.1 = .hand → 0 ≤ q.2 ∧ q.2 < 3) ∧ (q.1 = .box → 0 ≤ q.2 ∧ q.2 < 2) ∧ (q.1 = .gone → q.2 = 0)
theorem plN_lt {q : Pl} (h : Plc q) : plN q < 6 := by
  unfold plN
  obtain ⟨h1, h2, h3⟩ := h
  cases c : q.1 with
  | hand => have := h1 c; show q.2.toNat < 6; omega
  | box => have := h2 c; show 3 + q.2.toNat < 6; omega
  | gone => show 5 < 6; omega
theorem plN_inj {q r : Pl} (h : Plc q) (k : Plc r) (e : plN q = plN r) : q = r := by
  obtain ⟨u, m⟩ := q
  obtain ⟨v, n⟩ := r
  obtain ⟨h1, h2, h3⟩ := h
  obtain ⟨k1, k2, k3⟩ := k
  cases u with
  | hand =>
    have a := h1 rfl
    cases v with
    | hand => have b := k1 rfl; have e' : m.toNat = n.toNat := e; dsimp only at a b; rw [show m = n by omega]
    | box => have b := k2 rfl; have e' : m.toNat = 3 + n.toNat := e; dsimp only at a b; omega
    | gone => have e' : m.toNat = 5 := e; dsimp only at a; omega
  | box =>
    have a := h2 rfl
    cases v with
    | hand => have b := k1 rfl; have e' : 3 + m.toNat = n.toNat := e; dsimp only at a b; omega
    | box => have b := k2 rfl; have e' : 3 + m.toNat = 3 + n.toNat := e; dsimp only at a b; rw [show m = n by omega]
    | gone => have e' : 3 + m.toNat = 5 := e; dsimp only at a; omega
  | gone =>
    have a := h3 rfl
    cases v with
    | hand => have b := k1 rfl; have e' : 5 = n.toNat := e; dsimp only at a b; omega
    | box => have b := k2 rfl; have e' : 5 = 3 + n.toNat := e; dsimp only at a b; omega
    | gone => have b := k3 rfl; dsimp only at a b; rw [a, b]
theorem digs_lt : ∀ {l : List Pl}, (∀ q ∈ l, Plc q) → digs l < 6 ^ l.length
  | [], _ => by decide
  | q :: l, h => by
    have h1 := plN_lt (h q List.mem_cons_self)
    have h2 := digs_lt (l := l) fun x hx => h x (List.mem_cons_of_mem _ hx)
    unfold digs
    rw [List.length_cons, Nat.pow_succ]
    omega
theorem digs_inj : ∀ {l m : List Pl}, l.length = m.length → (∀ q ∈ l, Plc q) → (∀ q ∈ m, Plc q) → digs l = digs m → l = m
  | [], [], _, _, _, _ => rfl
  | [], _ :: _, h, _, _, _ => by cases h
  | _ :: _, [], h, _, _, _ => by cases h
  | q :: l, r :: m, hl, h, k, e => by
    have h1 := plN_lt (h q List.mem_cons_self)
    have h2 := plN_lt (k r List.mem_cons_self)
    unfold digs at e
    have e1 : plN q = plN r := by omega
    have e2 : digs l = digs m := by omega
    rw [plN_inj (h q List.mem_cons_self) (k r List.mem_cons_self) e1, digs_inj (by simpa using hl) (fun x hx => h x (List.mem_cons_of_mem _ hx)) (fun x hx => k x (List.mem_cons_of_mem _ hx)) e2]
/-- a house of at most four items, three hands, two boxes -/
structure Four (d : Hs) : Prop where
  h : d.hands ≤ 3
  b : d.bs.length ≤ 2
  n : d.bs.length + d.ts.length + d.ss.length ≤ 4
theorem plc_of {d : Hs} (w : Wf d) (f : Four d) (q : Pl) (hq : q ∈ d.bs ++ d.ts ++ d.ss) : Plc q := by
  have go : ∀ k, q ∈ rowOf d k → Plc q := fun k hk => by
    obtain ⟨i, hi⟩ := List.mem_iff_getElem?.mp hk
    have pk := w.pl k i q hi
    have := f.h
    have := f.b
    refine ⟨fun c => ?_, fun c => ?_, fun c => (pk.2.2 c).2⟩
    · have := pk.1 c; omega
    · obtain ⟨j, e1, e2⟩ := pk.2.1 c; omega
  rcases List.mem_append.mp hq with hq | hq
  · rcases List.mem_append.mp hq with hq | hq
    · exact go .box hq
    · exact go .thing hq
  · exact go .sl hq
theorem Four.shp {d0 d : Hs} (s : Shp d0 d) (f : Four d0) : Four d := by
  have b := s.r .box
  have t := s.r .thing
  have c := s.r .sl
  simp only [rowOf] at b t c
  exact ⟨by rw [← s.h]; exact f.h, by rw [← b]; exact f.b, by rw [← b, ← t, ← c]; exact f.n⟩
theorem stN_lt {d : Hs} (w : Wf d) (f : Four d) : stN d < 1296 := by
  have h := digs_lt (plc_of w f)
  have l : (d.bs ++ d.ts ++ d.ss).length ≤ 4 := by rw [List.length_append, List.length_append]; exact f.n
  have : 6 ^ (d.bs ++ d.ts ++ d.ss).length ≤ 6 ^ 4 := Nat.pow_le_pow_right (by decide) l
  have e : (6 : Nat) ^ 4 = 1296 := by decide
  unfold stN
  omega
theorem hs_ext {d e : Hs} (h1 : d.hands = e.hands) (h2 : d.bs = e.bs) (h3 : d.ts = e.ts) (h4 : d.ss = e.ss) : d = e := by
  cases d
  cases e
  simp_all
theorem stN_inj {d0 d e : Hs} (s : Shp d0 d) (t : Shp d0 e) (w : Wf d) (v : Wf e) (f : Four d0) (h : stN d = stN e) : d = e := by
  have b1 := s.r .box
  have t1 := s.r .thing
  have c1 := s.r .sl
  have b2 := t.r .box
  have t2 := t.r .thing
  have c2 := t.r .sl
  simp only [rowOf] at b1 t1 c1 b2 t2 c2
  have q := digs_inj (by simp only [List.length_append]; omega) (plc_of w (f.shp s)) (plc_of v (f.shp t)) h
  have q1 := List.append_inj q (by simp only [List.length_append]; omega)
  have q2 := List.append_inj q1.1 (by omega)
  exact hs_ext (by rw [← s.h, t.h]) q2.1 q2.2 q1.2
/-- numbers below n, all different, are at most n -/
theorem pigeon : ∀ (n : Nat) (l : List Nat), l.Nodup → (∀ x ∈ l, x < n) → l.length ≤ n
  | 0, l, _, h => by
    cases l with
    | nil => exact Nat.le_refl _
    | cons x l => exact absurd (h x List.mem_cons_self) (Nat.not_lt_zero _)
  | n + 1, l, hn, h => by
    by_cases c : n ∈ l
    · have h1 := pigeon n (l.erase n) (hn.erase n) fun x hx => by
        have h2 := (List.Nodup.mem_erase_iff hn).mp hx
        have h3 := h x h2.2
        have : x ≠ n := h2.1
        omega
      rw [List.length_erase_of_mem c] at h1
      omega
    · have h1 := pigeon n l hn fun x hx => by
        have h3 := h x hx
        have : x ≠ n := fun z => c (z ▸ hx)
        omega
      omega
/-! ### the key of a state -/
def stK (d : Hs) : NestedKey := keyOf (stD d)
theorem keyable_pls : ∀ l : List Pl, keyables (l.map plD) = true
  | [] => rfl
  | q :: l => by
    show (keyable (plD q) && keyables (l.map plD)) = true
    rw [keyable_pls l]
    rfl
theorem keyable_st (d : Hs) : keyable (stD d) = true := by
  simp [stD, plsD, keyable, keyables, keyable_pls]
theorem depth_pls' : ∀ l : List Pl, NestedKey.depthAll (keysOf (l.map plD)) ≤ 1
  | [] => Nat.zero_le _
  | q :: l => by
    have := depth_pls' l
    show max (NestedKey.depth (keyOf (plD q))) (NestedKey.depthAll (keysOf (l.map plD))) ≤ 1
    have h : NestedKey.depth (keyOf (plD q)) = 1 := by simp [plD, keyOf, keysOf, NestedKey.depth, NestedKey.depthAll]
    omega
theorem depth_st' (d : Hs) : (keyOf (stD d)).depth ≤ 8 := by
  have h1 := depth_pls' d.bs
  have h2 := depth_pls' d.ts
  have h3 := depth_pls' d.ss
  simp only [stD, plsD, keyOf, keysOf, NestedKey.depth, NestedKey.depthAll]
  omega
theorem pls_inj : ∀ {l m : List Pl}, l.map plD = m.map plD → l = m
  | [], [], _ => rfl
  | [], _ :: _, h => by cases h
  | _ :: _, [], h => by cases h
  | q :: l, r :: m, h => by
    rw [List.map_cons, List.map_cons] at h
    injection h with h1 h2
    rw [pls_inj h2]
    unfold plD at h1
    injection h1 with h1
    injection h1 with h3 h4
    injection h4 with h4 _
    injection h3 with h3
    injection h4 with h4
    obtain ⟨u, m'⟩ := q
    obtain ⟨v, n'⟩ := r
    rw [show u = v from wd_inj h3, show m' = n' from h4]
theorem stK_inj {d e : Hs} (hh : d.hands = e.hands) (h : stK d = stK e) : d = e := by
  have h1 := keyOf_inj _ _ (keyable_st d) (keyable_st e) h
  unfold stD at h1
  injection h1 with h1
  injection h1 with h2 h3
  injection h3 with h3 h4
  injection h4 with h4 _
  unfold plsD at h2 h3 h4
  injection h2 with h2
  injection h3 with h3
  injection h4 with h4
  exact hs_ext hh (pls_inj h2) (pls_inj h3) (pls_inj h4)
end Kw


set_option Elab.async false
set_option linter.all false
set_option maxRecDepth 100000
set_option maxHeartbeats 4000000
namespace Kw
open PySem PySem.Spec PyProof.Rows L2
abbrev sAll : Stmt := top 51
theorem bar_names {d : Hs} {e : Dd} {z : Str} (h : barOf d e = z) (n : z ≠ "") : z = "NotHeld" ∨ z = "IsSealed" ∨ z = "NotSealed" ∨ z = "NotInside" := by
  subst h
  revert n
  unfold barOf
  cases e <;> dsimp only <;> (repeat' split) <;> intro n <;> first | exact absurd rfl n | exact .inl rfl | exact .inr (.inl rfl) | exact .inr (.inr (.inl rfl)) | exact .inr (.inr (.inr rfl))
structure CaughtB (K : PySem.W.Frag) (ce : Str → Addr) (CW : Addr) : Prop where
  z : ∀ z : Str, (z = "NotHeld" ∨ z = "IsSealed" ∨ z = "NotSealed" ∨ z = "NotInside") → PySem.W.exmOne K (.ref (ce z)) (.ref CW) = some true
section
variable {P : Program} {w : World} {K : PySem.W.Frag} {mg : Str → Option Value} {base : Heap}
def ixV : Option Nat → V
  | none => .non
  | some j => .int (j : Nat)
def spAll (K : PySem.W.Frag) : Sp := fun vs H Q _ => ∃ (v : V) (t : Addr) (xs : List V) (d : Hs) (es : List Dd), vs = [v, .ref t] ∧ Dp K H v (stD d) ∧ SqL K H t xs ∧ DpAll K H xs (es.map ddD) ∧ KnAll d es ∧ Ls d ∧
  ∀ p v' H', Same H H' → H' p = some (.tup [v', ixV (runAll d es 0).2]) → Dp K H' v' (stD (runAll d es 0).1) → Q (.ref p) H'
theorem scAll : FnScope ["state", "deeds", "index", "deed"] ["state", "deeds"] (defScope sAll) := ⟨rfl, rfl, rfl, by decide +kernel, rfl, by decide +kernel, by decide +kernel⟩
theorem ok_all {f gB CW : Addr} {fd fdB : FuncData} {ce : Str → Addr} (F : Fun K "state_behind_all" "state_behind_all" sAll f fd) (B : Bt mg) (mW : mg "WatchError" = some (.ref CW)) (Ct : CaughtB K ce CW) (SB : OnceY P w K mg base "state_behind" 4 ["state", "deed"] (spBehind K ce) gB fdB) :
    FnOk P w K mg base CX0 5 f fd ["state", "deeds"] (spAll K) := by
  refine F.ok scAll (fun vs H Q E h => ?_) (fun cdv A outer s H vs Q E hr h => ?_)
  · obtain ⟨v, t, xs, d, es, rfl, _⟩ := h
    rfl
  · obtain ⟨v, t, xs, d, es, rfl, hv, hs, hd, kn, ls, k⟩ := h
    refine ⟨_, (pss_cons (ps_for PassesOwn.never rfl (pi_enumE (by rfl) B.enu (pa_cons (pv 1) pa_nil)) (pg_tup (by rfl) (pgs_cons (pg_name (i := 2) scAll.nd rfl (.inl rfl)) (pgs_cons (pg_name (i := 3) scAll.nd rfl (.inl rfl)) pgs_nil))) (pss_one (ps_try_only rfl rfl ⟨rfl, by decide, .inl mW⟩ takes0 (fun W pn xe tk _ => pss_one (ps_set (i := 0) scAll.nd rfl (.inl rfl) (pe_callS SB.G hr rfl SB.m SB.k SB.b (fun σ => passAt tk σ) (pa_cons (pv 0) (pa_cons (pv 3) pa_nil))))) (fun a oe cls d pn _ _ => pss_one (ps_ret (pe_tup (pa_cons (pv 0) (pa_cons (pv 2) pa_nil)))))))) (pss_one (ps_ret (pe_tup (pa_cons (pv 0) (pa_cons pe_non pa_nil)))))), ?_⟩
    have lx : xs.length = es.length := by rw [DpAll.len hd, List.length_map]
    refine ⟨_, rfl, t, xs, rfl, .inr ⟨hs, for_enumL (K := K) (a := t) (xs := xs) (tb := fun D => tAsg (tCallS (spBehind K ce) (WE (wOnly K (.ref CW) (fun _ _ _ => tRet (tTup (tCons (tVar 0) (tCons (tVar 2) tNil)))) (fun _ _ _ _ => False) D)) (tCons (tVar 0) (tCons (tVar 3) tNil))) (gName 0) D) (D := { nx := tRet (tTup (tCons (tVar 0) (tCons (tC V.non) tNil))) { nx := fun _ H' => Q V.non H', rt := Q }, rt := Q }) (fun i σ H2 => ∃ (v0 : V) (v2 v3 : Option V) (dc : Hs), σ = [some v0, some (.ref t), v2, v3] ∧ Same H H2 ∧ Dp K H2 v0 (stD dc) ∧ Shp d dc ∧ runAll d es 0 = runAll dc (es.drop i) i) ⟨v, none, none, d, rfl, Same.refl H, hv, Shp.refl d, rfl⟩ (fun i σ H2 _ ⟨_, _, _, _, _, e, _⟩ => sqL_same e hs) ?_ ?_⟩⟩
    · rintro i y σ H2 T hi ⟨v0, v2, v3, dc, rfl, e2, hv0, shp, er⟩ hT
      have f1 := same_upd (o := HO.tup [.int (i : Nat), y]) hT
      have e1 := e2.trans f1
      refine ⟨T, _, rfl, SqT.of upd_same, rfl, _, _, rfl, _, _, rfl, rfl, ?_⟩
      have hv1 := Dp.same f1 _ _ hv0
      generalize L2.upd H2 T (.tup [.int (i : Nat), y]) = H3 at *
      obtain ⟨dd, hd1, hd2⟩ := DpAll.get hd hi
      rw [List.getElem?_map] at hd1
      cases hz : es[i]? with
      | none => rw [hz] at hd1; cases hd1
      | some e =>
        rw [hz] at hd1
        obtain rfl : ddD e = dd := Option.some.inj hd1
        obtain ⟨k1, k2, k3⟩ := kn e (List.mem_of_getElem? hz)
        have hl := (List.getElem?_eq_some_iff.mp hz)
        obtain ⟨hl, he⟩ := hl
        have edrop : es.drop i = e :: es.drop (i + 1) := by rw [List.drop_eq_getElem_cons hl, he]
        rw [edrop] at er
        refine ⟨_, rfl, _, rfl, v0, y, dc, e, rfl, hv1, Dp.same e1 _ _ hd2, Kn.shp' shp k1, k3, Shp.ls shp ls, fun z hz1 hz2 H4 e4 => ?_, fun hb v' H4 e4 hv' => ?_⟩
        · have hne : barOf dc e ≠ "" := by rw [hz1]; exact hz2
          rw [show runAll dc (e :: es.drop (i + 1)) i = (dc, some i) by unfold runAll; exact if_neg hne] at er
          refine ⟨true, Ct.z z (bar_names hz1 hz2), fun _ a ha => ?_, fun q => nomatch q⟩
          refine ⟨_, rfl, _, rfl, (by show 2 ≤ sizeLine; decide), fun p hp => ?_⟩
          have f5 := same_upd (o := HO.tup [v0, V.int (i : Nat)]) hp
          refine k p v0 _ ((e1.trans e4).trans f5) ?_ ?_
          · rw [er]
            exact upd_same
          · rw [er]
            exact Dp.same f5 _ _ (Dp.same e4 _ _ hv1)
        · rw [show runAll dc (e :: es.drop (i + 1)) i = runAll (nextOf dc e) (es.drop (i + 1)) (i + 1) by conv => { lhs; unfold runAll }; exact if_pos hb] at er
          exact ⟨v', _, _, nextOf dc e, rfl, e1.trans e4, hv', shp.trans (Shp.next dc e), er⟩
    · rintro σ H2 ⟨v0, v2, v3, dc, rfl, e2, hv0, shp, er⟩
      rw [lx, List.drop_length] at er
      refine ⟨_, rfl, (by show 2 ≤ sizeLine; decide), fun p hp => ?_⟩
      have f5 := same_upd (o := HO.tup [v0, V.non]) hp
      have er' : runAll d es 0 = (dc, none) := er
      refine k p v0 _ (e2.trans f5) ?_ ?_
      · rw [er']
        exact upd_same
      · rw [er']
        exact Dp.same f5 _ _ hv0
end
end Kw


set_option Elab.async false
set_option linter.all false
set_option maxRecDepth 100000
set_option maxHeartbeats 4000000
namespace Kw
open PySem PySem.Spec PyProof.Rows L2
abbrev sTInit : Stmt := inClass (top 50) 0
abbrev sTEnd : Stmt := inClass (top 50) 1
abbrev sTHow : Stmt := inClass (top 50) 2
/-! ### a trace -/
structure Chain (d0 : Hs) (es : List Dd) (sts : List Hs) : Prop where
  hd : sts[0]? = some d0
  st : ∀ i a b, sts[i]? = some a → sts[i + 1]? = some b → runAll a es 0 = (b, none)
  nd : sts.Nodup
theorem Chain.pos {d0 : Hs} {es : List Dd} {sts : List Hs} (c : Chain d0 es sts) : 0 < sts.length := (List.getElem?_eq_some_iff.mp c.hd).1
theorem Chain.all {d0 : Hs} {es : List Dd} {sts : List Hs} (c : Chain d0 es sts) (w : Wf d0) (k : KnAll d0 es) : ∀ (i : Nat) s, sts[i]? = some s → Shp d0 s ∧ Wf s
  | 0, s, h => by
    rw [c.hd] at h
    cases h
    exact ⟨Shp.refl _, w⟩
  | i + 1, s, h => by
    have hl := (List.getElem?_eq_some_iff.mp h).1
    obtain ⟨a, ha⟩ : ∃ a, sts[i]? = some a := ⟨_, List.getElem?_eq_getElem (by omega)⟩
    obtain ⟨s1, w1⟩ := c.all w k i a ha
    have e := c.st i a s ha h
    have h1 := run_shp es a 0
    have h2 := run_wf es a 0 w1 (KnAll.shp s1 k)
    rw [e] at h1 h2
    exact ⟨s1.trans h1, h2⟩
theorem nodup_map {α β : Type} {f : α → β} : ∀ {l : List α}, l.Nodup → (∀ a ∈ l, ∀ b ∈ l, f a = f b → a = b) → (l.map f).Nodup
  | [], _, _ => List.nodup_nil
  | a :: l, h, i => by
    rw [List.map_cons, List.nodup_cons]
    rw [List.nodup_cons] at h
    refine ⟨fun z => ?_, nodup_map h.2 fun x hx y hy => i x (List.mem_cons_of_mem _ hx) y (List.mem_cons_of_mem _ hy)⟩
    obtain ⟨b, hb, e⟩ := List.mem_map.mp z
    have := i b (List.mem_cons_of_mem _ hb) a List.mem_cons_self e
    exact h.1 (this ▸ hb)
theorem Chain.len {d0 : Hs} {es : List Dd} {sts : List Hs} (c : Chain d0 es sts) (w : Wf d0) (k : KnAll d0 es) (f : Four d0) : sts.length ≤ 1296 := by
  have go : ∀ s ∈ sts, Shp d0 s ∧ Wf s := fun s hs => by
    obtain ⟨i, hi⟩ := List.mem_iff_getElem?.mp hs
    exact c.all w k i s hi
  have h := pigeon 1296 (sts.map stN) (nodup_map c.nd fun a ha b hb e => stN_inj (go a ha).1 (go b hb).1 (go a ha).2 (go b hb).2 f e) fun x hx => by
    obtain ⟨s, hs, rfl⟩ := List.mem_map.mp hx
    exact stN_lt (go s hs).2 (f.shp (go s hs).1)
  rwa [List.length_map] at h
theorem Chain.snoc {d0 : Hs} {es : List Dd} {sts : List Hs} {la s : Hs} (c : Chain d0 es sts) (hl : sts[sts.length - 1]? = some la) (e : runAll la es 0 = (s, none)) (n : s ∉ sts) : Chain d0 es (sts ++ [s]) := by
  have hp := c.pos
  refine ⟨by rw [List.getElem?_append_left hp]; exact c.hd, fun i a b ha hb => ?_, ?_⟩
  · have hb1 := (List.getElem?_eq_some_iff.mp hb).1
    rw [List.length_append, List.length_singleton] at hb1
    by_cases hi : i + 1 < sts.length
    · rw [List.getElem?_append_left (by omega)] at ha
      rw [List.getElem?_append_left hi] at hb
      exact c.st i a b ha hb
    · have ei : i = sts.length - 1 := by omega
      subst ei
      rw [List.getElem?_append_left (by omega), hl] at ha
      rw [show sts.length - 1 + 1 = sts.length by omega, List.getElem?_append_right (Nat.le_refl _), Nat.sub_self] at hb
      cases ha
      cases hb
      exact e
  · rw [List.nodup_append]
    exact ⟨c.nd, by simp, fun a ha b hb => by rw [List.mem_singleton.mp hb]; exact fun z => n (z ▸ ha)⟩
structure Ended (d0 : Hs) (es : List Dd) (count : Int) (sts : List Hs) (stop : Option (Hs × Nat × Nat)) (again : Option Nat) : Prop where
  ch : Chain d0 es sts
  le : (sts.length : Int) ≤ count + 1
  last : ∃ la, sts[sts.length - 1]? = some la ∧
    ((∃ s j, stop = some (s, sts.length - 1, j) ∧ again = none ∧ runAll la es 0 = (s, some j) ∧ (sts.length : Int) ≤ count) ∨
     (∃ k s, stop = none ∧ again = some k ∧ sts[k]? = some s ∧ runAll la es 0 = (s, none) ∧ (sts.length : Int) ≤ count) ∨
     (stop = none ∧ again = none ∧ count < sts.length))
/-! ### the numbers of the states -/
def KvR (sts : List Hs) (kvs : KVs) : Prop := kvs.length = sts.length ∧ ∀ (i : Nat) s, sts[i]? = some s → ∃ b, kvs[i]? = some (stK s, b, V.int (i : Nat))
theorem kv_none : ∀ {kvs : KVs} {k : NestedKey}, (∀ x ∈ kvs, x.1 ≠ k) → kvAt kvs k = none
  | [], _, _ => rfl
  | x :: kvs, k, h => by
    have h1 := h x List.mem_cons_self
    have h2 := kv_none (kvs := kvs) fun y hy => h y (List.mem_cons_of_mem _ hy)
    unfold kvAt at *
    rw [List.find?_cons, decide_eq_false h1]
    exact h2
theorem kv_some : ∀ {kvs : KVs} {i : Nat} {x : NestedKey × Addr × V}, kvs[i]? = some x → (∀ (j : Nat) y, j < i → kvs[j]? = some y → y.1 ≠ x.1) → kvAt kvs x.1 = some x.2.2
  | [], i, x, h, _ => by simp at h
  | y :: kvs, 0, x, h, _ => by
    cases h
    unfold kvAt
    rw [List.find?_cons, decide_eq_true rfl]
    rfl
  | y :: kvs, i + 1, x, h, n => by
    have h1 := n 0 y (Nat.succ_pos _) rfl
    have h2 := kv_some (kvs := kvs) (i := i) (x := x) (by simpa using h) fun j z hj hz => n (j + 1) z (by omega) (by simpa using hz)
    unfold kvAt at *
    rw [List.find?_cons, decide_eq_false h1]
    exact h2
theorem KvR.no {sts : List Hs} {kvs : KVs} (r : KvR sts kvs) {s : Hs} (hh : ∀ t ∈ sts, t.hands = s.hands) (n : s ∉ sts) : kvAt kvs (stK s) = none := by
  refine kv_none fun x hx z => ?_
  obtain ⟨i, hi⟩ := List.mem_iff_getElem?.mp hx
  have hl := (List.getElem?_eq_some_iff.mp hi).1
  rw [r.1] at hl
  obtain ⟨t, ht⟩ : ∃ t, sts[i]? = some t := ⟨_, List.getElem?_eq_getElem hl⟩
  obtain ⟨b, hb⟩ := r.2 i t ht
  rw [hb] at hi
  cases hi
  have hm := List.mem_of_getElem? ht
  exact n (stK_inj (hh t hm) z ▸ hm)
theorem KvR.at_ {sts : List Hs} {kvs : KVs} (r : KvR sts kvs) {s : Hs} {i : Nat} (hh : ∀ t ∈ sts, t.hands = s.hands) (nd : sts.Nodup) (h : sts[i]? = some s) : kvAt kvs (stK s) = some (V.int (i : Nat)) := by
  obtain ⟨b, hb⟩ := r.2 i s h
  refine kv_some hb fun j y hj hy z => ?_
  have hl := (List.getElem?_eq_some_iff.mp h).1
  obtain ⟨t, ht⟩ : ∃ t, sts[j]? = some t := ⟨_, List.getElem?_eq_getElem (by omega)⟩
  obtain ⟨b2, hb2⟩ := r.2 j t ht
  rw [hb2] at hy
  cases hy
  have e : t = s := stK_inj (hh t (List.mem_of_getElem? ht)) z
  subst e
  obtain ⟨l1, e1⟩ := List.getElem?_eq_some_iff.mp ht
  obtain ⟨l2, e2⟩ := List.getElem?_eq_some_iff.mp h
  exact List.pairwise_iff_getElem.mp nd j i l1 l2 hj (by rw [e1, e2])
theorem KvR.snoc {sts : List Hs} {kvs : KVs} (r : KvR sts kvs) (s : Hs) (b : Addr) : KvR (sts ++ [s]) (kvs ++ [(stK s, b, V.int (sts.length : Nat))]) := by
  refine ⟨by simp [r.1], fun i t ht => ?_⟩
  have hl := (List.getElem?_eq_some_iff.mp ht).1
  rw [List.length_append, List.length_singleton] at hl
  by_cases hi : i < sts.length
  · rw [List.getElem?_append_left hi] at ht
    obtain ⟨b', hb'⟩ := r.2 i t ht
    exact ⟨b', by rw [List.getElem?_append_left (by rw [r.1]; exact hi)]; exact hb'⟩
  · have ei : i = sts.length := by omega
    subst ei
    rw [List.getElem?_append_right (Nat.le_refl _), Nat.sub_self] at ht
    cases ht
    exact ⟨b, by rw [← r.1, List.getElem?_append_right (Nat.le_refl _), Nat.sub_self]; rfl⟩
theorem KeysAt.nl {K : PySem.W.Frag} {H H' : Hp} {kvs : KVs} (k : Nl H H') (h : KeysAt K H kvs) (hn : ∀ x ∈ kvs, ∃ s, x.1 = stK s) : KeysAt K H' kvs := fun x hx => by
  obtain ⟨d, h1, h2, h3, h4⟩ := h x hx
  obtain ⟨s, hs⟩ := hn x hx
  have e : d = stD s := keyOf_inj _ _ h1 (keyable_st s) (by rw [h3, hs]; rfl)
  subst e
  exact ⟨stD s, h1, h2, h3, Dp.nl k _ _ (noL_st s) h4⟩
theorem KvR.keys {sts : List Hs} {kvs : KVs} (r : KvR sts kvs) : ∀ x ∈ kvs, ∃ s, x.1 = stK s := fun x hx => by
  obtain ⟨i, hi⟩ := List.mem_iff_getElem?.mp hx
  have hl := (List.getElem?_eq_some_iff.mp hi).1
  rw [r.1] at hl
  obtain ⟨t, ht⟩ : ∃ t, sts[i]? = Option.some t := ⟨_, List.getElem?_eq_getElem hl⟩
  obtain ⟨b, hb⟩ := r.2 i t ht
  rw [hb] at hi
  cases hi
  exact ⟨t, rfl⟩
/-! ### class Trace -/
structure TrC (K : PySem.W.Frag) (CT : Addr) : Prop where
  cl : Cls K CT
  nS : NoAttr K CT "states"
  nP : NoAttr K CT "stop"
  nA : NoAttr K CT "again"
def trFs (ls : Addr) (vs va : V) : List (Str × V) := [("states", .ref ls), ("stop", vs), ("again", va)]
def stopD : Hs × Nat × Nat → PyData := fun x => .tuple [stD x.1, .tuple [.int (x.2.1 : Nat), .int (x.2.2 : Nat)]]
def StopV (K : PySem.W.Frag) (H : Hp) (v : V) : Option (Hs × Nat × Nat) → Prop
  | none => v = .non
  | some x => (∃ p, v = .ref p) ∧ Dp K H v (stopD x)
theorem noL_stop (x : Hs × Nat × Nat) : noL (stopD x) = true := by simp [stopD, noL, noLs, noL_st]
theorem StopV.nl {K : PySem.W.Frag} {H H' : Hp} (k : Nl H H') {v : V} : ∀ {o : Option (Hs × Nat × Nat)}, StopV K H v o → StopV K H' v o
  | none, h => h
  | some x, ⟨h1, h2⟩ => ⟨h1, Dp.nl k _ _ (noL_stop x) h2⟩
structure TrAt (K : PySem.W.Frag) (CT : Addr) (H : Hp) (a : Addr) (sts : List Hs) (stop : Option (Hs × Nat × Nat)) (again : Option Nat) : Prop where
  ex : ∃ dx ls xs vs, H a = some (.ins CT dx (trFs ls vs (ixV again))) ∧ H ls = some (.lst xs) ∧ DpAll K H xs (sts.map stD) ∧ StopV K H vs stop
theorem noLs_sts (sts : List Hs) : noLs (sts.map stD) = true := noLs_map stD noL_st sts
theorem TrAt.same {K : PySem.W.Frag} {CT : Addr} {H H' : Hp} {a : Addr} {sts : List Hs} {stop : Option (Hs × Nat × Nat)} {again : Option Nat} (x : TrAt K CT H a sts stop again) (e : Same H H') : TrAt K CT H' a sts stop again := by
  obtain ⟨dx, ls, xs, vs, h1, h2, h3, h4⟩ := x.ex
  exact ⟨dx, ls, xs, vs, e _ _ h1, e _ _ h2, Dp.sames e _ _ h3, h4.nl (nl_same e)⟩
section
variable {P : Program} {w : World} {K : PySem.W.Frag} {mg : Str → Option Value} {base : Heap}
def spTInit (K : PySem.W.Frag) (CT : Addr) : Sp := fun vs H Q _ => ∃ (a dx : Addr) (v : V) (t : Addr) (xs : List V) (d : Hs) (es : List Dd) (count : Int), vs = [.ref a, v, .ref t, .int count] ∧ H a = some (.ins CT dx []) ∧ (∃ b, v = .ref b) ∧ Dp K H v (stD d) ∧ H t = some (.lst xs) ∧ DpAll K H xs (es.map ddD) ∧ KnAll d es ∧ Wf d ∧ Four d ∧ Ls d ∧ 0 ≤ count ∧
  ∀ H' sts stop again, But a H H' → TrAt K CT H' a sts stop again → Ended d es count sts stop again → Q .non H'
/-- the loop's invariant -/
structure TI (P : Program) (w : World) (K : PySem.W.Frag) (CT a dx ls dn : Addr) (H0 : Hp) (d : Hs) (es : List Dd) (vs va : V) (sts : List Hs) (kvs : KVs) (H : Hp) : Prop where
  bt : But a H0 H
  ha : H a = some (.ins CT dx (trFs ls vs va))
  l0 : H0 ls = .none
  n0 : H0 dn = .none
  hl : ∃ xs, H ls = some (.lst xs) ∧ DpAll K H xs (sts.map stD)
  hn : H dn = some (DX P w dn kvs)
  kr : KvR sts kvs
  ka : KeysAt K H kvs
  ch : Chain d es sts
theorem tp_upd {H : Hp} {x : Addr} {o o' : HO} (h : H x = some o) (n1 : ∀ xs, o ≠ .tup xs) (n2 : ∀ ob xs, o ≠ .frz ob (.tup xs)) : Tp H (L2.upd H x o') := fun b xs r => by
  rcases r with r | ⟨ob, r⟩
  · exact .inl (by rw [upd_ne (ne_of r h fun z => n1 xs z.symm)]; exact r)
  · exact .inr ⟨ob, by rw [upd_ne (ne_of r h fun z => n2 ob xs z.symm)]; exact r⟩
theorem tp_same {H H' : Hp} (e : Same H H') : Tp H H' := fun b xs r => by
  rcases r with r | ⟨ob, r⟩
  · exact .inl (e _ _ r)
  · exact .inr ⟨ob, e _ _ r⟩
theorem KeysAt.tp {K : PySem.W.Frag} {H H' : Hp} {kvs : KVs} (k : Tp H H') (h : KeysAt K H kvs) (hn : ∀ x ∈ kvs, ∃ s, x.1 = stK s) : KeysAt K H' kvs := fun x hx => by
  obtain ⟨d, h1, h2, h3, h4⟩ := h x hx
  obtain ⟨s, hs⟩ := hn x hx
  have e : d = stD s := keyOf_inj _ _ h1 (keyable_st s) (by rw [h3, hs]; rfl)
  subst e
  exact ⟨stD s, h1, h2, h3, Dp.tp k _ _ (noL_st s) h4⟩
theorem KeysAt.snoc {K : PySem.W.Frag} {H : Hp} {kvs : KVs} (h : KeysAt K H kvs) {s : Hs} {b : Addr} {v : V} (hb : Dp K H (.ref b) (stD s)) : KeysAt K H (kvs ++ [(stK s, b, v)]) := fun x hx => by
  rcases List.mem_append.mp hx with hx | hx
  · exact h x hx
  · rw [List.mem_singleton.mp hx]
    exact ⟨stD s, keyable_st s, depth_st' s, rfl, hb⟩
theorem scTInit : FnScope ["self", "state", "deeds", "count", "numbers", "index"] ["self", "state", "deeds", "count"] (defScope sTInit) := ⟨rfl, rfl, rfl, by decide +kernel, rfl, by decide +kernel, by decide +kernel⟩
theorem ok_tinit {f gA CT : Addr} {fd fdA : FuncData} (F : Fun K "__init__" "Trace.__init__" sTInit f fd) (B : Bt mg) (TC : TrC K CT) (SA : OnceF P w K mg base "state_behind_all" 5 ["state", "deeds"] (spAll K) gA fdA) :
    FnOk P w K mg base CX0 6 f fd ["self", "state", "deeds", "count"] (spTInit K CT) := by
  refine F.ok scTInit (fun vs H Q E h => ?_) (fun cdv A outer s H vs Q E hr h => ?_)
  · obtain ⟨a, dx, v, t, xs, d, es, count, rfl, _⟩ := h
    rfl
  · obtain ⟨a, dx, v, t, xs, d, es, count, rfl, ha, ⟨b0, rfl⟩, hv, ht, hd, kn, wf, fr, lsd, c0, k⟩ := h
    have hu : (cxOf CX0 P w K mg base ["self", "state", "deeds", "count", "numbers", "index"] "Trace.__init__" (defScope sTInit) f cdv A outer s H E).nox.A.units + 9 < cLine := by have := hr.un; show (A.deeper _).units + 9 < cLine; omega
    have hu8 : (cxOf CX0 P w K mg base ["self", "state", "deeds", "count", "numbers", "index"] "Trace.__init__" (defScope sTInit) f cdv A outer s H E).nox.A.units + 8 < cLine := by omega
    refine ⟨_, (pss_cons (ps_fld (pv 0) (pe_lst (pa_cons (pv 1) pa_nil)) rfl) (pss_cons (ps_fld (pv 0) pe_non rfl) (pss_cons (ps_fld (pv 0) pe_non rfl) (pss_cons (ps_set (i := 4) scTInit.nd rfl (.inl rfl) (pe_dispX hu8 (pv 1) pe_int)) (pss_one (ps_while PassesOwn.never (PW.pt (pw_and (pt_cmpR op_isN (pe_fld (pv 0) rfl) pe_non (nomark _)) (pw_and (pt_cmpR op_isN (pe_fld (pv 0) rfl) pe_non (nomark _)) (pw_and1 (pt_cmpR op_le (pe_callB call_len_seq (by rfl) B.len PySem.boot_len (pa_cons (pe_fld (pv 0) rfl) pa_nil)) (pv 3) (nomark _)))))) (pss_cons (ps_asg (pe_call SA.G hr rfl SA.m SA.k SA.b .nil pass0 (pa_cons (pv 1) (pa_cons (pv 2) pa_nil))) (pg_tup (by rfl) (pgs_cons (pg_name (i := 1) scTInit.nd rfl (.inl rfl)) (pgs_cons (pg_name (i := 5) scTInit.nd rfl (.inl rfl)) pgs_nil)))) (pss_one (ps_if (pt_cmpR op_notN (pv 5) pe_non (nomark _)) (pss_one (ps_fld (pv 0) (pe_tup (pa_cons (pv 1) (pa_cons (pe_tup (pa_cons (pe_op op_sub (pe_callB call_len_seq (by rfl) B.len PySem.boot_len (pa_cons (pe_fld (pv 0) rfl) pa_nil)) pe_int) (pa_cons (pv 5) pa_nil))) pa_nil))) rfl)) (pss_one (ps_if (pt_cmpR (op_inX hu) (pv 1) (pv 4) (by rfl)) (pss_one (ps_fld (pv 0) (pe_dgetX hu (pv 4) (pv 1) (fun _ _ => rfl)) rfl)) (pss_cons (ps_dputX hu (pv 4) (pv 1) (pe_callB call_len_seq (by rfl) B.len PySem.boot_len (pa_cons (pe_fld (pv 0) rfl) pa_nil)) rfl) (pss_one (ps_expr (pe_bm PySem.F.plainAttrs_list PySem.F.slot_list_append PySem.F.type_list_append mt_append (pe_fld (pv 0) rfl) (pa_cons (pv 1) pa_nil)))))))))))))))), ?_⟩
    have l5 := sizeLine_eq
    have nta : t ≠ a := ne_of ht ha (by intro z; cases z)
    refine ⟨_, rfl, (by show 1 ≤ sizeLine; decide), fun ls hls => ?_⟩
    have f1 := same_upd (o := HO.lst [V.ref b0]) hls
    have ha1 := f1 _ _ ha
    have hl1 : (L2.upd H ls (.lst [V.ref b0])) ls = some (.lst [V.ref b0]) := upd_same
    have hv1 := Dp.same f1 _ _ hv
    generalize L2.upd H ls (.lst [V.ref b0]) = H1 at *
    have nla : ls ≠ a := ne_of hl1 ha1 (by intro z; cases z)
    refine ⟨_, rfl, a, CT, dx, _, rfl, ha1, TC.cl, TC.nS, (by show 0 < 1000; decide), ?_⟩
    refine ⟨_, rfl, a, CT, dx, _, rfl, upd_same, TC.cl, TC.nP, (by show 1 < 1000; decide), ?_⟩
    refine ⟨_, rfl, a, CT, dx, _, rfl, upd_same, TC.cl, TC.nA, (by show 2 < 1000; decide), ?_⟩
    rw [upd_upd, upd_upd]
    have tp4 : Tp H1 (L2.upd H1 a (.ins CT dx (putF "again" V.non (putF "stop" V.non (putF "states" (V.ref ls) []))))) := tp_upd ha1 (fun _ z => nomatch z) (fun _ _ z => nomatch z)
    have b4 : But a H (L2.upd H1 a (.ins CT dx (putF "again" V.non (putF "stop" V.non (putF "states" (V.ref ls) []))))) := fun c u hc n => by rw [upd_ne n]; exact f1 _ _ hc
    have ha4 : (L2.upd H1 a (.ins CT dx (putF "again" V.non (putF "stop" V.non (putF "states" (V.ref ls) []))))) a = some (.ins CT dx (trFs ls .non .non)) := upd_same
    have hl4 : (L2.upd H1 a (.ins CT dx (putF "again" V.non (putF "stop" V.non (putF "states" (V.ref ls) []))))) ls = some (.lst [V.ref b0]) := by rw [upd_ne nla]; exact hl1
    have hv4 := Dp.tp tp4 _ _ (noL_st d) hv1
    generalize L2.upd H1 a (.ins CT dx (putF "again" V.non (putF "stop" V.non (putF "states" (V.ref ls) [])))) = H4 at *
    intro dn hdn
    have f5 := same_upd (o := DX P w dn []) hdn
    refine ⟨_, rfl, b0, stD d, rfl, upd_same, keyable_st d, depth_st' d, Dp.same f5 _ _ hv4, ?_⟩
    rw [upd_upd]
    have f6 := same_upd (o := DX P w dn [(keyOf (stD d), b0, V.int 0)]) hdn
    have nda : dn ≠ a := (ne_of_none ha4 hdn).symm
    have hn0 : H dn = none := by
      cases z : H dn with
      | none => rfl
      | some u =>
        have := b4 _ _ z nda
        rw [hdn] at this
        cases this
    have x0 : TI P w K CT a dx ls dn H d es .non .non [d] [(stK d, b0, V.int (0 : Nat))] (L2.upd H4 dn (DX P w dn [(keyOf (stD d), b0, V.int 0)])) :=
      ⟨fun c u hc n => f6 _ _ (b4 _ _ hc n), f6 _ _ ha4, hls, hn0, ⟨[.ref b0], f6 _ _ hl4, .cons (Dp.same f6 _ _ hv4) .nil⟩, upd_same, ⟨rfl, fun i s hi => by
        match i, hi with
        | 0, hi => cases hi; exact ⟨b0, rfl⟩
        | j + 1, hi => simp at hi⟩, fun x hx => by rw [List.mem_singleton.mp hx]; exact ⟨stD d, keyable_st d, depth_st' d, rfl, Dp.same f6 _ _ hv4⟩,
       ⟨rfl, fun i a b _ h2 => by simp at h2, by simp⟩⟩
    have hv6 := Dp.same f6 _ _ hv4
    refine ⟨fun m σ H' => ∃ (v0 : V) (v5 : Option V) (vs va : V) (sts : List Hs) (kvs : KVs), σ = [some (.ref a), some v0, some (.ref t), some (.int count), some (.ref dn), v5] ∧ TI P w K CT a dx ls dn H d es vs va sts kvs H' ∧
      ((m = 2000 - sts.length ∧ vs = .non ∧ va = .non ∧ (∃ s, sts[sts.length - 1]? = some s ∧ Dp K H' v0 (stD s)) ∧ (sts.length : Int) ≤ count + 1) ∨
       (m = 0 ∧ ∃ stop again, va = ixV again ∧ StopV K H' vs stop ∧ (stop ≠ none ∨ again ≠ none) ∧ Ended d es count sts stop again)), ⟨1999, _, none, _, _, [d], _, rfl, x0, .inl ⟨rfl, rfl, rfl, ⟨d, rfl, hv6⟩, by show (1 : Int) ≤ _; omega⟩⟩, ?_⟩
    rintro m σ H' ⟨v0, v5, vs, va, sts, kvs, rfl, x, ph⟩
    have lS : (trFs ls vs va).lookup ("states" : Str) = some (.ref ls) := rfl
    have lP : (trFs ls vs va).lookup ("stop" : Str) = some vs := rfl
    have lA : (trFs ls vs va).lookup ("again" : Str) = some va := rfl
    obtain ⟨ys, hl, dys⟩ := x.hl
    have ly : ys.length = sts.length := by rw [DpAll.len dys, List.length_map]
    have len := x.ch.len wf kn fr
    have fin : ∀ stop again, va = ixV again → StopV K H' vs stop → Ended d es count sts stop again → Q .non H' := fun stop again e1 e2 e3 =>
      k H' sts stop again x.bt ⟨dx, ls, ys, vs, by rw [← e1]; exact x.ha, hl, dys, e2⟩ e3
    rcases ph with ⟨rfl, rfl, rfl, ⟨cu, hcu, dcu⟩, hle⟩ | ⟨rfl, stop, again, rfl, hst, hne, en⟩
    · refine ⟨_, rfl, a, CT, dx, _, _, rfl, x.ha, TC.cl, TC.nP, lP, rfl, _, rfl, iteTe (decide_eq_true rfl) ?_⟩
      refine ⟨_, rfl, a, CT, dx, _, _, rfl, x.ha, TC.cl, TC.nA, lA, rfl, _, rfl, iteTe (decide_eq_true rfl) ?_⟩
      refine ⟨_, rfl, a, CT, dx, _, _, rfl, x.ha, TC.cl, TC.nS, lS, ls, _, rfl, .inl (SqL.of hl), _, rfl, _, _, rfl, rfl, _, rfl, ?_⟩
      rw [ly]
      by_cases hc : (sts.length : Int) ≤ count
      · refine iteTe (decide_eq_true hc) ?_
        refine ⟨fun σ' H'' => ∃ m', m' < 2000 - sts.length ∧ ∃ (v0 : V) (v5 : Option V) (vs va : V) (sts : List Hs) (kvs : KVs), σ' = [some (.ref a), some v0, some (.ref t), some (.int count), some (.ref dn), v5] ∧ TI P w K CT a dx ls dn H d es vs va sts kvs H'' ∧
          ((m' = 2000 - sts.length ∧ vs = .non ∧ va = .non ∧ (∃ s, sts[sts.length - 1]? = some s ∧ Dp K H'' v0 (stD s)) ∧ (sts.length : Int) ≤ count + 1) ∨
           (m' = 0 ∧ ∃ stop again, va = ixV again ∧ StopV K H'' vs stop ∧ (stop ≠ none ∨ again ≠ none) ∧ Ended d es count sts stop again)), fun _ _ h => h, ?_⟩
        obtain ⟨shc, wfc⟩ := x.ch.all wf kn _ cu hcu
        refine ⟨_, rfl, _, rfl, v0, t, xs, cu, es, rfl, dcu, SqL.of (x.bt _ _ ht nta), Dp.tps (fun c ws r => ?_) _ _ (noLs_map ddD noL_dd es) hd, KnAll.shp shc kn, Shp.ls shc lsd, fun p v' H3 e3 hp hv' => ?_⟩
        · rcases r with r | ⟨ob, r⟩
          · exact .inl (x.bt _ _ r (ne_of r ha (by intro z; cases z)))
          · exact .inr ⟨ob, x.bt _ _ r (ne_of r ha (by intro z; cases z))⟩
        refine ⟨p, _, rfl, SqT.of hp, rfl, _, _, rfl, _, _, rfl, rfl, ?_⟩
        obtain ⟨s', hs'⟩ : ∃ s', (runAll cu es 0).1 = s' := ⟨_, rfl⟩
        obtain ⟨ix, hix⟩ : ∃ ix, (runAll cu es 0).2 = ix := ⟨_, rfl⟩
        have er : runAll cu es 0 = (s', ix) := by rw [← hs', ← hix]
        rw [hs'] at hv'
        rw [hix]
        have hp' := hp
        rw [hix] at hp'
        have shs : Shp d s' := by have := run_shp es cu 0; rw [hs'] at this; exact shc.trans this
        have ha3 := e3 _ _ x.ha
        have hl3 := e3 _ _ hl
        have dys3 := Dp.sames e3 _ _ dys
        have hn3 := e3 _ _ x.hn
        have ka3 := x.ka.tp (tp_same e3) x.kr.keys
        have bt3 : But a H H3 := fun c u hc n => e3 _ _ (x.bt _ _ hc n)
        have x3 : TI P w K CT a dx ls dn H d es .non .non sts kvs H3 := ⟨bt3, ha3, x.l0, x.n0, ⟨ys, hl3, dys3⟩, hn3, x.kr, ka3, x.ch⟩
        have nla3 : ls ≠ a := ne_of hl3 ha3 (by intro z; cases z)
        have nda3 : dn ≠ a := ne_of hn3 ha3 (by intro z; cases z)
        have ndl3 : dn ≠ ls := ne_of hn3 hl3 (by intro z; cases z)
        cases ix with
        | some j =>
          refine ⟨_, rfl, rfl, _, rfl, iteTe (by rfl) ?_⟩
          refine ⟨_, rfl, _, rfl, a, CT, dx, _, _, rfl, ha3, TC.cl, TC.nS, lS, ls, _, rfl, .inl (SqL.of hl3), _, _, rfl, rfl, _, rfl, (by show 2 ≤ sizeLine; decide), fun t1 ht1 => ⟨(by show 2 ≤ sizeLine; decide), fun t2 ht2 => ?_⟩⟩
          have g1 := same_upd (o := HO.tup [V.int ((ys.length : Nat) - 1), V.int (j : Nat)]) ht1
          have hg1 : (L2.upd H3 t1 (HO.tup [V.int ((ys.length : Nat) - 1), V.int (j : Nat)])) t1 = some (HO.tup [V.int ((ys.length : Nat) - 1), V.int (j : Nat)]) := upd_same
          have g2 := same_upd (o := HO.tup [v', V.ref t1]) ht2
          have g12 := g1.trans g2
          have ha5 := g12 _ _ ha3
          refine ⟨_, rfl, a, CT, dx, _, rfl, ha5, TC.cl, TC.nP, (by show 3 < 1000; decide), ?_⟩
          have dst : Dp K (L2.upd (L2.upd H3 t1 (HO.tup [V.int ((ys.length : Nat) - 1), V.int (j : Nat)])) t2 (HO.tup [v', V.ref t1])) (.ref t2) (stopD (s', sts.length - 1, j)) := by
            refine .tup (SqT.of upd_same) (.cons (Dp.same g12 _ _ hv') (.cons (.tup (SqT.of (g2 _ _ hg1)) (.cons ?_ (.cons (.int _) .nil))) .nil))
            have hpos := x.ch.pos
            rw [show ((ys.length : Nat) : Int) - 1 = ((sts.length - 1 : Nat) : Int) by omega]
            exact .int _
          have ty5 := tp_upd (o' := .ins CT dx (putF "stop" (V.ref t2) (trFs ls .non .non))) ha5 (fun _ z => nomatch z) (fun _ _ z => nomatch z)
          have dys5 := Dp.sames g12 _ _ dys3
          have hl5 := g12 _ _ hl3
          have hn5 := g12 _ _ hn3
          have ka5 := ka3.tp (tp_same g12) x.kr.keys
          have bt5 : But a H (L2.upd (L2.upd H3 t1 (HO.tup [V.int ((ys.length : Nat) - 1), V.int (j : Nat)])) t2 (HO.tup [v', V.ref t1])) := fun c u hc n => g12 _ _ (bt3 _ _ hc n)
          refine ⟨0, by omega, _, _, .ref t2, .non, sts, kvs, rfl, ⟨fun c u hc n => by rw [upd_ne n]; exact bt5 _ _ hc n, upd_same, x.l0, x.n0, ⟨ys, by rw [upd_ne nla3]; exact hl5, Dp.tps ty5 _ _ (noLs_sts sts) dys5⟩, by rw [upd_ne nda3]; exact hn5, x.kr, ka5.tp ty5 x.kr.keys, x.ch⟩, .inr ⟨rfl, some (s', sts.length - 1, j), none, rfl, ⟨⟨t2, rfl⟩, Dp.tp ty5 _ _ (noL_stop _) dst⟩, .inl (fun z => nomatch z), ⟨x.ch, hle, cu, hcu, .inl ⟨s', j, rfl, rfl, er, hc⟩⟩⟩⟩
        | none =>
          refine ⟨_, rfl, rfl, _, rfl, iteFe (by rfl) ?_⟩
          obtain ⟨b', w1, w2, w3, rfl, _⟩ := st_at hv'
          refine ⟨_, rfl, _, rfl, dn, b', kvs, stD s', rfl, rfl, hn3, ka3, keyable_st s', depth_st' s', hv', _, rfl, ?_⟩
          have hh : ∀ t ∈ sts, t.hands = s'.hands := fun t ht' => by
            obtain ⟨i, hi⟩ := List.mem_iff_getElem?.mp ht'
            rw [← (x.ch.all wf kn i t hi).1.h, shs.h]
          by_cases hm : s' ∈ sts
          · obtain ⟨q, hq⟩ := List.mem_iff_getElem?.mp hm
            have kv := x.kr.at_ hh x.ch.nd hq
            have kv' : kvAt kvs (keyOf (stD s')) = some (V.int (q : Nat)) := kv
            refine iteTe (by rw [kv']; rfl) ?_
            refine ⟨_, rfl, _, rfl, dn, b', kvs, stD s', V.int (q : Nat), rfl, rfl, hn3, ka3, keyable_st s', depth_st' s', hv', kv', ?_⟩
            refine ⟨_, rfl, a, CT, dx, _, rfl, ha3, TC.cl, TC.nA, (by show 3 < 1000; decide), ?_⟩
            have ty5 := tp_upd (o' := .ins CT dx (putF "again" (V.int (q : Nat)) (trFs ls .non .non))) ha3 (fun _ z => nomatch z) (fun _ _ z => nomatch z)
            refine ⟨0, by omega, _, _, .non, .int (q : Nat), sts, kvs, rfl, ⟨fun c u hc n => by rw [upd_ne n]; exact bt3 _ _ hc n, upd_same, x.l0, x.n0, ⟨ys, by rw [upd_ne nla3]; exact hl3, Dp.tps ty5 _ _ (noLs_sts sts) dys3⟩, by rw [upd_ne nda3]; exact hn3, x.kr, ka3.tp ty5 x.kr.keys, x.ch⟩, .inr ⟨rfl, none, some q, rfl, rfl, .inr (fun z => nomatch z), ⟨x.ch, hle, cu, hcu, .inr (.inl ⟨q, s', rfl, rfl, hq, er, hc⟩)⟩⟩⟩
          · have kv := x.kr.no hh hm
            have kv' : kvAt kvs (keyOf (stD s')) = none := kv
            refine iteFe (by rw [kv']; rfl) ?_
            refine ⟨_, rfl, a, CT, dx, _, _, rfl, ha3, TC.cl, TC.nS, lS, ls, _, rfl, .inl (SqL.of hl3), _, rfl, _, rfl, dn, b', kvs, stD s', rfl, rfl, hn3, ka3, keyable_st s', depth_st' s', hv', kv', (by rw [x.kr.1]; omega), ?_⟩
            have ty5 := tp_upd (o' := DX P w dn (kvs ++ [(keyOf (stD s'), b', V.int (ys.length : Nat))])) hn3 (fun _ z => nomatch z) (fun _ _ z => nomatch z)
            have ha5 : (L2.upd H3 dn (DX P w dn (kvs ++ [(keyOf (stD s'), b', V.int (ys.length : Nat))]))) a = some (.ins CT dx (trFs ls .non .non)) := by rw [upd_ne nda3.symm]; exact ha3
            have hl5 : (L2.upd H3 dn (DX P w dn (kvs ++ [(keyOf (stD s'), b', V.int (ys.length : Nat))]))) ls = some (.lst ys) := by rw [upd_ne ndl3.symm]; exact hl3
            have hn5 : (L2.upd H3 dn (DX P w dn (kvs ++ [(keyOf (stD s'), b', V.int (ys.length : Nat))]))) dn = some (DX P w dn (kvs ++ [(keyOf (stD s'), b', V.int (ys.length : Nat))])) := upd_same
            have hv5 := Dp.tp ty5 _ _ (noL_st s') hv'
            have dys5 := Dp.tps ty5 _ _ (noLs_sts sts) dys3
            have ka5 := (ka3.tp ty5 x.kr.keys).snoc (v := V.int (ys.length : Nat)) hv5
            have bt5 : But a H (L2.upd H3 dn (DX P w dn (kvs ++ [(keyOf (stD s'), b', V.int (ys.length : Nat))]))) := fun c u hc n => by rw [upd_ne (ne_of_none hc x.n0)]; exact bt3 _ _ hc n
            refine ⟨_, rfl, a, CT, dx, _, _, rfl, ha5, TC.cl, TC.nS, lS, .inl ⟨rfl, _, SqL.of hl5⟩, _, rfl, ls, ys, _, rfl, rfl, hl5, by omega, ?_⟩
            have ty6 := tp_upd (o' := HO.lst (ys ++ [V.ref b'])) hl5 (fun _ z => nomatch z) (fun _ _ z => nomatch z)
            have kr' := x.kr.snoc s' b'
            rw [← ly] at kr'
            have lsn : (sts ++ [s']).length = sts.length + 1 := by rw [List.length_append, List.length_singleton]
            refine ⟨2000 - (sts ++ [s']).length, by omega, _, _, .non, .non, sts ++ [s'], _, rfl, ⟨fun c u hc n => by rw [upd_ne (ne_of_none hc x.l0)]; exact bt5 _ _ hc n, by rw [upd_ne nla3.symm]; exact ha5, x.l0, x.n0, ⟨_, upd_same, ?_⟩, by rw [upd_ne ndl3]; exact hn5, kr', ka5.tp ty6 kr'.keys, x.ch.snoc hcu er hm⟩, .inl ⟨rfl, rfl, rfl, ⟨s', ?_, Dp.tp ty6 _ _ (noL_st s') hv5⟩, by omega⟩⟩
            · rw [List.map_append]
              exact DpAll.app (Dp.tps ty6 _ _ (noLs_sts sts) dys5) (.cons (Dp.tp ty6 _ _ (noL_st s') hv5) .nil)
            · rw [lsn, Nat.add_sub_cancel, List.getElem?_append_right (Nat.le_refl _), Nat.sub_self]
              rfl
      · refine iteFe (decide_eq_false hc) ?_
        exact fin none none rfl rfl ⟨x.ch, hle, cu, hcu, .inr (.inr ⟨rfl, rfl, by omega⟩)⟩
    · cases stop with
      | some sp =>
        obtain ⟨⟨p, rfl⟩, dsp⟩ := hst
        refine ⟨_, rfl, a, CT, dx, _, _, rfl, x.ha, TC.cl, TC.nP, lP, rfl, _, rfl, iteFe (by rfl) (iteF ?_)⟩
        exact fin (some sp) again rfl ⟨⟨p, rfl⟩, dsp⟩ en
      | none =>
        have hst' : vs = .non := hst
        subst hst'
        cases again with
        | none => exact absurd rfl (hne.resolve_left (fun z => z rfl))
        | some q =>
          refine ⟨_, rfl, a, CT, dx, _, _, rfl, x.ha, TC.cl, TC.nP, lP, rfl, _, rfl, iteTe (decide_eq_true rfl) ?_⟩
          refine ⟨_, rfl, a, CT, dx, _, _, rfl, x.ha, TC.cl, TC.nA, lA, rfl, _, rfl, iteFe (by rfl) (iteF ?_)⟩
          exact fin none (some q) rfl rfl en
end
end Kw


set_option Elab.async false
set_option linter.all false
set_option maxRecDepth 100000
set_option maxHeartbeats 4000000
namespace Kw
open PySem PySem.Spec PyProof.Rows L2
/-! ### the whole way -/
structure Full (d0 : Hs) (es : List Dd) (sts : List Hs) (e : (Hs × Nat) ⊕ Nat) : Prop where
  ch : Chain d0 es sts
  last : ∃ la, sts[sts.length - 1]? = some la ∧ ((∃ s j, e = .inl (s, j) ∧ runAll la es 0 = (s, some j)) ∨ (∃ q s, e = .inr q ∧ sts[q]? = some s ∧ runAll la es 0 = (s, none)))
theorem Chain.pre {d0 : Hs} {es : List Dd} {a b : List Hs} (ca : Chain d0 es a) (cb : Chain d0 es b) : ∀ i, i < a.length → i < b.length → a[i]? = b[i]?
  | 0, _, _ => by rw [ca.hd, cb.hd]
  | i + 1, ha, hb => by
    have ih := ca.pre cb i (by omega) (by omega)
    obtain ⟨x, hx⟩ : ∃ x, a[i]? = some x := ⟨_, List.getElem?_eq_getElem (by omega)⟩
    obtain ⟨y, hy⟩ : ∃ y, a[i + 1]? = some y := ⟨_, List.getElem?_eq_getElem ha⟩
    obtain ⟨z, hz⟩ : ∃ z, b[i + 1]? = some z := ⟨_, List.getElem?_eq_getElem hb⟩
    have e1 := ca.st i x y hx hy
    have e2 := cb.st i x z (ih ▸ hx) hz
    rw [e1] at e2
    cases e2
    rw [hy, hz]
theorem nodup_at {α : Type} {l : List α} (n : l.Nodup) {i j : Nat} {x : α} (h1 : l[i]? = some x) (h2 : l[j]? = some x) : i = j := by
  obtain ⟨l1, e1⟩ := List.getElem?_eq_some_iff.mp h1
  obtain ⟨l2, e2⟩ := List.getElem?_eq_some_iff.mp h2
  have p := List.pairwise_iff_getElem.mp n
  rcases Nat.lt_trichotomy i j with c | c | c
  · exact absurd (by rw [e1, e2]) (p i j l1 l2 c)
  · exact c
  · exact absurd (by rw [e1, e2]) (p j i l2 l1 c)
theorem pre_eq {α : Type} {a b : List α} (h : ∀ i, i < a.length → i < b.length → a[i]? = b[i]?) (hl : a.length ≤ b.length) : a = b.take a.length := by
  refine List.ext_getElem? fun i => ?_
  rw [List.getElem?_take]
  by_cases c : i < a.length
  · rw [if_pos c]; exact h i c (by omega)
  · rw [if_neg c]; exact List.getElem?_eq_none (by omega)
theorem ended_full {d : Hs} {es : List Dd} {sts st2 : List Hs} {e : (Hs × Nat) ⊕ Nat} {c : Nat} {stop : Option (Hs × Nat × Nat)} {again : Option Nat} (F : Full d es sts e) (E : Ended d es (c : Int) st2 stop again) :
    (c < sts.length ∧ st2 = sts.take (c + 1) ∧ stop = none ∧ again = none) ∨
    (sts.length ≤ c ∧ st2 = sts ∧ ((∃ s j, e = .inl (s, j) ∧ stop = some (s, sts.length - 1, j) ∧ again = none) ∨ (∃ q, e = .inr q ∧ q < sts.length ∧ stop = none ∧ again = some q))) := by
  have hp := F.ch.pos
  have hp2 := E.ch.pos
  have pr := E.ch.pre F.ch
  obtain ⟨la, hla, hend⟩ := F.last
  have le : st2.length ≤ sts.length := by
    by_cases z : st2.length ≤ sts.length
    · exact z
    · exfalso
      have a1 : st2[sts.length - 1]? = some la := by rw [pr _ (by omega) (by omega)]; exact hla
      obtain ⟨b, hb⟩ : ∃ b, st2[sts.length]? = some b := ⟨_, List.getElem?_eq_getElem (by omega)⟩
      have e1 := E.ch.st (sts.length - 1) la b a1 (by rw [show sts.length - 1 + 1 = sts.length by omega]; exact hb)
      rcases hend with ⟨s, j, _, e2⟩ | ⟨q, s, _, hq, e2⟩
      · rw [e1] at e2; cases e2
      · rw [e1] at e2
        cases e2
        have lq := (List.getElem?_eq_some_iff.mp hq).1
        have a2 : st2[q]? = some b := by rw [pr _ (by omega) lq]; exact hq
        have := nodup_at E.ch.nd a2 hb
        omega
  have ep := pre_eq pr le
  obtain ⟨la2, hla2, h⟩ := E.last
  have lt_no : st2.length < sts.length → ∃ b, sts[st2.length]? = some b ∧ runAll la2 es 0 = (b, none) := fun z => by
    obtain ⟨b, hb⟩ : ∃ b, sts[st2.length]? = some b := ⟨_, List.getElem?_eq_getElem z⟩
    refine ⟨b, hb, F.ch.st (st2.length - 1) la2 b ?_ (by rw [show st2.length - 1 + 1 = st2.length by omega]; exact hb)⟩
    rw [← pr _ (by omega) (by omega)]
    exact hla2
  have le1 := E.le
  rcases h with ⟨s, j, e1, e2, e3, e4⟩ | ⟨k, s, e1, e2, hk, e3, e4⟩ | ⟨e1, e2, e4⟩
  · have len : st2.length = sts.length := by
      by_cases z : st2.length < sts.length
      · obtain ⟨b, _, hb⟩ := lt_no z
        rw [e3] at hb; cases hb
      · omega
    have eq : st2 = sts := by rw [ep, len, List.take_length]
    subst eq
    rw [hla] at hla2
    cases hla2
    refine .inr ⟨by omega, rfl, .inl ?_⟩
    rcases hend with ⟨s', j', e5, e6⟩ | ⟨q, s', _, _, e6⟩
    · rw [e3] at e6
      cases e6
      exact ⟨s, j, e5, e1, e2⟩
    · rw [e3] at e6; cases e6
  · have len : st2.length = sts.length := by
      by_cases z : st2.length < sts.length
      · obtain ⟨b, hb1, hb⟩ := lt_no z
        rw [e3] at hb
        cases hb
        have lk := (List.getElem?_eq_some_iff.mp hk).1
        have := nodup_at F.ch.nd (i := k) (j := st2.length) (x := s) (by rw [← pr _ lk (by omega)]; exact hk) hb1
        omega
      · omega
    have eq : st2 = sts := by rw [ep, len, List.take_length]
    subst eq
    rw [hla] at hla2
    cases hla2
    refine .inr ⟨by omega, rfl, .inr ?_⟩
    rcases hend with ⟨s', j', _, e6⟩ | ⟨q, s', e5, hq, e6⟩
    · rw [e3] at e6; cases e6
    · rw [e3] at e6
      cases e6
      have := nodup_at F.ch.nd hk hq
      subst this
      exact ⟨k, e5, (List.getElem?_eq_some_iff.mp hk).1, e1, e2⟩
  · have len : st2.length = c + 1 := by omega
    exact .inl ⟨by omega, by rw [ep, len], e1, e2⟩
/-! ### sums that come again -/
theorem sum_app : ∀ (a b : List Int), (a ++ b).sum = a.sum + b.sum
  | [], b => by simp
  | x :: a, b => by rw [List.cons_append, List.sum_cons, List.sum_cons, sum_app a b]; omega
def cyc (L : List Int) : Nat → Int
  | 0 => 0
  | n + 1 => cyc L n + L.getD (n % L.length) 0
theorem take_snoc (L : List Int) {k : Nat} (h : k < L.length) : (L.take (k + 1)).sum = (L.take k).sum + L.getD k 0 := by
  rw [List.take_add_one, List.getElem?_eq_getElem h, sum_app]
  simp [List.getD, h]
theorem divmod_succ {s n : Nat} (hs : 0 < s) : (n % s + 1 < s ∧ (n + 1) / s = n / s ∧ (n + 1) % s = n % s + 1) ∨ (n % s + 1 = s ∧ (n + 1) / s = n / s + 1 ∧ (n + 1) % s = 0) := by
  have e : n + 1 = (n % s + 1) + s * (n / s) := by have := Nat.mod_add_div n s; omega
  have lt := Nat.mod_lt n hs
  have e1 : (n + 1) / s = (n % s + 1) / s + n / s := by rw [e, Nat.add_mul_div_left _ _ hs]
  have e2 : (n + 1) % s = (n % s + 1) % s := by rw [e, Nat.add_mul_mod_self_left]
  by_cases c : n % s + 1 < s
  · exact .inl ⟨c, by rw [e1, Nat.div_eq_of_lt c, Nat.zero_add], by rw [e2, Nat.mod_eq_of_lt c]⟩
  · have c' : n % s + 1 = s := by omega
    exact .inr ⟨c', by rw [e1, c', Nat.div_self hs, Nat.add_comm], by rw [e2, c', Nat.mod_self]⟩
theorem cyc_eq (L : List Int) (h : 0 < L.length) : ∀ n : Nat, cyc L n = ((n / L.length : Nat) : Int) * L.sum + (L.take (n % L.length)).sum
  | 0 => by simp [cyc]
  | n + 1 => by
    unfold cyc
    rw [cyc_eq L h n]
    rcases divmod_succ (n := n) h with ⟨c, e1, e2⟩ | ⟨c, e1, e2⟩
    · rw [e1, e2, take_snoc L (by omega)]
      omega
    · rw [e1, e2, List.take_zero, List.sum_nil, Int.add_zero]
      have t := take_snoc L (k := n % L.length) (by omega)
      rw [c, List.take_length] at t
      rw [Int.natCast_add, Int.add_mul, t]
      simp only [Int.natCast_one, Int.one_mul]
      omega
instance : Inhabited Hs := ⟨⟨0, [], [], []⟩⟩
/-- the number of good ones -/
def goodN (t : List Int) (e : (Hs × Nat) ⊕ Nat) (c : Nat) : Int :=
  if c < t.length then ((t.take (c + 1)).drop 1).sum else match e with
  | .inl _ => (t.drop 1).sum
  | .inr q => (t.drop 1).sum + cyc (t.drop q) (c + 1 - t.length)
def dueN (sts : List Hs) (e : (Hs × Nat) ⊕ Nat) (c : Nat) : PyData :=
  if c < sts.length then .tuple [stD (sts.getD c default), .none] else match e with
  | .inl (s, j) => .tuple [stD s, .tuple [.int ((sts.length - 1 : Nat) : Int), .int (j : Nat)]]
  | .inr q => .tuple [stD (sts.getD (q + (c - q) % (sts.length - q)) default), .none]
def mk01 (d : Sg) (s : Hs) : Int := if isS s d then 1 else 0
def Out (sts st2 : List Hs) (e : (Hs × Nat) ⊕ Nat) (c : Nat) (stop : Option (Hs × Nat × Nat)) (again : Option Nat) : Prop :=
    (c < sts.length ∧ st2 = sts.take (c + 1) ∧ stop = none ∧ again = none) ∨
    (sts.length ≤ c ∧ st2 = sts ∧ ((∃ s j, e = .inl (s, j) ∧ stop = some (s, sts.length - 1, j) ∧ again = none) ∨ (∃ q, e = .inr q ∧ q < sts.length ∧ stop = none ∧ again = some q)))
section
variable {P : Program} {w : World} {K : PySem.W.Frag} {mg : Str → Option Value} {base : Heap}
theorem trL1 {ls : Addr} {vs va : V} : (trFs ls vs va).lookup ("states" : Str) = some (.ref ls) := rfl
theorem trL2 {ls : Addr} {vs va : V} : (trFs ls vs va).lookup ("stop" : Str) = some vs := rfl
theorem trL3 {ls : Addr} {vs va : V} : (trFs ls vs va).lookup ("again" : Str) = some va := rfl
def spTEnd (K : PySem.W.Frag) (CT : Addr) : Sp := fun vs H Q _ => ∃ (a : Addr) (c : Nat) (sts st2 : List Hs) (e : (Hs × Nat) ⊕ Nat) (stop : Option (Hs × Nat × Nat)) (again : Option Nat), vs = [.ref a, .int (c : Nat)] ∧ TrAt K CT H a st2 stop again ∧ Out sts st2 e c stop again ∧
  ∀ v H', Same H H' → Dp K H' v (dueN sts e c) → Q v H'
theorem scTEnd : FnScope ["self", "count"] ["self", "count"] (defScope sTEnd) := ⟨rfl, rfl, rfl, by decide +kernel, rfl, by decide +kernel, by decide +kernel⟩
theorem ok_tend {f CT : Addr} {fd : FuncData} (F : Fun K "end" "Trace.end" sTEnd f fd) (B : Bt mg) (TC : TrC K CT) : FnOk P w K mg base CX0 1 f fd ["self", "count"] (spTEnd K CT) := by
  refine F.ok scTEnd (fun vs H Q E h => ?_) (fun cdv A outer s H vs Q E hr h => ?_)
  · obtain ⟨a, c, sts, st2, e, stop, again, rfl, _⟩ := h
    rfl
  · obtain ⟨a, c, sts, st2, e, stop, again, rfl, ⟨dx, ls, xs, vs, ha, hl, hd, hs⟩, ou, k⟩ := h
    have lx : xs.length = st2.length := by rw [DpAll.len hd, List.length_map]
    refine ⟨_, (pss_cons (ps_if (pt_cmpR op_notN (pe_fld (pv 0) rfl) pe_non (nomark _)) (pss_one (ps_ret (pe_fld (pv 0) rfl))) pss_nil) (pss_cons (ps_if (PW.pt (pw_and (pt_cmpR op_notN (pe_fld (pv 0) rfl) pe_non (nomark _)) (pw_and1 (pt_cmpR op_ge (pv 1) (pe_callB call_len_seq (by rfl) B.len PySem.boot_len (pa_cons (pe_fld (pv 0) rfl) pa_nil)) (nomark _))))) (pss_one (ps_set (i := 1) scTEnd.nd rfl (.inl rfl) (pe_op op_add (pe_fld (pv 0) rfl) (pe_op op_mod (pe_op op_sub (pv 1) (pe_fld (pv 0) rfl)) (pe_op op_sub (pe_callB call_len_seq (by rfl) B.len PySem.boot_len (pa_cons (pe_fld (pv 0) rfl) pa_nil)) (pe_fld (pv 0) rfl)))))) pss_nil) (pss_one (ps_ret (pe_tup (pa_cons (pe_ix ix_list (pe_fld (pv 0) rfl) (pv 1) (fun _ _ => rfl)) (pa_cons pe_non pa_nil))))))), ?_⟩
    refine ⟨_, rfl, a, CT, dx, _, _, rfl, ha, TC.cl, TC.nP, trL2, ?_⟩
    have fin : ∀ (i : Nat) s, st2[i]? = some s → dueN sts e c = .tuple [stD s, .none] → ∃ v, atI xs (i : Int) = some v ∧ ∀ p, H p = none → Q (.ref p) (L2.upd H p (.tup [v, .non])) := fun i s hi ed => by
      obtain ⟨v, hv, dv⟩ := DpAll.at2 hd (show (st2.map stD)[i]? = some (stD s) by rw [List.getElem?_map, hi]; rfl)
      refine ⟨v, atI_nat hv, fun p hp => ?_⟩
      have f5 := same_upd (o := HO.tup [v, V.non]) hp
      refine k _ _ f5 ?_
      rw [ed]
      exact .tup (SqT.of upd_same) (.cons (Dp.same f5 _ _ dv) (.cons .non .nil))
    rcases ou with ⟨hc, e2, rfl, rfl⟩ | ⟨hc, rfl, ⟨s, j, rfl, rfl, rfl⟩ | ⟨q, rfl, hq, rfl, rfl⟩⟩
    · obtain rfl : vs = .non := hs
      refine ⟨rfl, _, rfl, iteFe (by rfl) ?_⟩
      refine ⟨_, rfl, a, CT, dx, _, _, rfl, ha, TC.cl, TC.nA, trL3, rfl, _, rfl, iteFe (by rfl) (iteF ?_)⟩
      obtain ⟨s, hi⟩ : ∃ s, st2[c]? = some s := ⟨_, List.getElem?_eq_getElem (by rw [e2, List.length_take]; omega)⟩
      obtain ⟨v, hv, kk⟩ := fin c s hi (by
        unfold dueN
        rw [if_pos hc]
        rw [e2, List.getElem?_take, if_pos (by omega)] at hi
        simp [List.getD, hi])
      refine ⟨_, rfl, a, CT, dx, _, _, rfl, ha, TC.cl, TC.nS, trL1, _, rfl, ls, xs, _, v, rfl, rfl, SqL.of hl, hv, (by show 2 ≤ sizeLine; decide), kk⟩
    · obtain ⟨⟨p, rfl⟩, dsp⟩ := hs
      refine ⟨rfl, _, rfl, iteTe (by rfl) ?_⟩
      refine ⟨_, rfl, a, CT, dx, _, _, rfl, ha, TC.cl, TC.nP, trL2, ?_⟩
      refine k _ _ (Same.refl _) ?_
      unfold dueN
      rw [if_neg (by omega)]
      exact dsp
    · obtain rfl : vs = .non := hs
      refine ⟨rfl, _, rfl, iteFe (by rfl) ?_⟩
      refine ⟨_, rfl, a, CT, dx, _, _, rfl, ha, TC.cl, TC.nA, trL3, rfl, _, rfl, iteTe (by rfl) ?_⟩
      refine ⟨_, rfl, _, rfl, a, CT, dx, _, _, rfl, ha, TC.cl, TC.nS, trL1, ls, xs, rfl, .inl (SqL.of hl), _, _, rfl, rfl, _, rfl, iteTe (by rw [lx]; exact decide_eq_true (by omega)) ?_⟩
      obtain ⟨s, hi⟩ : ∃ s, st2[q + (c - q) % (st2.length - q)]? = some s := ⟨_, List.getElem?_eq_getElem (by have := Nat.mod_lt (c - q) (show 0 < st2.length - q by omega); omega)⟩
      obtain ⟨v, hv, kk⟩ := fin _ s hi (by
        unfold dueN
        rw [if_neg (by omega)]
        simp [List.getD, hi])
      have ev : (q : Int) + ((c : Nat) - (q : Nat) : Int) % ((st2.length : Nat) - (q : Nat) : Int) = ((q + (c - q) % (st2.length - q) : Nat) : Int) := by
        rw [Int.natCast_add, Int.natCast_emod, Int.natCast_sub (by omega), Int.natCast_sub (by omega)]
      refine ⟨_, rfl, a, CT, dx, _, _, rfl, ha, TC.cl, TC.nA, trL3, ?_⟩
      refine ⟨_, rfl, _, rfl, a, CT, dx, _, _, rfl, ha, TC.cl, TC.nA, trL3, _, _, rfl, rfl, ?_⟩
      refine ⟨_, rfl, a, CT, dx, _, _, rfl, ha, TC.cl, TC.nS, trL1, ls, xs, rfl, .inl (SqL.of hl), _, rfl, a, CT, dx, _, _, rfl, ha, TC.cl, TC.nA, trL3, _, _, rfl, rfl, ?_⟩
      refine ⟨_, _, rfl, rfl, (by omega), _, _, rfl, rfl, ?_⟩
      rw [lx]
      dsimp only
      rw [ev]
      refine ⟨_, rfl, a, CT, dx, _, _, rfl, ha, TC.cl, TC.nS, trL1, _, rfl, ls, xs, _, v, rfl, rfl, SqL.of hl, hv, (by show 2 ≤ sizeLine; decide), kk⟩
def spTHow (K : PySem.W.Frag) (CT : Addr) (n : Nat) : Sp := fun vs H Q _ => ∃ (a : Addr) (y : V) (c : Nat) (g : Sg) (sts st2 : List Hs) (e : (Hs × Nat) ⊕ Nat) (stop : Option (Hs × Nat × Nat)) (again : Option Nat), vs = [.ref a, y, .int (c : Nat)] ∧ TrAt K CT H a st2 stop again ∧ Out sts st2 e c stop again ∧
  Dp K H y (sgD g) ∧ depS g < n ∧ (∀ s ∈ sts, KnS s g ∧ Ls s) ∧ sts.length ≤ 1296 ∧ ∀ H', Same H H' → Q (.int (goodN (sts.map (mk01 g)) e c)) H'
theorem scTHow : FnScope ["self", "sight", "count", "truths", "state", "found", "circle", "many", "rest"] ["self", "sight", "count"] (defScope sTHow) := ⟨rfl, rfl, rfl, by decide +kernel, rfl, by decide +kernel, by decide +kernel⟩
theorem sum01 : ∀ (L : List Int), (∀ x ∈ L, x = 0 ∨ x = 1) → 0 ≤ L.sum ∧ L.sum ≤ L.length
  | [], _ => by simp
  | x :: L, h => by
    have h1 := h x List.mem_cons_self
    have h2 := sum01 L fun y hy => h y (List.mem_cons_of_mem _ hy)
    rw [List.sum_cons, List.length_cons]
    omega
theorem cutI_from (L : List Int) (q : Nat) : cutV (L.map V.int) (some (q : Int)) none = (L.drop q).map V.int := by
  have s1 : ((L.map V.int).drop (HT.sIx (L.map V.int).length 0 (some (q : Int)))) = ((L.drop q).map V.int) := by
    rw [HT.sIx_nat, List.length_map, List.map_drop]
    by_cases z : q ≤ L.length
    · rw [Nat.min_eq_left z]
    · rw [Nat.min_eq_right (by omega), List.drop_of_length_le (by simp), List.drop_of_length_le (by simp; omega)]
  unfold cutV
  rw [s1, HT.sIx_none, List.take_of_length_le]
  rw [← s1, List.length_drop]
  omega
theorem cutI_to (L : List Int) (r : Nat) : cutV (L.map V.int) none (some (r : Int)) = (L.take r).map V.int := by
  unfold cutV
  rw [HT.sIx_none, HT.sIx_nat, List.drop_zero, List.length_map, Nat.sub_zero, List.map_take]
  by_cases z : r ≤ L.length
  · rw [Nat.min_eq_left z]
  · rw [Nat.min_eq_right (by omega), List.take_of_length_le (by simp), List.take_of_length_le (by simp; omega)]
theorem ok_thow {f gI CT : Addr} {fd fdI : FuncData} {n m : Nat} (F : Fun K "how_often" "Trace.how_often" sTHow f fd) (B : Bt mg) (TC : TrC K CT) (mSm : mg "sum" = none) (mDm : mg "divmod" = none) (IT : OnceF P w K mg base "is_true" m ["state", "sight"] (spIs K n) gI fdI) :
    FnOk P w K mg base CX0 (m + 1) f fd ["self", "sight", "count"] (spTHow K CT n) := by
  refine F.ok scTHow (fun vs H Q E h => ?_) (fun cdv A outer s H vs Q E hr h => ?_)
  · obtain ⟨a, y, c, g, sts, st2, e, stop, again, rfl, _⟩ := h
    rfl
  · obtain ⟨a, y, c, g, sts, st2, e, stop, again, rfl, ⟨dx, ls, xs, vs, ha, hl, hd, hs⟩, ou, hy, dep, kn, len, k⟩ := h
    have lx : xs.length = st2.length := by rw [DpAll.len hd, List.length_map]
    have l2 : st2.length ≤ 1296 := by
      rcases ou with ⟨_, e2, _⟩ | ⟨_, e2, _⟩
      · rw [e2, List.length_take]; omega
      · rw [e2]; exact len
    have sub : ∀ s ∈ st2, s ∈ sts := fun s hs => by
      rcases ou with ⟨_, e2, _⟩ | ⟨_, e2, _⟩
      · rw [e2] at hs; exact List.mem_of_mem_take hs
      · rw [← e2]; exact hs
    have hr1 : Room m _ := hr
    refine ⟨_, (pss_cons (ps_setLc (i := 3) (own := [("state", 4)]) (g := gName 4) (tt := tYes) (te := (tIf (tTest (tCall (spIs K n) [] E0 (tCons (tVar 4) (tCons (tVar 1) tNil)))) (tC (.int 1)) (tC (.int 0)))) rfl scTHow.nd rfl rfl (sw_true rfl rfl rfl (by decide +kernel)) (pi_list (pe_fld (pv 0) rfl)) (blkOk_by (own := [("state", 4)]) (N := ["self", "sight", "count", "truths", "state", "found", "circle", "many", "rest"]) (sc := defScope sTHow) (by decide +kernel)) (fun _ _ _ _ _ => pg_name (i := 4) scTHow.nd rfl (.inl rfl)) (fun _ _ _ _ _ => pts_nil) (fun _ _ _ _ _ => (pe_ifExp (pt_val (pe_call IT.G hr1 rfl IT.m IT.k IT.b .nil pass0 (pa_cons (pv 4) (pa_cons (pv 1) pa_nil)))) pe_int pe_int))) (pss_cons (ps_set (i := 5) scTHow.nd rfl (.inl rfl) (pe_callB (cr_sum rfl) (by rfl) mSm (by decide +kernel) (pa_cons (pe_slice sl_list (pv 3) (po_some pe_int) po_none) pa_nil))) (pss_cons (ps_if (pt_cmpR op_notN (pe_fld (pv 0) rfl) pe_non (nomark _)) (pss_cons (ps_set (i := 6) scTHow.nd rfl (.inl rfl) (pe_slice sl_list (pv 3) (po_some (pe_fld (pv 0) rfl)) po_none)) (pss_cons (ps_asg (pe_callB call_divmod (by rfl) mDm (by decide +kernel) (pa_cons (pe_op op_sub (pe_op op_add (pv 2) pe_int) (pe_callB call_len_seq (by rfl) B.len PySem.boot_len (pa_cons (pe_fld (pv 0) rfl) pa_nil))) (pa_cons (pe_callB call_len_seq (by rfl) B.len PySem.boot_len (pa_cons (pv 6) pa_nil)) pa_nil))) (pg_tup (by rfl) (pgs_cons (pg_name (i := 7) scTHow.nd rfl (.inl rfl)) (pgs_cons (pg_name (i := 8) scTHow.nd rfl (.inl rfl)) pgs_nil)))) (pss_one (ps_aug (i := 5) scTHow.nd rfl (.inl rfl) (pe_op op_add (pe_op op_mul (pv 7) (pe_callB (cr_sum rfl) (by rfl) mSm (by decide +kernel) (pa_cons (pv 6) pa_nil))) (pe_callB (cr_sum rfl) (by rfl) mSm (by decide +kernel) (pa_cons (pe_slice sl_list (pv 6) po_none (po_some (pv 8))) pa_nil))) ip_add)))) pss_nil) (pss_one (ps_ret (pv 5)))))), ?_⟩
    refine ⟨_, rfl, a, CT, dx, _, _, rfl, ha, TC.cl, TC.nS, trL1, ls, rfl, ⟨xs, SqL.of hl⟩, fun D hD => ?_⟩
    have e0 : ∀ (H' : Hp) (o : HO), Same H H' → Same H (L2.upd H' D o) := fun H' o e c u h => by rw [upd_ne (ne_of_none h hD)]; exact e c u h
    refine lc_list (K := K) (a := ls) (xs := xs) (fun i H' => Same H H' ∧ H' D = some (.lst ((((st2.map (mk01 g)).take i)).map V.int))) ⟨same_upd hD, upd_same⟩ (fun i H' _ ⟨e', _⟩ => SqL.of (e' _ _ hl)) ?_ ?_
    · rintro i x H' hi ⟨e', hD'⟩
      obtain ⟨s, hs1, hs2⟩ : ∃ s, st2[i]? = some s ∧ Dp K H x (stD s) := by
        obtain ⟨dd, h1, h2⟩ := DpAll.get hd hi
        rw [List.getElem?_map] at h1
        cases hz : st2[i]? with
        | none => rw [hz] at h1; cases h1
        | some s => rw [hz] at h1; cases h1; exact ⟨s, rfl, h2⟩
      obtain ⟨k1, k2⟩ := kn s (sub s (List.mem_of_getElem? hs1))
      refine ⟨wipe_one _ 4 _, _, rfl, _, rfl, x, y, s, g, rfl, dep, Dp.same e' _ _ hs2, Dp.same e' _ _ hy, k1, k2, fun H4 e4 => ⟨isS s g, rfl, ?_⟩⟩
      have key : ∀ z : Int, mk01 g s = z → ∃ acc, H4 D = some (.lst acc) ∧ acc.length < sizeLine ∧ Same H (L2.upd H4 D (.lst (acc ++ [V.int z]))) ∧ (L2.upd H4 D (.lst (acc ++ [V.int z]))) D = some (.lst ((((st2.map (mk01 g)).take (i + 1))).map V.int)) := fun z hz => by
        refine ⟨_, e4 _ _ hD', by rw [List.length_map, List.length_take, List.length_map, sizeLine_eq]; omega, e0 _ _ (e'.trans e4), ?_⟩
        rw [upd_same, List.take_add_one, List.getElem?_map, hs1, List.map_append]
        simp [hz]
      refine ite2 (fun b => key 1 (by unfold mk01; rw [if_pos b])) (fun b => key 0 (by unfold mk01; rw [if_neg b]))
    · rintro H1 ⟨e1, hD1⟩
      rw [lx, ← List.length_map (f := mk01 g), List.take_length] at hD1
      obtain ⟨t2, ht2⟩ : ∃ t2, st2.map (mk01 g) = t2 := ⟨_, rfl⟩
      have lt2 : t2.length = st2.length := by rw [← ht2, List.length_map]
      rw [ht2] at hD1
      have ha1 := e1 _ _ ha
      have lt3 : t2.length ≤ 1296 := by omega
      have fin : ∀ (z : Int), z = goodN (sts.map (mk01 g)) e c → ∀ H', Same H1 H' → Q (.int z) H' := fun z hz H' e' => by
        rw [hz]
        exact k H' (e1.trans e')
      have c1 : cutV (t2.map V.int) (some 1) none = (t2.drop 1).map V.int := cutI_from t2 1
      refine ⟨_, rfl, 1, rfl, D, _, rfl, SqL.of hD1, fun p hp => ?_⟩
      rw [c1]
      have f2 := same_upd (o := HO.lst ((t2.drop 1).map V.int)) hp
      have hp1 : (L2.upd H1 p (HO.lst ((t2.drop 1).map V.int))) p = some (HO.lst ((t2.drop 1).map V.int)) := upd_same
      generalize L2.upd H1 p (HO.lst ((t2.drop 1).map V.int)) = H2 at *
      refine ⟨p, t2.drop 1, rfl, SqL.of hp1, ?_⟩
      have ha2 := f2 _ _ ha1
      refine ⟨_, rfl, a, CT, dx, _, _, rfl, ha2, TC.cl, TC.nA, trL3, rfl, _, rfl, ?_⟩
      have gl : (sts.map (mk01 g)).length = sts.length := List.length_map _
      rcases ou with ⟨hc, e2, rfl, rfl⟩ | ⟨hc, e2, ⟨s, j, rfl, rfl, rfl⟩ | ⟨q, rfl, hq, rfl, rfl⟩⟩
      · refine iteFe (by rfl) ⟨_, rfl, fin _ ?_ _ f2⟩
        unfold goodN
        rw [gl, if_pos hc, ← ht2, e2, List.map_take]
      · refine iteFe (by rfl) ⟨_, rfl, fin _ ?_ _ f2⟩
        unfold goodN
        rw [gl, if_neg (by omega), ← ht2, e2]
      · refine iteTe (by rfl) ?_
        have hl2 := f2 _ _ (e1 _ _ hl)
        have hD2 := f2 _ _ hD1
        have c2 : cutV (t2.map V.int) (some (q : Int)) none = (t2.drop q).map V.int := cutI_from t2 q
        refine ⟨_, rfl, _, rfl, a, CT, dx, _, _, rfl, ha2, TC.cl, TC.nA, trL3, _, rfl, D, _, rfl, SqL.of hD2, fun p2 hp2 => ?_⟩
        rw [c2]
        obtain ⟨ci, hci⟩ : ∃ ci, t2.drop q = ci := ⟨_, rfl⟩
        rw [hci]
        have lci : ci.length = st2.length - q := by rw [← hci, List.length_drop, lt2]
        have f3 := same_upd (o := HO.lst (ci.map V.int)) hp2
        have hp3 : (L2.upd H2 p2 (HO.lst (ci.map V.int))) p2 = some (HO.lst (ci.map V.int)) := upd_same
        generalize L2.upd H2 p2 (HO.lst (ci.map V.int)) = H3 at *
        have sm2 : st2.length = sts.length := by rw [e2]
        refine ⟨_, rfl, _, _, rfl, rfl, _, rfl, a, CT, dx, _, _, rfl, f3 _ _ ha2, TC.cl, TC.nS, trL1, ls, xs, rfl, .inl (SqL.of (f3 _ _ hl2)), _, _, rfl, rfl, _, rfl, p2, _, rfl, .inl (SqL.of hp3), _, _, rfl, ⟨by rw [List.length_map]; omega, by rw [List.length_map]; omega⟩, fun p4 hp4 => ?_⟩
        rw [List.length_map]
        have em : ((c : Int) + 1 - (xs.length : Nat)) / ((ci.length : Nat) : Int) = (((c + 1 - st2.length) / ci.length : Nat) : Int) := by
          rw [lx, Int.natCast_ediv, Int.natCast_sub (by omega)]
          rfl
        have er : ((c : Int) + 1 - (xs.length : Nat)) % ((ci.length : Nat) : Int) = (((c + 1 - st2.length) % ci.length : Nat) : Int) := by
          rw [lx, Int.natCast_emod, Int.natCast_sub (by omega)]
          rfl
        rw [em, er]
        obtain ⟨mm, hmm⟩ : ∃ mm, (c + 1 - st2.length) / ci.length = mm := ⟨_, rfl⟩
        obtain ⟨rr, hrr⟩ : ∃ rr, (c + 1 - st2.length) % ci.length = rr := ⟨_, rfl⟩
        rw [hmm, hrr]
        have f4 := same_upd (o := HO.tup [V.int ((mm : Nat) : Int), V.int ((rr : Nat) : Int)]) hp4
        have hp5 : (L2.upd H3 p4 (HO.tup [V.int ((mm : Nat) : Int), V.int ((rr : Nat) : Int)])) p4 = some (HO.tup [V.int ((mm : Nat) : Int), V.int ((rr : Nat) : Int)]) := upd_same
        generalize L2.upd H3 p4 (HO.tup [V.int ((mm : Nat) : Int), V.int ((rr : Nat) : Int)]) = H4 at *
        refine ⟨p4, _, rfl, SqT.of hp5, rfl, _, _, rfl, _, _, rfl, rfl, ?_⟩
        have hp6 := f4 _ _ hp3
        have sm := sum01 ci fun x hx => by
          rw [← hci, ← ht2] at hx
          obtain ⟨s, _, rfl⟩ := List.mem_map.mp (List.mem_of_mem_drop hx)
          unfold mk01
          split
          · exact .inr rfl
          · exact .inl rfl
        refine ⟨_, rfl, _, rfl, _, rfl, p2, ci, rfl, SqL.of hp6, _, _, rfl, rfl, .inr ⟨by omega, by omega⟩, _, rfl, _, rfl, _, rfl, p2, _, rfl, SqL.of hp6, fun p7 hp7 => ?_⟩
        rw [cutI_to]
        have f5 := same_upd (o := HO.lst ((ci.take rr).map V.int)) hp7
        refine ⟨p7, ci.take rr, rfl, SqL.of upd_same, _, _, rfl, rfl, _, _, rfl, rfl, _, rfl, fin _ ?_ _ (f2.trans (f3.trans (f4.trans f5)))⟩
        unfold goodN
        rw [gl, if_neg (by omega), ← e2, ht2]
        dsimp only
        rw [hci, cyc_eq ci (by omega), hmm, hrr]
end
end Kw


set_option Elab.async false
set_option linter.all false
set_option maxRecDepth 100000
set_option maxHeartbeats 4000000
namespace Kw
open PySem PySem.Spec PyProof.Rows L2
abbrev sRnd : Stmt := top 45
abbrev sTrd : Stmt := top 46
abbrev sFr : Stmt := top 47
abbrev sNRd : Stmt := top 48
abbrev sNCt : Stmt := top 49
structure MethT (P : Program) (w : World) (K : PySem.W.Frag) (mg : Str → Option Value) (base : Heap) (CC : Addr) (m : Str) (n : Nat) (ps : List Str) (sp : Sp) (g : Addr) (fd : FuncData) : Prop where
  M : Meth K CC m g
  G : FnOk P w K mg base CX0 n g fd ps sp
  b : Binds K fd ps []
  m : Meth K CC m g
structure MkT (P : Program) (w : World) (K : PySem.W.Frag) (mg : Str → Option Value) (base : Heap) (CT g : Addr) (fd : FuncData) : Prop where
  M : Mk K CT g
  G : FnOk P w K mg base CX0 6 g fd ["self", "state", "deeds", "count"] (spTInit K CT)
  m : mg "Trace" = some (.ref CT)
  b : Binds K fd ["self", "state", "deeds", "count"] []
/-- over enumerate of a list, with the ends by name -/
theorem for_enumN {K : PySem.W.Frag} {a : Addr} {xs : List V} {g : TG} {tb : TS} {nx : L2.St → Hp → Prop} {rt : VK} {σ : L2.St} {H : Hp} (Pv : Nat → L2.St → Hp → Prop) (h0 : Pv 0 σ H) (hl : ∀ i σ H, i ≤ xs.length → Pv i σ H → SqL K H a xs)
    (hs : ∀ i x σ H T, xs[i]? = some x → Pv i σ H → H T = none → g (.ref T) σ (upd H T (.tup [.int (i : Nat), x])) fun σ2 H2 => tb { nx := Pv (i + 1), rt := rt, bk := nx, ct := Pv (i + 1) } σ2 H2)
    (hd : ∀ σ H, Pv xs.length σ H → nx σ H) :
    ∃ W : Nat → Nat → L2.St → Hp → Prop, (∃ m, W 0 m σ H) ∧ ∀ i m σ H, W i m σ H →
      ((Ite K a).stop i H ∧ nx σ H) ∨ ((Ite K a).go i H ∧ ∃ N : L2.St → Hp → Prop, (∀ σ' H', N σ' H' → ∃ m', m' < m ∧ W (i + 1) m' σ' H') ∧ ∀ x H', (Ite K a).yld i H x H' → g x σ H' fun σ2 H2 => tb { nx := N, rt := rt, bk := nx, ct := N } σ2 H2) :=
  for_enumL (D := ⟨nx, rt, nx, nx⟩) Pv h0 hl hs hd
section
variable {P : Program} {w : World} {K : PySem.W.Frag} {mg : Str → Option Value} {base : Heap}
theorem scNRd : FnScope ["house", "deeds", "index", "deed"] ["house", "deeds"] (defScope sNRd) := ⟨rfl, rfl, rfl, by decide +kernel, rfl, by decide +kernel, by decide +kernel⟩
/-! ### need_count -/
theorem scNCt : FnScope ["count"] ["count"] (defScope sNCt) := ⟨rfl, rfl, rfl, by decide +kernel, rfl, by decide +kernel, by decide +kernel⟩
/-! ### rounds, true_rounds, first_round -/
structure RdIn (K : PySem.W.Frag) (C CW : Addr) (H : Hp) (a h t : Addr) (xs : List V) (d0 d : Hs) (es : List Dd) (sts : List Hs) (e : (Hs × Nat) ⊕ Nat) : Prop where
  wd : WorldAt K CW H a h d
  hh : HouseAt K C H h d0
  ls : H t = some (.lst xs)
  dd : DpAll K H xs (es.map ddD)
  sh : Shp d0 d
  kn : KnAll d es
  wf : Wf d
  fr : Four d
  lsd : Ls d
  l0 : 0 < es.length
  l1 : es.length ≤ 12
  full : Full d es sts e
theorem RdIn.same {K : PySem.W.Frag} {C CW : Addr} {H H' : Hp} {a h t : Addr} {xs : List V} {d0 d : Hs} {es : List Dd} {sts : List Hs} {e : (Hs × Nat) ⊕ Nat} (x : RdIn K C CW H a h t xs d0 d es sts e) (k : Same H H') : RdIn K C CW H' a h t xs d0 d es sts e :=
  { x with wd := x.wd.same k, hh := x.hh.nl (nl_same k), ls := k _ _ x.ls, dd := Dp.sames k _ _ x.dd }
theorem RdIn.ok {K : PySem.W.Frag} {C CW : Addr} {H : Hp} {a h t : Addr} {xs : List V} {d0 d : Hs} {es : List Dd} {sts : List Hs} {e : (Hs × Nat) ⊕ Nat} (x : RdIn K C CW H a h t xs d0 d es sts e) : ∀ e ∈ es, Sm e ∧ unkOf d0 e = "" := fun e he => by
  obtain ⟨h1, h2, h3⟩ := x.kn e he
  exact ⟨h3, by rw [unk_shp x.sh]; exact unk_of h1 h2⟩
theorem RdIn.len {K : PySem.W.Frag} {C CW : Addr} {H : Hp} {a h t : Addr} {xs : List V} {d0 d : Hs} {es : List Dd} {sts : List Hs} {e : (Hs × Nat) ⊕ Nat} (x : RdIn K C CW H a h t xs d0 d es sts e) : sts.length ≤ 1296 := x.full.ch.len x.wf x.kn x.fr
theorem scRnd : FnScope ["world", "deeds", "count"] ["world", "deeds", "count"] (defScope sRnd) := ⟨rfl, rfl, rfl, by decide +kernel, rfl, by decide +kernel, by decide +kernel⟩
theorem scTrd : FnScope ["world", "deeds", "sight", "count"] ["world", "deeds", "sight", "count"] (defScope sTrd) := ⟨rfl, rfl, rfl, by decide +kernel, rfl, by decide +kernel, by decide +kernel⟩
theorem scFr : FnScope ["world", "deeds", "sight", "number", "state"] ["world", "deeds", "sight"] (defScope sFr) := ⟨rfl, rfl, rfl, by decide +kernel, rfl, by decide +kernel, by decide +kernel⟩
end
end Kw


set_option Elab.async false
set_option linter.all false
set_option maxRecDepth 100000
set_option maxHeartbeats 4000000
/-! lambdas in lists: a lambda as a tracked object, made with or without a default, called from a def that got it -/
namespace LmX
open PySem PySem.Spec PyProof.Rows L2 LamX
/-- what a lambda's object is -/
def LamO (f : Addr) (q : Str) (ps : Arguments) (b : Expr) (sc : Scope) (cl : List (Str × Addr)) (dV : Value) (c : Addr) : HO :=
  .ext fun h => ∃ doc pm ct, h.get? f = some (PySem.W.kdv_obj "<lambda>" q ps (.expr b) sc cl dV doc pm c ct)
/-- the tuple of its defaults -/
def DvO (t : Addr) (dv : List Value) : HO := .ext fun h => h.get? t = some (PySem.W.kdv_tup dv)
/-- the ext-objects stay -/
def KeepX (H H' : Hp) : Prop := ∀ b φ, H b = some (.ext φ) → H' b = some (.ext φ)
theorem KeepX.refl (H : Hp) : KeepX H H := fun _ _ h => h
theorem KeepX.trans {H1 H2 H3 : Hp} (a : KeepX H1 H2) (b : KeepX H2 H3) : KeepX H1 H3 := fun c φ h => b c φ (a c φ h)
theorem KeepX.of {H1 H2 : Hp} (e : ∀ b o, H1 b = some o → H2 b = some o) : KeepX H1 H2 := fun b _ h => e b _ h
theorem KeepX.ofN {H1 H2 : Hp} (e : ExtN H1 H2) : KeepX H1 H2 := fun b φ h => e b _ h (fun ps z => by cases z)
theorem KeepX.upd {H : Hp} {a : Addr} {o o' : HO} (h : H a = some o) (n : ∀ φ, o ≠ .ext φ) : KeepX H (L2.upd H a o') := fun b φ e => by
  rw [upd_ne (fun z => by rw [z, h] at e; exact n φ (Option.some.inj e))]
  exact e
/-! ### the maker's cells, seen from elsewhere -/
structure CFs (X : Cx) (σ : L2.St) (H : Hp) (h : Heap) : Prop where
  ok : X.Ok
  len : σ.length = X.N.length
  look : ∀ (i : Nat) (y : Str) (v : V), X.N[i]? = some y → σ[i]? = some (some v) → (X.env.scope.names.lookup y = some .cell ∨ X.env.scope.names.lookup y = some .free) → ∃ u c, RelV v u ∧ X.env.cells.lookup y = some c ∧ h.IsCell c (some u)
  cell : ∀ y c, X.env.cells.lookup y = some c → (∃ v, h.IsCell c v) ∧ H c = none
theorem CFs.of {X : Cx} {pins : List (Addr × Obj)} {σ : L2.St} {H : Hp} {s : Shared} (I : Inv X pins σ H s) : CFs X σ H s.heap := by
  refine ⟨I.ok, I.len, fun i y v e1 e2 hk => ?_, fun y c e => ⟨I.cell y c e, I.freeC y c e⟩⟩
  obtain ⟨m, _, hl⟩ := I.loc
  obtain ⟨u, r, q⟩ := hl i y v e1 e2 (.inr hk)
  rcases q with ⟨z, _⟩ | ⟨_, c, e, z⟩
  · have z : X.env.scope.names.lookup y = some .local := z
    rcases hk with k | k <;> rw [k] at z <;> cases z
  · exact ⟨u, c, r, e, z⟩
theorem CFs.go {X : Cx} {σ : L2.St} {H H' : Hp} {h h' : Heap} {fs ex : List Addr} (C : CFs X σ H h) (u : Un fs ex H H' h h') (n : ∀ y c, X.env.cells.lookup y = some c → c ∉ ex) : CFs X σ H' h' := by
  have st : ∀ {y c v}, X.env.cells.lookup y = some c → h.IsCell c v → h'.IsCell c v := fun {y c v} e ⟨o, ho, hd⟩ => by
    obtain ⟨sl, z⟩ := u.any ho (C.cell y c e).2 (n y c e)
    exact ⟨_, z, hd⟩
  refine ⟨C.ok, C.len, fun i y v e1 e2 hk => ?_, fun y c e => ?_⟩
  · obtain ⟨w, c, r, e, z⟩ := C.look i y v e1 e2 hk
    exact ⟨w, c, r, e, st e z⟩
  · obtain ⟨⟨v, z⟩, f⟩ := C.cell y c e
    have z2 := st e z
    obtain ⟨o, ho, _⟩ := z
    exact ⟨⟨v, z2⟩, u.free c o ho f (n y c e)⟩
/-! ### the lambda's names -/
/-- captured ones, globals, and parameters that the maker has no name for -/
structure LamN (N : List Str) (sc scope : Scope) : Prop where
  kind : scope.kind = .function
  co : scope.isCoroutine = false
  gen : scope.isGenerator = false
  own : ∀ y ∈ scope.names, y.2 ≠ .cell ∧ (y.2 = .local → y.1 ∉ N)
  free : ∀ y ∈ scope.names, y.2 = .free → sc.names.lookup y.1 = some .cell ∨ sc.names.lookup y.1 = some .free
def lamNB (N : List Str) (sc scope : Scope) : Bool :=
  decide (scope.kind = .function) && !scope.isCoroutine && !scope.isGenerator && (scope.names.all fun y => !decide (y.2 = .cell)) && (scope.names.all fun y => !decide (y.2 = .local) || !decide (y.1 ∈ N)) &&
    scope.names.all fun y => !decide (y.2 = .free) || decide (sc.names.lookup y.1 = some .cell) || decide (sc.names.lookup y.1 = some .free)
theorem lamN_by {N : List Str} {sc scope : Scope} (h : lamNB N sc scope = true) : LamN N sc scope := by
  unfold lamNB at h
  simp only [Bool.and_eq_true, Bool.or_eq_true, Bool.not_eq_true', decide_eq_true_eq, decide_eq_false_iff_not, List.all_eq_true] at h
  obtain ⟨⟨⟨⟨⟨a, b⟩, c⟩, d⟩, e⟩, g⟩ := h
  refine ⟨a, b, c, fun y hy => ⟨d y hy, fun z => (e y hy).resolve_left (fun n => n z)⟩, fun y hy z => ?_⟩
  rcases g y hy with (k | k) | k
  · exact absurd z k
  · exact .inl k
  · exact .inr k
theorem LamN.has {X : Cx} {scope : Scope} (L : LamN X.N X.env.scope scope) (ok : X.Ok) (y : Str × NameKind) (hy : y ∈ scope.names) (e : y.2 = .free) : ∃ c, X.env.cells.lookup y.1 = some c :=
  ok.has _ (L.free y hy e)
/-- the body's beginning -/
theorem lam_in {X : Cx} {A : Around} {outer : List Env} {E : XK} {scope : Scope} {f c' : Addr} {h₁ : Heap} {tk : Nat} {σ : L2.St} {HZ : Hp} {s1 : Shared} {m : Str → Option Value} (C : CFs X σ HZ s1.heap) (L : LamN X.N X.env.scope scope)
    (e0 : Env0 X.prog X.w X.K X.mg X.base A outer s1 HZ) (hA : A.handled = none) (hns : h₁.Ns s1.heap.objs.size m) (kp : ∀ b o, s1.heap.get? b = some o → h₁.get? b = some o) :
    Inv (lamCx X A outer s1 HZ E scope f c') [] σ HZ { s1 with heap := h₁, toks := tk } := by
  have back : ∀ {y c}, (cloFrom X.env.cells scope.names []).lookup y = some c → X.env.cells.lookup y = some c := fun {y c} e => by
    rcases cloFrom_mem (PySem.mem_of_lookup e) with z | ⟨z, r⟩
    · exact absurd z (by simp)
    · obtain ⟨c2, h2⟩ := L.has C.ok _ z rfl
      have h2 : X.env.cells.lookup y = some c2 := h2
      rw [show c = c2 from by rw [r, h2] <;> rfl]
      exact h2
  have fore : ∀ {y}, scope.names.lookup y = some .free → ∃ c, (cloFrom X.env.cells scope.names []).lookup y = some c := fun {y} e => mem_lookup (cloFrom_has (cells := X.env.cells) (acc := []) (PySem.mem_of_lookup e))
  have no : ∀ b : Addr, b ∉ (lamCx X A outer s1 HZ E scope f c').ex := fun b => by
    show b ∉ ([] : List Addr)
    simp
  have noCell : ∀ {y}, scope.names.lookup y ≠ some .cell := fun {y} e => (L.own _ (PySem.mem_of_lookup e)).1 rfl
  have okL : (lamCx X A outer s1 HZ E scope f c').Ok := {
    mod := e0.mod
    kind := L.kind
    glob := rfl
    blt := rfl
    above := Nat.le_refl _
    inj := fun y z c a b => C.ok.inj y z c (back a) (back b)
    has := fun y hy => by
      rcases hy with hy | hy
      · exact absurd hy noCell
      · exact fore hy
    cab := fun y c z => by
      have z : false = true := z
      cases z
    hd := fun _ => hA
    frames := Around.frames_deeper e0.frames
    stk := .inr ⟨rfl, rfl⟩
    exf := fun b z => absurd z (no b)
    bs := e0.bs
    bsz := e0.bsz
    noex := fun b _ _ => no b
    exfs := fun b z => absurd z (no b)
    funs := e0.funs
    frf := e0.frf }
  refine { ok := okL, os := rfl, bare := e0.bare, base := Un.kept kp, loc := ⟨m, hns, fun i y v e1 e2 e3 => ?_⟩, cell := fun y c e => ?_, free := e0.hok.fresh (Nat.le_refl _), freeC := fun y c e => (C.cell y c (back e)).2, pin := fun q hq => ?_, hok := e0.hok.kept kp, len := C.len }
  · rcases (show Vis scope y from e3) with k | k | k
    · exact absurd (List.mem_of_getElem? e1) ((L.own _ (PySem.mem_of_lookup k)).2 rfl)
    · exact absurd k noCell
    · obtain ⟨c2, h2⟩ := fore k
      obtain ⟨u, c, r, hc, z⟩ := C.look i y v e1 e2 (L.free _ (PySem.mem_of_lookup k) rfl)
      have hh : c = c2 := Option.some.inj (hc.symm.trans (back h2))
      rw [hh] at z
      exact ⟨u, r, .inr ⟨.inr k, c2, h2, z.keeps kp⟩⟩
  · obtain ⟨⟨v, z⟩, _⟩ := C.cell y c (back e)
    exact ⟨v, z.keeps kp⟩
  · exact absurd (show q ∈ ([] : List (Addr × Obj)) ++ [] from hq) (by simp)
end LmX

set_option Elab.async false
set_option linter.all false
set_option maxRecDepth 100000
set_option maxHeartbeats 4000000
namespace LmX
open PySem PySem.Spec PyProof.Rows L2 LamX
section
variable {X : Cx} {pins : List (Addr × Obj)} {σ : L2.St} {H : Hp} {s : Shared}
/-- a table with one more code object -/
theorem tabs_more {T : List (Addr × Str)} {P c : Addr} {q : Str} {ps : Array Value} {pos : Pos} (hT : Tabs T H) (hm : (P, q) ∈ T) (hu : ∀ p ∈ T, p.1 = P → p.2 = q) (hP : H P = some (.tbl ps)) (nC : H c = none) :
    Tabs T (L2.upd (L2.upd H P (.tbl (ps ++ #[rawInt pos.line, rawInt pos.col, .ref c]))) c (CodeO c q)) ∧ ExtN H (L2.upd (L2.upd H P (.tbl (ps ++ #[rawInt pos.line, rawInt pos.col, .ref c]))) c (CodeO c q)) := by
  have ext : ExtN H (L2.upd (L2.upd H P (.tbl (ps ++ #[rawInt pos.line, rawInt pos.col, .ref c]))) c (CodeO c q)) := fun b o e n => by
    rw [upd_ne (ne_of_none e nC)]
    by_cases hb : b = P
    · rw [hb, hP] at e
      exact absurd (Option.some.inj e).symm (n ps)
    · rw [upd_ne hb]
      exact e
  refine ⟨fun p hp => ?_, ext⟩
  obtain ⟨qs, h1, h2, h3⟩ := hT p hp
  by_cases hb : p.1 = P
  · rw [hu p hp hb, hb]
    rw [hu p hp hb] at h3
    rw [hb, hP] at h1
    cases h1
    have eL : (ps ++ #[rawInt pos.line, rawInt pos.col, .ref c]).toList = ps.toList ++ [rawInt pos.line, rawInt pos.col, .ref c] := by simp
    refine ⟨_, by rw [upd_ne (ne_of_none hP nC), upd_same], by rw [eL]; exact PySem.TriplesOk_snoc _ _ _ _ h2, fun p' cv hc => ?_⟩
    rw [eL] at hc
    rcases among_app _ h2 hc with z | z
    · obtain ⟨d, z1, z2⟩ := h3 p' cv z
      exact ⟨d, z1, ext _ _ z2 codeO_ne⟩
    · exact ⟨c, z, upd_same⟩
  · refine ⟨qs, by rw [upd_ne (ne_of_none h1 nC), upd_ne hb]; exact h1, h2, fun p' cv hc => ?_⟩
    obtain ⟨d, z1, z2⟩ := h3 p' cv hc
    exact ⟨d, z1, ext _ _ z2 codeO_ne⟩
/-- a lambda is made, its defaults' value known -/
theorem lam_tail {T : List (Addr × Str)} {c P : Addr} {ps : Arguments} {body : Expr} {scope : Scope} {pos : Pos} {dV : Value} {E : Value → Shared → Prop} {Q : Value → Shared → Prop} (I : Inv X pins σ H s) (TB : TabB X.base X.mg c P) (hcode : X.env.code = .ref c)
    (hm : (P, X.env.qual ++ "<lambda>") ∈ T) (hu : ∀ p ∈ T, p.1 = P → p.2 = X.env.qual ++ "<lambda>") (hT : Tabs T H) (L : LamN X.N X.env.scope scope)
    (h : ∀ (f c' : Addr) (H1 : Hp) (s' : Shared), Inv X pins σ H1 s' → ExtN H H1 → Tabs T H1 → H1 f = some (LamO f (X.env.qual ++ "<lambda>") ps body scope (cloFrom X.env.cells scope.names []) dV c') → H1 c' = some (CodeO c' (X.env.qual ++ "<lambda>")) → Q (.ref f) s') :
    wpAny (model X.prog X.w) X.A (makeTail "<lambda>" (X.env.qual ++ "<lambda>") ps (.expr body) scope X.env dV .none none pos pos.line) Q E s := by
  obtain ⟨tb, hP, ht, ha⟩ := hT _ hm
  have bP : s.heap.BuiltinsAt X.mg P := TB.bm.keeps I.bk
  have oP : s.heap.get? P = some { cls := .none, data := .fields tb } := I.hok P _ hP
  -- behind the making
  have fin : ∀ (H2 : Hp) (h2 : Heap) (t2 t3 : Tok) (doc pm ct : Value) (c' : Addr), Inv X pins σ H2 { s with heap := h2, toks := t2 } → ExtN H H2 → Tabs T H2 → H2 c' = some (CodeO c' (X.env.qual ++ "<lambda>")) →
      Q (.ref h2.objs.size) { s with heap := h2.push (PySem.W.kdv_obj "<lambda>" (X.env.qual ++ "<lambda>") ps (.expr body) scope (cloFrom X.env.cells scope.names []) dV doc pm c' ct), toks := t3 } := fun H2 h2 t2 t3 doc pm ct c' I2 e2 T2 hc => by
    have nF : H2 h2.objs.size = none := I2.hok.fresh (Nat.le_refl _)
    have e3 : ∀ b o, H2 b = some o → (L2.upd H2 h2.objs.size (LamO h2.objs.size (X.env.qual ++ "<lambda>") ps body scope (cloFrom X.env.cells scope.names []) dV c')) b = some o := fun b o e => by
      rw [upd_ne (ne_of_none e nF)]
      exact e
    have put : (h2.push (PySem.W.kdv_obj "<lambda>" (X.env.qual ++ "<lambda>") ps (.expr body) scope (cloFrom X.env.cells scope.names []) dV doc pm c' ct)).get? h2.objs.size = some (PySem.W.kdv_obj "<lambda>" (X.env.qual ++ "<lambda>") ps (.expr body) scope (cloFrom X.env.cells scope.names []) dV doc pm c' ct) := Heap.get?_push_size _ rfl
    refine h h2.objs.size c' _ _ (I2.laid (a := h2.objs.size) (o := LamO h2.objs.size (X.env.qual ++ "<lambda>") ps body scope (cloFrom X.env.cells scope.names []) dV c') (t' := t3) (fun b o e => Heap.get?_push_of_some _ e) (Nat.le_refl _) ⟨⟨doc, pm, ct, put⟩, ⟨_, put⟩, fun ha hb ⟨d, p, k, z⟩ st => ⟨d, p, k, st _ z⟩⟩) (e2.trans (ExtN.of e3)) (Tabs.ext T2 e3) upd_same (e3 _ _ hc)
  cases hc : codeAmong pos tb.toList with
  | some cv =>
    obtain ⟨c', rfl, hco⟩ := ha pos cv hc
    refine PySem.W.kdv_makeTailHit (mg := X.mg) (c := c) (P := P) (ps := tb) (closure_ok (L.has I.ok)) I.ok.glob (I.mod.glob.keeps I.bk) hcode (TB.code.keeps I.bk) oP ht hc bP fun ct doc h' tk kp _ => ?_
    exact fin H h' s.toks tk doc _ ct c' (I.kept (h' := h') (t' := s.toks) kp) (ExtN.refl H) hT hco
  | none =>
    refine PySem.W.kdv_makeTail (mg := X.mg) (c := c) (P := P) (ps := tb) (closure_ok (L.has I.ok)) I.ok.glob (I.mod.glob.keeps I.bk) hcode (TB.code.keeps I.bk) oP ht hc TB.gP bP fun c' ct doc h' tk hx hge hlt hrec htb => ?_
    obtain ⟨c2, oc, vs, t, e2, hoc, hd, hv⟩ := hrec
    cases e2
    have nC : H c' = none := I.hok.fresh hge
    obtain ⟨T1, e1⟩ := tabs_more (pos := pos) hT hm hu hP nC
    exact fin _ h' s.toks tk doc _ ct c' (inv_table (t' := s.toks) (more := #[rawInt pos.line, rawInt pos.col, .ref c']) I hP (fun b o hb e => hx b o hb e) htb hge ⟨oc, vs, t, hoc, hd, hv⟩) e1 T1 upd_same
end
/-! ### lambdas as values -/
/-- what a call without arguments binds -/
def LamB (ps : Arguments) (body : Expr) (scope : Scope) (dV : Value) (dv : List Value) : Prop :=
  ∀ (s : Shared) (q : Str) (cl : List (Str × Addr)) (doc pm cv ct : Value), (dv = [] ∨ ∃ t, dV = .ref t ∧ s.heap.get? t = some (PySem.W.kdv_tup dv)) →
    ∃ binds, BindsTo s (PySem.W.kdv_fn "<lambda>" q ps (.expr body) scope cl dV doc pm cv ct) ⟨[], []⟩ binds ∧ ∀ y ∈ binds, scope.names.lookup y.1 = some .local
/-- f is a lambda of the maker X, its body read as t -/
def LamIs (X : Cx) (k : Nat) (H : Hp) (f : Addr) (t : XK → TE) : Prop :=
  ∃ (ps : Arguments) (body : Expr) (scope : Scope) (dV : Value) (dv : List Value) (c' : Addr), H f = some (LamO f (X.env.qual ++ "<lambda>") ps body scope (cloFrom X.env.cells scope.names []) dV c') ∧ H c' = some (CodeO c' (X.env.qual ++ "<lambda>")) ∧
    (dv = [] ∨ ∃ d, dV = .ref d ∧ H d = some (DvO d dv)) ∧ LamN X.N X.env.scope scope ∧ LamB ps body scope dV dv ∧
    ∀ (A : Around) (outer : List Env) (s : Shared) (H : Hp) (E : XK) (f c' : Addr), Room k (A.deeper (lamEnv X scope s.heap.objs.size f c')) → PE (lamCx X A outer s H E scope f c') body (t E)
theorem LamIs.keep {X : Cx} {k : Nat} {H H' : Hp} {f : Addr} {t : XK → TE} (e : KeepX H H') (x : LamIs X k H f t) : LamIs X k H' f t := by
  obtain ⟨ps, body, scope, dV, dv, c', h1, h2, h3, h4, h5, h6⟩ := x
  refine ⟨ps, body, scope, dV, dv, c', e _ _ h1, e _ _ h2, ?_, h4, h5, h6⟩
  rcases h3 with z | ⟨d, z1, z2⟩
  · exact .inl z
  · exact .inr ⟨d, z1, e _ _ z2⟩
def tLm (X : Cx) (k : Nat) (T : List (Addr × Str)) (t : XK → TE) : TE := fun _ H Q => Tabs T H ∧ ∀ f H1, ExtN H H1 → Tabs T H1 → LamIs X k H1 f t → Q (.ref f) H1
section
variable {X : Cx} {T : List (Addr × Str)} {c P : Addr} {k : Nat} {ps : Arguments} {body : Expr} {scope : Scope} {t : XK → TE} {pos : Pos}
/-- lambda: body -/
theorem pe_lm (TB : TabB X.base X.mg c P) (hcode : X.env.code = .ref c) (hm : (P, X.env.qual ++ "<lambda>") ∈ T) (hu : ∀ p ∈ T, p.1 = P → p.2 = X.env.qual ++ "<lambda>") (L : LamN X.N X.env.scope scope) (hdef : defaultsOf ps X.env = ([], []))
    (hbind : ∀ (q : Str) (cl : List (Str × Addr)) (doc pm cv ct : Value), bindArgs (PySem.W.kdv_fn "<lambda>" q ps (.expr body) scope cl .none doc pm cv ct) ⟨[], []⟩ = pure [])
    (hbody : ∀ (A : Around) (outer : List Env) (s : Shared) (H : Hp) (E : XK) (f c' : Addr), Room k (A.deeper (lamEnv X scope s.heap.objs.size f c')) → PE (lamCx X A outer s H E scope f c') body (t E)) :
    PE X (.Lambda ps body scope pos) (tLm X k T t) := by
  refine ⟨fun pins s σ H Q I ⟨hT, h⟩ => ?_⟩
  refine PySem.W.kla_eval hdef ?_
  rw [makeFunction_eq]
  simp only [List.zip_nil_right, List.filterMap_nil, List.isEmpty_nil, if_true, pure_bind]
  refine lam_tail I TB hcode hm hu hT L fun f c' H1 s' I1 e1 T1 hf hc => ?_
  exact ⟨.ref f, H1, I1, rfl, h f H1 e1 T1 ⟨ps, body, scope, .none, [], c', hf, hc, .inl rfl, L, fun s q cl doc pm cv ct _ => ⟨[], BindsTo.of_eq (hbind q cl doc pm cv ct), by simp⟩, hbody⟩⟩
/-- lambda a=d: body -/
theorem pe_lmD {a : Str} {d : Expr} {td : TE} (hd : PE X d td) (TB : TabB X.base X.mg c P) (hcode : X.env.code = .ref c) (hm : (P, X.env.qual ++ "<lambda>") ∈ T) (hu : ∀ p ∈ T, p.1 = P → p.2 = X.env.qual ++ "<lambda>") (L : LamN X.N X.env.scope scope)
    (hps : ps.defaults = [d]) (hk0 : ps.kw_defaults = []) (ha : scope.names.lookup a = some .local)
    (hbind : ∀ (s : Shared) (q : Str) (cl : List (Str × Addr)) (doc pm cv ct u : Value) (t : Addr), s.heap.get? t = some (PySem.W.kdv_tup [u]) → BindsTo s (PySem.W.kdv_fn "<lambda>" q ps (.expr body) scope cl (.ref t) doc pm cv ct) ⟨[], []⟩ [(a, u)])
    (hbody : ∀ (A : Around) (outer : List Env) (s : Shared) (H : Hp) (E : XK) (f c' : Addr), Room k (A.deeper (lamEnv X scope s.heap.objs.size f c')) → PE (lamCx X A outer s H E scope f c') body (t E)) :
    PE X (.Lambda ps body scope pos) (fun σ H Q => td σ H fun _ H1 => tLm X k T t σ H1 Q) := by
  refine ⟨fun pins s σ H Q I h => ?_⟩
  refine PySem.W.kdv_lam (by rw [hps]; rfl) hk0 ?_
  rw [hps]
  refine PySem.W.kdv_all1 (thn (hd.run pins s σ H _ I h) fun u s1 ⟨v, H1, I1, r, hT, q⟩ => PySem.W.kdv_all0 ?_)
  rw [makeFunction_eq]
  simp only [List.zip_nil_right, List.filterMap_nil, List.isEmpty_nil, if_true, pure_bind, List.isEmpty_cons, Bool.false_eq_true, if_false]
  refine wpAny_bind (wpAny_newTextTuple ?_)
  have nD : H1 s1.heap.objs.size = none := I1.hok.fresh (Nat.le_refl _)
  have e2 : ∀ b o, H1 b = some o → (L2.upd H1 s1.heap.objs.size (DvO s1.heap.objs.size [u])) b = some o := fun b o e => by
    rw [upd_ne (ne_of_none e nD)]
    exact e
  have put : (s1.heap.push (PySem.W.kdv_tup [u])).get? s1.heap.objs.size = some (PySem.W.kdv_tup [u]) := Heap.get?_push_size _ rfl
  have I2 : Inv X pins σ (L2.upd H1 s1.heap.objs.size (DvO s1.heap.objs.size [u])) { s1 with heap := s1.heap.push (PySem.W.kdv_tup [u]), toks := s1.toks } :=
    I1.laid (fun b o e => Heap.get?_push_of_some _ e) (Nat.le_refl _) ⟨put, ⟨_, put⟩, fun ha hb z st => st _ z⟩
  refine lam_tail I2 TB hcode hm hu (Tabs.ext hT e2) L fun f c' H3 s' I3 e3 T3 hf hc => ?_
  refine ⟨.ref f, H3, I3, rfl, q f H3 ((ExtN.of e2).trans e3) T3 ⟨ps, body, scope, _, [u], c', hf, hc, .inr ⟨_, rfl, e3 _ _ upd_same (fun ps z => by unfold DvO at z; cases z)⟩, L, fun s q cl doc pm cv ct z => ?_, hbody⟩⟩
  rcases z with z | ⟨t, z1, z2⟩
  · cases z
  · cases z1
    exact ⟨[(a, u)], hbind s q cl doc pm cv ct u _ z2, fun y hy => by
      rw [List.mem_singleton] at hy
      rw [hy]
      exact ha⟩
end
end LmX

set_option Elab.async false
set_option linter.all false
set_option maxRecDepth 100000
set_option maxHeartbeats 4000000
namespace LmX
open PySem PySem.Spec PyProof.Rows L2 LamX
section
variable {X : Cx} {σ : L2.St} {H : Hp} {s : Shared}
/-- a(), in a def that got the lambda; entered at s, where the maker's cells are C -/
theorem pe_actN {CXg : CXT} {Eg : XK} {Ng : List Str} {qg : Str} {sg : Scope} {g f : Addr} {cdg : Value} {k i : Nat} {a : Str} {pn : List (Addr × Obj)} {xe : Value → Shared → Prop} {W : WX} {E : XK} {t : XK → TE} {p1 p2 : Pos} (C : CFs X σ H s.heap)
    (tk : Takes ((cxOf CXg X.prog X.w X.K X.mg X.base Ng qg sg g cdg X.A X.stack s H Eg).tr pn xe) W) (hW : ∀ cls d σ' H', E cls d H' → W cls d σ' H') (hr : Room (k + 1) (X.A.deeper (envOfC qg sg s.heap.objs.size g cdg)))
    (hN : Ng[i]? = some a) (hv : Vis sg a) (hd : (a == ("__debug__" : Str)) = false := by decide) (hcd : (a == ("__classdict__" : Str)) = false := by decide) :
    PE ((cxOf CXg X.prog X.w X.K X.mg X.base Ng qg sg g cdg X.A X.stack s H Eg).tr pn xe) (.Call (.Name a p1) [] [] p2) (fun σZ HZ Q => σZ[i]? = some (some (.ref f)) ∧ LamIs X k HZ f t ∧ t E σ HZ Q) := by
  refine ⟨fun pz sZ σZ HZ Q IZ ⟨hs, hl, ht⟩ => ?_⟩
  refine wpAny_Call_Name_kw (thn ((pe_var (pos := p1) (i := i) hN hv hd hcd).run pz sZ σZ HZ (fun v H1 => v = .ref f ∧ H1 = HZ) IZ ⟨.ref f, hs, rfl, rfl⟩) fun u s1 ⟨v, H1, I1, r1, ev, eH⟩ => ?_)
  subst ev eH
  obtain rfl : u = Value.ref f := r1
  obtain ⟨ps, body, scope, dV, dv, c', hf, hc, hdv, L, hb, hbody⟩ := hl
  obtain ⟨⟨doc, pm, ct, of1⟩, _, _⟩ := I1.hok f _ hf
  obtain ⟨⟨oc, vs, tq, hoc, hdc, hvc⟩, _, _⟩ := I1.hok c' _ hc
  refine PySem.W.callWith_F0 ⟨_, _, _, _, of1⟩ ?_
  have C1 : CFs X σ H1 s1.heap := C.go (show Un (frs X.stack) [] H H1 s.heap s1.heap from I1.base) (fun _ _ _ => by simp)
  have hdv1 : dv = [] ∨ ∃ t, dV = .ref t ∧ s1.heap.get? t = some (PySem.W.kdv_tup dv) := by
    rcases hdv with z | ⟨d, z1, z2⟩
    · exact .inl z
    · exact .inr ⟨d, z1, (I1.hok d _ z2).1⟩
  obtain ⟨binds, hb1, hb2⟩ := hb s1 (X.env.qual ++ "<lambda>") (cloFrom X.env.cells scope.names []) doc pm (.ref c') ct hdv1
  have rc : codeAny (model X.prog X.w) (X.A.deeper (envOfC qg sg s.heap.objs.size g cdg)) (.call (.ref f) ⟨[], []⟩) (CR (L2.CX X.prog X.w) (envOfC qg sg s.heap.objs.size g cdg :: X.stack) X.prog X.w H1 s1 Q E) s1 := by
    refine PySem.W.kla_callFunE hr.depth of1 rfl L.co L.gen rfl ⟨c', oc, vs, tq, rfl, hoc, hdc, hvc⟩ (hb1 _ _ _ _ ?_)
    refine wpAny_newFunctionEnv (fun y hy => (L.own y hy).1) hb2 (fun h₁ hns hsb => ⟨I1.nolimit.fresh _ hsb, ?_⟩) L.kind
    have kp : ∀ b o, s1.heap.get? b = some o → h₁.get? b = some o := fun b o e => hsb.extBut b o (Nat.ne_of_lt (Heap.lt_size e)) (Heap.get?_push_of_some _ e)
    have J : Inv (lamCx X (X.A.deeper (envOfC qg sg s.heap.objs.size g cdg)) (envOfC qg sg s.heap.objs.size g cdg :: X.stack) s1 H1 E scope f c') [] σ H1 { s1 with heap := h₁, toks := s1.toks + binds.length } := lam_in C1 L I1.env0 hr.hd hns kp
    refine PySem.W.kla_codeExpr (wpAny_mono ((hbody _ _ s1 H1 E f c' (hr.deeper _)).run [] _ _ H1 Q J ht) (fun v s' hq => ?_) fun e s' hq => hq)
    obtain ⟨w', H', J', rv, q⟩ := hq
    exact ⟨w', H', J'.os, J'.bare, J'.base, J'.hok, rv, q⟩
  have hx : Passes (L2.CX X.prog X.w) ((cxOf CXg X.prog X.w X.K X.mg X.base Ng qg sg g cdg X.A X.stack s H Eg).tr pn xe) E := passes_call tk hW
  refine wpAny_call (codeAny_mono rc fun r s' hq => ?_)
  rcases r with e | fl
  · exact hx pz σZ H1 s1 e s' I1 hq
  · cases fl with
    | ret u => exact I1.after hq
    | next => exact False.elim hq
    | brk => exact False.elim hq
    | cont => exact False.elim hq
end
/-- the def that calls what it got, the lambda known by Kn -/
def GivesN (X : Cx) (Ng : List Str) (x : Str) (sg : Scope) (g : Addr) (cdg : Value) (bg : List Stmt) (a : Str) (TT : (XK → Hp → VK → Prop) → Hp → VK → Prop) : Prop :=
  ∀ (f : Addr) (s : Shared) (H : Hp) (Q : VK) (tl : XK → Hp → VK → Prop) (Kn : Hp → Prop),
    (∀ (W : WX) (pn : List (Addr × Obj)) (xe : Value → Shared → Prop) (E : XK) (p1 p2 : Pos), Takes ((cxOf C8.CX0 X.prog X.w X.K X.mg X.base Ng x sg g cdg X.A X.stack s H C8.E0).tr pn xe) W → (∀ cls d σ' H', E cls d H' → W cls d σ' H') →
      PE ((cxOf C8.CX0 X.prog X.w X.K X.mg X.base Ng x sg g cdg X.A X.stack s H C8.E0).tr pn xe) (.Call (.Name a p1) [] [] p2) (fun σZ HZ Q => σZ[0]? = some (some (.ref f)) ∧ Kn HZ ∧ tl E HZ Q)) →
    Kn H → TT tl H Q →
    ∃ t, PSs (cxOf C8.CX0 X.prog X.w X.K X.mg X.base Ng x sg g cdg X.A X.stack s H C8.E0).nox bg t ∧ t { nx := fun _ H' => Q .non H', rt := Q } (L2.start Ng [.ref f]) H
/-- the same maker, elsewhere -/
abbrev alt (X : Cx) (s0 : Shared) (H0 : Hp) (env : Env) (outer : List Env) (ex : List Addr) (fn : Str → Bool) (calm : Bool) (pn : List (Addr × Obj)) (xe : Value → Shared → Prop) : Cx := { X with s_0 := s0, H_0 := H0, env := env, outer := outer, ex := ex, fn := fn, calm := calm, pn := pn, xe := xe }
/-- x(e), e a lambda of X; in Y, from where X's cells are seen -/
theorem pe_fcall {X : Cx} {s0 : Shared} {H0 : Hp} {env : Env} {outer : List Env} {ex : List Addr} {fn : Str → Bool} {calm : Bool} {pnY : List (Addr × Obj)} {xeY : Value → Shared → Prop} {sgm : L2.St → L2.St} {x a : Str} {g : Addr} {k : Nat} {pg : Arguments} {bg : List Stmt} {sg : Scope} {dV kV doc pm cdv ct oc : Value} {an od : Option Addr} {osl : Array (Option Value)} {Ng : List Str}
    {TT : (XK → Hp → VK → Prop) → Hp → VK → Prop} {e : Expr} {te : TE} {p pos : Pos}
    (hC : ∀ pins s σ H, Inv (alt X s0 H0 env outer ex fn calm pnY xeY) pins σ H s → CFs X (sgm σ) H s.heap) (he : PE (alt X s0 H0 env outer ex fn calm pnY xeY) e te)
    (hg : Gl (alt X s0 H0 env outer ex fn calm pnY xeY) x) (hm : X.mg x = some (.ref g)) (hk : PySem.W.keepIn X.K (.ref g) = true)
    (lk : X.K.lookup g = some ⟨oc, od, .func (PySem.W.fnOf x x pg bg sg dV kV doc pm an cdv ct), osl⟩) (hcg : PySem.W.codeIn X.K cdv x = true) (hb : L2.Binds X.K (PySem.W.fnOf x x pg bg sg dV kV doc pm an cdv ct) [a] []) (Sg : FnScope Ng [a] sg) (hNg : Ng[0]? = some a) (hva : Vis sg a)
    (hG : GivesN X Ng x sg g cdv bg a TT) (hr : Room (k + 2) X.A)
    (hst : starEach [e] env = [(false, eval e env)] := by rfl) (hdb : (x == ("__debug__" : Str)) = false := by decide) (hd : (a == ("__debug__" : Str)) = false := by decide) (hcd : (a == ("__classdict__" : Str)) = false := by decide) :
    PE (alt X s0 H0 env outer ex fn calm pnY xeY) (.Call (.Name x p) [e] [] pos) (fun σ H Q => te σ H fun v H1 => ∃ f t, v = .ref f ∧ LamIs X k H1 f t ∧ TT (fun E H' Q' => t E (sgm σ) H' Q') H1 Q) := by
  refine ⟨fun pins s σ H Q I h => ?_⟩
  refine wpAny_Call_Name_kw (ld_glob I hg hm ?_ hdb)
  refine PySem.W.callWith_K (h₀ := X.base) I.ok.mod.kin hk ?_ hst (by rfl)
  show wpAny _ _ (spliced (backTo pos (starEach [e] env))) _ _ s
  rw [hst]
  show wpAny _ _ (spliced ((false, eval e env) :: backTo pos [])) _ _ s
  refine Calls.spliced_cons (thn (he.run pins s σ H _ I h) fun u s1 ⟨v, H1, I1, r1, f, t, ev, hl, q⟩ => ?_)
  subst ev
  obtain rfl : u = Value.ref f := r1
  refine Calls.spliced_nil ⟨I1.kIn, ?_⟩
  have rc : codeAny (model X.prog X.w) X.A (.call (.ref g) ⟨[.ref f], []⟩) (CR C8.CX0 X.stack X.prog X.w H1 s1 Q C8.E0) s1 := by
    refine run_ofS (N := Ng) (ps := [a]) (us := [.ref f]) (vs := [.ref f]) lk hcg Sg hr I1.env0 (hb s1 [.ref f] I1.kIn rfl) (.cons rfl .nil) rfl fun hr' => ?_
    obtain ⟨t', ht', hq'⟩ := hG f s1 H1 Q (fun E H' Q' => t E (sgm σ) H' Q') (fun HZ => LamIs X k HZ f t) (fun W pn xe E p1 p2 tk hW => pe_actN (i := 0) (hC _ _ _ _ I1) tk hW hr' hNg hva hd hcd) hl q
    exact ⟨t', ht'.nox, hq'⟩
  refine wpAny_call (codeAny_mono rc fun r s2 hq => ?_)
  rcases r with e | fl
  · exact (show False from hq).elim
  · cases fl with
    | ret u => exact I1.after hq
    | next => exact False.elim hq
    | brk => exact False.elim hq
    | cont => exact False.elim hq
end LmX

set_option Elab.async false
set_option linter.all false
set_option maxRecDepth 100000
set_option maxHeartbeats 4000000
namespace LmX
open PySem PySem.Spec PyProof.Rows L2 LamX
theorem inv_tr {X : Cx} {pn : List (Addr × Obj)} {xe : Value → Shared → Prop} {pins : List (Addr × Obj)} {σ : L2.St} {H : Hp} {s : Shared} (hp : X.pn = pn) (I : Inv X pins σ H s) : Inv (X.tr pn xe) pins σ H s := by
  subst hp
  exact { ok := { mod := I.ok.mod, kind := I.ok.kind, glob := I.ok.glob, blt := I.ok.blt, above := I.ok.above, inj := I.ok.inj, has := I.ok.has, cab := I.ok.cab, hd := I.ok.hd, frames := I.ok.frames, stk := I.ok.stk, exf := I.ok.exf, bs := I.ok.bs, bsz := I.ok.bsz, noex := I.ok.noex, exfs := I.ok.exfs, funs := I.ok.funs, frf := I.ok.frf }
          os := I.os, bare := I.bare, base := I.base, loc := I.loc, cell := I.cell, free := I.free, freeC := I.freeC, pin := I.pin, hok := I.hok, len := I.len }
theorem inv_untr {X : Cx} {pn : List (Addr × Obj)} {xe : Value → Shared → Prop} {pins : List (Addr × Obj)} {σ : L2.St} {H : Hp} {s : Shared} (hp : X.pn = pn) (I : Inv (X.tr pn xe) pins σ H s) : Inv X pins σ H s := by
  subst hp
  have z := inv_tr (X := X.tr X.pn xe) (xe := X.xe) rfl I
  exact z
section
variable {X : Cx}
/-- a list comprehension whose element is read where the maker's own state is known; what it lets out goes by xb -/
theorem lc_in {pins : List (Addr × Obj)} {s : Shared} {σ : L2.St} {H : Hp} {Q : VK} {elt tg iter : Expr} {ifs : List Expr} {scope : Scope} {own : List (Str × Nat)} {pos pos' : Pos} {wi : TI} {g : TG} {tt : TT} {te : TE} {use : Option (Value → Sem Unit)} {Qf : Value → Shared → Prop}
    (xb : Env → Shared → Hp → List Addr → Value → Shared → Prop) (hc : X.calm = true) (hN : X.N.Nodup) (I : Inv X pins σ H s) (hi : PI X tg iter wi) (ok : BlkOk X.N X.env.scope scope own) (hs : ∀ x, foldedSetIterable iter X.env x = pure x) (h : tLc wi g tt te (own.map (·.2)) σ H Q)
    (hg : ∀ (s : Shared) (H : Hp) (C : Addr) (cl : List (Str × Addr)) (fp : List Addr), PG (X.blk s H scope (compEnvC scope cl C X.env) fp) tg g) (ht : ∀ (s : Shared) (H : Hp) (C : Addr) (cl : List (Str × Addr)) (fp : List Addr), PTs (X.blk s H scope (compEnvC scope cl C X.env) fp) ifs tt)
    (he : ∀ (s : Shared) (H : Hp) (C : Addr) (cl : List (Str × Addr)) (fp : List Addr), Inv X pins σ H s → (∀ b ∈ fp, FpOk X pins H b) → PE ((X.blk s H scope (compEnvC scope cl C X.env) fp).tr [] (xb (compEnvC scope cl C X.env) s H fp)) elt te)
    (hE : ∀ (s : Shared) (H : Hp) (D : Addr) (cl : List (Str × Addr)) (fp : List Addr) (e : Value) (s' : Shared), Inv X pins σ H s → (∀ b ∈ fp, FpOk X pins H b) → xb (compEnvC scope cl s.heap.objs.size X.env) s H fp e s' →
      notedBy (model X.prog X.w) X.A (compEnvC scope cl s.heap.objs.size X.env) (fun e s'' => compPost (model X.prog X.w) X.A X.xe use Qf (.ref D) s.heap.objs.size (.error e) s'') e s')
    (hR : ∀ D C s' m H', Inv X pins σ H' s' → Q (.ref D) H' → s'.heap.Ns C m → FpOk X pins H' C → compPost (model X.prog X.w) X.A X.xe use Qf (.ref D) C (.ok .next) s') :
    wpAny (model X.prog X.w) X.A (comprehension (.ListComp elt [⟨tg, iter, ifs, 0⟩] scope pos) scope X.env pos' (newList []) false (eval iter X.env) use) Qf X.xe s := by
  have caught : ∀ y ∈ scope.names, y.2 = .free → ∃ c, X.env.cells.lookup y.1 = some c := fun y hy e => I.ok.has _ (ok.free y hy e)
  refine wpAny_comprehension_free (use := use) rfl hs (closure_ok caught) ok.kind (fun y hy e => by rw [ok.uniq y hy, e]) (thn (hi.run pins s σ H _ I h) fun xv s1 hx => thn hx fun itv s2 h2 => ?_)
  obtain ⟨it, fp, tn, J, H2, rfl, I2, T, at0, fp2, q⟩ := h2
  refine wpAny_newObj_type (newEnv_comp ?_) (by show 0 ≤ sizeLine; decide)
  -- the list to be filled
  obtain ⟨D, hD⟩ : ∃ D, s2.heap.objs.size = D := ⟨_, rfl⟩
  obtain ⟨W, ⟨m0, w0⟩, turn⟩ := q D (I2.hok.fresh (Nat.le_of_eq hD))
  obtain ⟨s3, hs3⟩ : ∃ s3 : Shared, ({ s2 with heap := s2.heap.push { cls := .type "list", data := .seq ([] : List Value).toArray } } : Shared) = s3 := ⟨_, rfl⟩
  have p3 : s3.heap = s2.heap.push { cls := .type "list", data := .seq ([] : List Value).toArray } := by rw [← hs3]
  obtain ⟨H3, hH3⟩ : ∃ H3, L2.upd H2 D (.lst []) = H3 := ⟨_, rfl⟩
  have I3 : Inv X pins σ H3 s3 := by
    subst hs3 hH3
    refine I2.laid (t' := s2.toks) (fun b o e => Heap.get?_push_of_some _ e) (Nat.le_of_eq hD) ⟨Nat.zero_le _, [], 0, .nil, ?_⟩
    rw [← hD]
    exact Heap.get?_push_size _ rfl
  have small : ∀ b ∈ fp, b < s2.heap.objs.size := fun b hb => by
    obtain ⟨o, e, _⟩ := T.obj _ _ at0 b hb
    exact Heap.lt_size e
  have fp3 : ∀ b ∈ fp, FpOk X pins H3 b := fun b hb => by
    refine ⟨?_, (fp2 b hb).2⟩
    rw [← hH3, upd_ne (by rw [← hD]; exact Nat.ne_of_lt (small b hb))]
    exact (fp2 b hb).1
  have lt3 : ∀ b ∈ fp, b < s3.heap.objs.size := fun b hb => by
    rw [p3, Heap.size_push]
    exact Nat.lt_succ_of_lt (small b hb)
  have at3 : tn 0 s3.heap := T.keep _ _ _ at0 fun b _ o e => by
    rw [p3]
    exact Heap.get?_push_of_some _ e
  obtain ⟨cl, hcl⟩ : ∃ cl, cellsFrom (s3.heap.objs.size + 1) scope.names (cloFrom X.env.cells scope.names []) = cl := ⟨_, rfl⟩
  have I4 := block_start I3 ok hN (fun b hb => ⟨fp3 b hb, lt3 b hb⟩)
  rw [hs3]
  rw [hcl] at I4 ⊢
  obtain ⟨ce, hce⟩ : ∃ ce, compEnvC scope cl s3.heap.objs.size X.env = ce := ⟨_, rfl⟩
  have gg := hg s3 H3 s3.heap.objs.size cl fp
  have gt := ht s3 H3 s3.heap.objs.size cl fp
  have ge := he s3 H3 s3.heap.objs.size cl fp I3 fp3
  have gE := fun e s' => hE s3 H3 D cl fp e s' I3 fp3
  have locC : ce.locals = s3.heap.objs.size := by
    rw [← hce]
    rfl
  rw [hce] at I4 gg gt ge gE
  show codeAny _ _ (.compStart (.ListComp elt [⟨tg, iter, ifs, 0⟩] scope pos) 0 (.ref it) (.ref s2.heap.objs.size) (compEnvC scope cl s3.heap.objs.size X.env)) (compPost (model X.prog X.w) X.A X.xe use Qf (.ref s2.heap.objs.size) s3.heap.objs.size) { s3 with heap := pushCells (s3.heap.push { cls := .type "dict", data := .dict #[] }) scope.names }
  rw [hD, hce]
  obtain ⟨s4, hs4⟩ : ∃ s4 : Shared, ({ s3 with heap := pushCells (s3.heap.push { cls := .type "dict", data := .dict #[] }) scope.names } : Shared) = s4 := ⟨_, rfl⟩
  rw [hs4] at I4 ⊢
  have at4 : tn 0 s4.heap := T.keep _ _ _ at3 fun b _ o e => by
    rw [← hs4]
    exact pushCells_keeps _ _ _ _ (Heap.get?_push_of_some _ e)
  have own4 : ∀ {σ' : L2.St} {H' : Hp} {s' : Shared}, Inv (X.blk s3 H3 scope ce fp) [] σ' H' s' → (∀ b ∈ fp, H' b = none) → ∀ b ∈ fp, FpOk (X.blk s3 H3 scope ce fp) [] H' b := fun {σ' H' s'} I' hn b hb =>
    ⟨hn b hb, (I'.ok.exf b hb).1, I'.ok.exfs b hb, .inl hb, fun x c e => (I'.ok.exf b hb).2 x c e, fun p hp => absurd (show p ∈ ([] : List (Addr × Obj)) ++ [] from hp) (by simp)⟩
  suffices loop : codeAny (model X.prog X.w) X.A (.compLoop (.ListComp elt [⟨tg, iter, ifs, 0⟩] scope pos) 0 (.ref it) (.ref D) ce) (compPost (model X.prog X.w) X.A X.xe use Qf (.ref D) s3.heap.objs.size) s4 from codeAny_compStart_list loop (T.self X.A 0 _ _ _ at4 loop)
  refine compLoop_any (fun n s' => ∃ i H', Inv (X.blk s3 H3 scope ce fp) [] (wipe σ (own.map (·.2))) H' s' ∧ tn i s'.heap ∧ (∀ b ∈ fp, H' b = none) ∧ W i n H') ?_ m0 ⟨0, H3, I4, at4, fun b hb => (fp3 b hb).1, by rw [← hH3]; exact w0⟩
  rintro n s5 ⟨i, H5, I5, at5, n5, w5⟩
  rcases turn i n H5 w5 with ⟨stop, qq⟩ | ⟨go, Nx, hNx, step⟩
  · -- it has come to its end: back to the maker
    refine thnF (T.done (X.blk s3 H3 scope ce fp) rfl rfl rfl hc i [] s5 _ H5 (fun _ _ => False) I5 (own4 I5 n5) at5 stop) fun r s6 ⟨hr, I6⟩ => ?_
    subst hr
    have I7 : Inv X pins σ H5 s6 := I3.call' (ch := fp) I6.os I6.base I6.hok I6.bare fun b hb => ⟨(fp3 b hb).2.2.2.1, (fp3 b hb).2.1, (fp3 b hb).2.2.2.2.1, (fp3 b hb).2.2.2.2.2⟩
    have nC : H5 ce.locals = none := I6.free
    obtain ⟨m, hn, _⟩ := I6.loc
    have hn : s6.heap.Ns ce.locals m := hn
    rw [locC] at hn nC
    exact hR D s3.heap.objs.size s6 m H5 I7 qq hn (I3.fpOk (Nat.le_refl _) nC)
  · refine thnF (T.item (X.blk s3 H3 scope ce fp) rfl rfl rfl hc i [] s5 _ H5 (fun _ _ => False) I5 (own4 I5 n5) at5 go) fun r s6 ⟨u, hr, h6⟩ => ?_
    subst hr
    refine thnF h6 fun _ s7 ⟨x, H7, I7, r7, y7, at7, n7⟩ => ?_
    have P7 := I7.pinned (own4 I7 n7) (T.obj _ _ at7)
    refine thnF (gg.run _ s7 _ H7 x u _ P7 r7 (step x H7 y7)) fun _ s8 ⟨σ8, H8, I8, hw8, q8⟩ => ?_
    refine thnF (gt.run _ s8 σ8 H8 _ I8 q8) fun b s9 ⟨H9, I9, q9⟩ => ?_
    have next : ∀ {s' : Shared} {H' : Hp}, Inv (X.blk s3 H3 scope ce fp) ([] ++ pinsAt fp s7.heap) σ8 H' s' → Nx H' → ∃ m, m < n ∧ ∃ i H', Inv (X.blk s3 H3 scope ce fp) [] (wipe σ (own.map (·.2))) H' s' ∧ tn i s'.heap ∧ (∀ b ∈ fp, H' b = none) ∧ W i m H' := fun {s' H'} I' nx => by
      obtain ⟨m', hm, w'⟩ := hNx H' nx
      have held : ∀ b ∈ fp, ∀ o, s7.heap.get? b = some o → s'.heap.get? b = some o ∧ H' b = none := fun b hb o e => by
        have z := I'.pin (b, o) (List.mem_append_right _ (List.mem_append_right _ (mem_pinsAt hb e)))
        exact ⟨z.1, z.2.1⟩
      have ll : (wipe σ (own.map (·.2))).length = σ8.length := by rw [← hw8, wipe_length]
      refine ⟨m', hm, i + 1, H', (I'.unpinned (pins := [])).weak ll (fun j v e => ?_), T.keep _ _ _ at7 fun b hb o e => (held b hb o e).1, fun b hb => ?_, w'⟩
      · rw [← hw8] at e
        exact (wipe_some e).1
      · obtain ⟨o, e, _⟩ := T.obj _ _ at7 b hb
        exact (held b hb o e).2
    cases b with
    | false =>
      simp only [Bool.false_eq_true, if_false] at q9 ⊢
      exact next I9 q9
    | true =>
      simp only [if_true] at q9 ⊢
      refine wpAny_mono (ge.run _ s9 σ8 H9 _ (inv_tr rfl I9) q9) (fun z s10 ⟨yv, H10, I10, r10, acc, hD10, hz10, nx⟩ => ?_) fun e s' z => gE e s' z
      exact app_ok (X := X.blk s3 H3 scope ce fp) (inv_untr rfl I10) hD10 hz10 r10 fun s11 I11 => next I11 nx
/-- as a value, the element read where X's own state is known; nothing is let out -/
theorem pe_lcI {elt tg iter : Expr} {ifs : List Expr} {scope : Scope} {own : List (Str × Nat)} {pos : Pos} {wi : TI} {g : TG} {tt : TT} {te : L2.St → TE} (hc : X.calm = true) (hN : X.N.Nodup) (hi : PI X tg iter wi) (ok : BlkOk X.N X.env.scope scope own)
    (hg : ∀ (s : Shared) (H : Hp) (C : Addr) (cl : List (Str × Addr)) (fp : List Addr), PG (X.blk s H scope (compEnvC scope cl C X.env) fp) tg g) (ht : ∀ (s : Shared) (H : Hp) (C : Addr) (cl : List (Str × Addr)) (fp : List Addr), PTs (X.blk s H scope (compEnvC scope cl C X.env) fp) ifs tt)
    (he : ∀ (σ0 : L2.St) (s : Shared) (H : Hp) (C : Addr) (cl : List (Str × Addr)) (fp : List Addr), CFs X σ0 H s.heap → (∀ b ∈ fp, ∀ y c, X.env.cells.lookup y = some c → c ≠ b) → PE (X.blk s H scope (compEnvC scope cl C X.env) fp) elt (te σ0)) (hs : ∀ x, foldedSetIterable iter X.env x = pure x := by intro _; rfl) :
    PE X (.ListComp elt [⟨tg, iter, ifs, 0⟩] scope pos) (fun σ H Q => tLc wi g tt (te σ) (own.map (·.2)) σ H Q) := by
  refine ⟨fun pins s σ H Q I h => ?_⟩
  rw [eval_ListComp]
  refine lc_in (fun _ _ _ _ _ _ => False) hc hN I hi ok hs h hg ht (fun s H C cl fp I0 f => he σ s H C cl fp (CFs.of I0) fun b hb => (f b hb).2.2.2.2.1) (fun _ _ _ _ _ _ _ _ _ z => z.elim) fun D C s' m H' I' q hn f => ⟨m, hn, fun h'' sb => ?_⟩
  obtain ⟨f0, f1, f2, f3, f4, f5⟩ := f
  exact ⟨.ref D, H', I'.turned (t' := s'.toks) (fun b o hb e => (sb.2 b hb).trans e) f0 f1 f3 f4 f5, rfl, q⟩
end
end LmX

set_option Elab.async false
set_option linter.all false
set_option maxRecDepth 100000
set_option maxHeartbeats 4000000
namespace Kw
open PySem PySem.Spec PyProof.Rows L2
abbrev sIRd : Stmt := inClass (top 4) 0
theorem scIRd : SupScope ["self", "index"] (defScope sIRd) :=
  ⟨rfl, rfl, rfl, by decide +kernel, by decide +kernel, by decide +kernel, onlyFree_by (by decide +kernel), by decide +kernel, by decide +kernel⟩
section
variable {P : Program} {w : World} {K : PySem.W.Frag} {mg : Str → Option Value} {base : Heap}
/-! ### InvalidRound -/
theorem ok_ird {CX : CXT} {C f : Addr} {fd : FuncData} (T : ExcX P K mg "InvalidRound" "InvalidRound.__init__" sIRd C f fd) (nI : PySem.W.findIn K (.ref C) "index" = some none) :
    FnOk P w K mg base CX 1 f fd ["self", "index"] (spIx C) := by
  obtain ⟨oc, od, kV, doc, pm, an, ct, osl, cc, cda, rfl, lk, hcd, ⟨ccl, cdd, vsC, ccs, fileS, tf, hcode, hvs, hfile⟩, ⟨cl, cld, csl, hcell⟩⟩ := T.ex
  refine fn_super (pl := fun _ => _) T.sup lk hcd rfl rfl hcode hvs hfile hcell scIRd (fun vs H Q E h => ?_) (fun _ => rfl) (fun _ => rfl) (fun _ => rfl) (fun A outer s H vs Q E hr h => ?_)
  · obtain ⟨a, i, rfl, _⟩ := h
    rfl
  · obtain ⟨a, i, rfl, ha, hi0, hi1, k⟩ := h
    refine ⟨_, _, pe_joined (.cons pe_str (.cons (pe_fmt (pv 1)) .nil)), pss_one (ps_ost (pv 0) (pv 1)), ⟨a, rfl, ha⟩, ?_⟩
    have l1 : (Str.empty : Str).length = 0 := rfl
    have l2 : ("wrong at the deed with index " : Str).length = 29 := by decide +kernel
    have l3 := digits_small hi0 hi1
    have l5 := sizeLine_eq
    refine ⟨_, rfl, by rw [str_app]; omega, _, rfl, .inr ⟨i, rfl, log2_small hi0 hi1, _, rfl, by rw [str_app, str_app]; omega, ⟨_, rfl⟩, a, rfl, ha, ?_⟩⟩
    refine ⟨_, rfl, _, rfl, a, C, rfl, T.sup.oex, nI, .inl ⟨ha, fun dx hd ne => ?_⟩⟩
    exact k dx hd ne
theorem ok_irdH {CX : CXT} {C f : Addr} {fd : FuncData} (T : ExcX P K mg "InvalidRound" "InvalidRound.__init__" sIRd C f fd) (nI : PySem.W.findIn K (.ref C) "index" = some none) :
    L2H.FnH P w K mg base CX 1 f fd ["self", "index"] (spIx C) := by
  obtain ⟨oc, od, kV, doc, pm, an, ct, osl, cc, cda, rfl, lk, hcd, ⟨ccl, cdd, vsC, ccs, fileS, tf, hcode, hvs, hfile⟩, ⟨cl, cld, csl, hcell⟩⟩ := T.ex
  refine fn_superH (pl := fun _ => _) T.sup lk hcd rfl rfl hcode hvs hfile hcell scIRd (fun vs H Q E h => ?_) (fun _ => rfl) (fun _ => rfl) (fun _ => rfl) (fun A outer s H vs Q E p hot hr h => ?_)
  · obtain ⟨a, i, rfl, _⟩ := h
    rfl
  · obtain ⟨a, i, rfl, ha, hi0, hi1, k⟩ := h
    refine ⟨_, _, pe_joined (.cons pe_str (.cons (pe_fmt (pv 1)) .nil)), pss_one (ps_ost (pv 0) (pv 1)), ⟨a, rfl, ha⟩, ?_⟩
    have l1 : (Str.empty : Str).length = 0 := rfl
    have l2 : ("wrong at the deed with index " : Str).length = 29 := by decide +kernel
    have l3 := digits_small hi0 hi1
    have l5 := sizeLine_eq
    refine ⟨_, rfl, by rw [str_app]; omega, _, rfl, .inr ⟨i, rfl, log2_small hi0 hi1, _, rfl, by rw [str_app, str_app]; omega, ⟨_, rfl⟩, a, rfl, ha, ?_⟩⟩
    refine ⟨_, rfl, _, rfl, a, C, rfl, T.sup.oex, nI, .inl ⟨ha, fun dx hd ne => ?_⟩⟩
    exact k dx hd ne
/-! ### need_round, whatever it is given -/
/-- the least deed that is wrong, or one too many; or none at all -/
def BadRd (d : Hs) (es : List Dd) (i : Nat) : Prop := (es.length = 0 ∧ i = 0) ∨ (i < es.length ∧ (∀ j, j < i → j < 12 ∧ ∀ e, es[j]? = some e → unkOf d e = "") ∧ (i = 12 ∨ ∃ e, es[i]? = some e ∧ unkOf d e ≠ ""))
def spNRdX (K : PySem.W.Frag) (C X : Addr) : Sp := fun vs H Q E => ∃ (h t : Addr) (xs : List V) (es : List Dd) (d : Hs), vs = [.ref h, .ref t] ∧ HouseAt K C H h d ∧ SqL K H t xs ∧ DpAll K H xs (es.map ddD) ∧ xs.length ≤ 1000 ∧ (∀ e ∈ es, Sm e) ∧
  (∀ i, BadRd d es i → Rx X i H E) ∧ (0 < es.length → es.length ≤ 12 → (∀ e ∈ es, unkOf d e = "") → ∀ H', Same H H' → Q .non H')
theorem ok_nrdX {f gD C X CW fI : Addr} {fd fdD fdI : FuncData} {ce : Str → Addr} {t1 : Tok} (F : Fun K "need_round" "need_round" sNRd f fd) (B : Bt mg) (ND : OnceX P w K mg base "need_deed" 5 ["house", "deed"] (spNDeed K C ce) gD fdD) (mMD : mg "MOST_DEEDS" = some (.int 12 t1)) (mW : mg "WatchError" = some (.ref CW))
    (Ct : Caught K ce X CW) (T : ExcX P K mg "InvalidRound" "InvalidRound.__init__" sIRd X fI fdI) (nI : PySem.W.findIn K (.ref X) "index" = some none) :
    FnOk P w K mg base (L2.CX P w) 6 f fd ["house", "deeds"] (spNRdX K C X) := by
  refine F.okX scNRd (fun vs H Q E h => ?_) (fun cdv A outer s H vs Q E hr h => ?_)
  · obtain ⟨h, t, xs, es, d, rfl, _⟩ := h
    rfl
  · obtain ⟨h, t, xs, es, d, rfl, hh, hs, hd, hl, hm, kE, kQ⟩ := h
    have hr1 : Room 2 _ := hr.mono (by decide)
    have tk : Takes (cxOf (L2.CX P w) P w K mg base ["house", "deeds", "index", "deed"] "need_round" (defScope sNRd) f cdv A outer s H E) (fun cls d _ H => E cls d H) := takes_of rfl rfl rfl rfl
    have lx : xs.length = es.length := by rw [DpAll.len hd, List.length_map]
    refine ⟨_, (pss_cons (ps_for (passes_of rfl) rfl (pi_enumE (by rfl) B.enu (pa_cons (pv 1) pa_nil)) (pg_tup (by rfl) (pgs_cons (pg_name (i := 2) scNRd.nd rfl (.inl rfl)) (pgs_cons (pg_name (i := 3) scNRd.nd rfl (.inl rfl)) pgs_nil))) (pss_cons (ps_if (pt_cmpR op_eq (pv 2) (pe_glob (v := .int 12) rfl mMD ⟨_, rfl⟩) (nomark _)) (pss_one (ps_raise rfl tk (pmk_oex T.sup.oex T.at_ T.ty (ok_ird (CX := CX0) T nI) hr1 T.bind .nil pass0 rfl T.mgC (pa_cons (pv 2) pa_nil)))) pss_nil) (pss_one (L2H.ps_try_onlyX rfl rfl ⟨rfl, by decide, .inl mW⟩ (fun hd => L2H.passesAt_of rfl hd) tk (fun W pn xe tkN tkP po => pss_one (ps_expr (pe_callS ND.G hr rfl ND.m ND.k ND.b (fun σ => L2N.passAt tkN σ) (pa_cons (pv 0) (pa_cons (pv 3) pa_nil))))) (fun a oe cls d pn hz hf tkS hot => pss_one (L2H.ps_raiseHN hot tkS (L2H.pmk5_oexH T.sup.oex T.at_ T.ty (ok_irdH (CX := CX0) T nI) (L2H.roomH_mark hr1 _) hot T.bind pass0 rfl T.mgC (pa_cons (pv 2) pa_nil))))))))
        (pss_one (ps_if (pt_cmpR op_eq (pe_callB call_len_seq (by rfl) B.len PySem.boot_len (pa_cons (pv 1) pa_nil)) pe_int (nomark _)) (pss_one (ps_raise rfl tk (pmk_oex T.sup.oex T.at_ T.ty (ok_ird (CX := CX0) T nI) hr1 T.bind .nil pass0 rfl T.mgC (pa_cons pe_int pa_nil)))) pss_nil))), ?_⟩
    -- a turn
    let PV : Nat → L2.St → Hp → Prop := fun i σ H2 => ∃ v1 v2 : Option V, σ = [some (.ref h), some (.ref t), v1, v2] ∧ Same H H2 ∧ ∀ j, j < i → j < 12 ∧ ∀ e, es[j]? = some e → unkOf d e = ""
    refine ⟨_, rfl, t, xs, rfl, .inr ⟨hs, ?_⟩⟩
    refine for_enumN (K := K) (a := t) (xs := xs) PV ⟨none, none, rfl, Same.refl H, fun j z => absurd z (by omega)⟩ (fun i σ H2 _ ⟨_, _, _, e, _⟩ => sqL_same e hs) ?_ ?_
    · rintro i y σ H2 T' hi ⟨v1, v2, rfl, e, hb⟩ hT
      have hi1 := (List.getElem?_eq_some_iff.mp hi).1
      obtain ⟨r, hrr⟩ : ∃ r, es[i]? = some r := ⟨_, List.getElem?_eq_getElem (by omega)⟩
      have f1 := same_upd (o := HO.tup [.int (i : Nat), y]) hT
      have e1 := e.trans f1
      refine ⟨T', _, rfl, SqT.of upd_same, rfl, _, _, rfl, _, _, rfl, rfl, ?_⟩
      have bad : ∀ H4, Same H H4 → BadRd d es i → tMkO X (spIx X) [] (tCons (tVar 2) tNil) [some (.ref h), some (.ref t), some (.int (i : Nat)), some y] H4 (fun cls d H' => E cls d H') := fun H4 e4 nb => ⟨_, rfl, (by show 1 ≤ 1000; decide), ix_made (by omega) ((kE i nb).same e4)⟩
      refine ⟨_, rfl, rfl, _, rfl, ?_⟩
      rw [decZ]
      by_cases c12 : i = 12
      · refine iteTe (decide_eq_true (by omega)) (bad _ e1 (.inr ⟨by omega, hb, .inl c12⟩))
      · refine iteFe (decide_eq_false (by omega)) ?_
        obtain ⟨dr, hdr, hy⟩ := DpAll.get hd hi
        rw [List.getElem?_map, hrr] at hdr
        cases hdr
        have hm' := hm r (List.mem_of_getElem? hrr)
        refine ⟨_, rfl, _, rfl, h, y, r, d, rfl, hh.nl (nl_same e1), Dp.same e1 _ _ hy, hm', fun z hz hz2 => ?_, fun ok H4 e4 => ?_⟩
        · have bd : BadRd d es i := .inr ⟨by omega, hb, .inr ⟨r, hrr, by rw [hz]; exact hz2⟩⟩
          exact fun H5 e5 => ⟨true, Ct.z z (unk_names5 hz hz2), fun _ a ha => bad H5 (e1.trans e5) bd, fun q => nomatch q⟩
        · refine ⟨_, _, rfl, e1.trans e4, fun j hj => ?_⟩
          by_cases cj : j = i
          · subst cj
            refine ⟨?_, fun r' hr' => by rw [hrr] at hr'; cases hr'; exact ok⟩
            by_cases c : j < 12
            · exact c
            · exact absurd (hb 12 (by omega)).1 (by omega)
          · exact hb j (by omega)
    · rintro σ H2 ⟨v1, v2, rfl, e, hb⟩
      refine ⟨_, rfl, t, xs, rfl, .inl (sqL_same e hs), rfl, _, rfl, ?_⟩
      rw [decZ]
      by_cases c0 : es.length = 0
      · refine iteTe (decide_eq_true (by omega)) ?_
        exact ⟨(by show 1 ≤ 1000; decide), ix_made (i := 0) (by omega) ((kE 0 (.inl ⟨c0, rfl⟩)).same e)⟩
      · refine iteFe (decide_eq_false (by omega)) (kQ (by omega) ?_ (fun r hr => ?_) _ e)
        · by_cases c : es.length ≤ 12
          · exact c
          · have := (hb 12 (by omega)).1
            omega
        · obtain ⟨j, hj⟩ := List.mem_iff_getElem?.mp hr
          have hj' := (List.getElem?_eq_some_iff.mp hj).1
          exact (hb j (by omega)).2 r hj
/-! ### need_count, whatever it is given -/
def spNCtX (X : Addr) : Sp := fun vs H Q E => ∃ c : Int, vs = [.int c] ∧ (0 ≤ c → c ≤ 1000000000000000000 → Q .non H) ∧ (¬ (0 ≤ c ∧ c ≤ 1000000000000000000) → Rp X H E)
theorem ok_nctX {f gN X : Addr} {fd fdN : FuncData} {t1 : Tok} (F : Fun K "need_count" "need_count" sNCt f fd) (NU : OnceF P w K mg base "is_number" 1 ["value", "limit"] spNum gN fdN) (mMR : mg "MOST_ROUNDS" = some (.int 1000000000000000000 t1)) (X1 : PErr K mg "InvalidNumber" X) :
    FnOk P w K mg base (L2N.CX P w) 2 f fd ["count"] (spNCtX X) := by
  refine okN F scNCt (fun vs H Q E h => ?_) (fun cdv A outer s H vs Q E hr1 h => ?_)
  · obtain ⟨c, rfl, _⟩ := h
    rfl
  · obtain ⟨c, rfl, kQ, kE⟩ := h
    have tk : L2N.Takes (cxOf (L2N.CX P w) P w K mg base ["count"] "need_count" (defScope sNCt) f cdv A outer s H E) (fun cls d _ H => E cls d H) := L2N.takes_of rfl rfl rfl rfl
    refine ⟨_, pss_one (ps_if (pt_not (pt_val (pe_call NU.G hr1 rfl NU.m NU.k NU.b .nil pass0 (pa_cons (pv 0) (pa_cons (pe_op op_add (pe_glob (v := .int 1000000000000000000) rfl mMR ⟨_, rfl⟩) pe_int) pa_nil)))))
      (pss_one (L2N.ps_raise rfl tk (pmk_own1N PySem.F.excBase_ValueError X1.ex X1.mg X1.kp (raises_own X1.sb X1.ty) rfl (pe_joined (.cons pe_str (.cons (pe_fmt (pe_glob (v := .int 1000000000000000000) rfl mMR ⟨_, rfl⟩)) .nil)))))) pss_nil), ?_⟩
    refine ⟨_, rfl, _, _, rfl, rfl, _, _, rfl, ⟨_, rfl, ?_⟩⟩
    by_cases hc : 0 ≤ c ∧ c ≤ 1000000000000000000
    · exact iteFe (by unfold numOk; rw [decide_eq_true hc.1, decide_eq_true (by omega : c < 1000000000000000000 + 1)]; rfl) (kQ hc.1 hc.2)
    · refine iteTe ?_ ?_
      · unfold numOk
        by_cases c0 : 0 ≤ c
        · rw [decide_eq_true c0, decide_eq_false (by omega : ¬ c < 1000000000000000000 + 1)]
          rfl
        · rw [decide_eq_false c0]
          rfl
      · have l5 := sizeLine_eq
        have l1 : (Str.empty : Str).length = 0 := rfl
        have l2 : ("a number of rounds is from 0 to " : Str).length = 32 := by decide +kernel
        refine ⟨_, rfl, by rw [str_app]; omega, ?_⟩
        exact .inr ⟨1000000000000000000, rfl, by decide +kernel, _, rfl, by rw [str_app, str_app]; have := toString_length_le (v := 1000000000000000000) (by decide) (k := 19) (by decide) (by decide); omega, kE hc _ (Same.refl _)⟩
end
end Kw

set_option Elab.async false
set_option linter.all false
set_option maxRecDepth 100000
set_option maxHeartbeats 4000000
namespace Kw
open PySem PySem.Spec PyProof.Rows L2
section
variable {P : Program} {w : World} {K : PySem.W.Frag} {mg : Str → Option Value} {base : Heap}
def GoodRd (d : Hs) (es : List Dd) : Prop := 0 < es.length ∧ es.length ≤ 12 ∧ ∀ e ∈ es, unkOf d e = ""
/-- a world and a list of deeds -/
structure WRd (K : PySem.W.Frag) (C CW : Addr) (H : Hp) (a h t : Addr) (xs : List V) (d0 d : Hs) (es : List Dd) : Prop where
  wd : WorldAt K CW H a h d
  hh : HouseAt K C H h d0
  ls : H t = some (.lst xs)
  dd : DpAll K H xs (es.map ddD)
  sm : ∀ e ∈ es, Sm e
  ln : xs.length ≤ 1000
theorem WRd.same {K : PySem.W.Frag} {C CW : Addr} {H H' : Hp} {a h t : Addr} {xs : List V} {d0 d : Hs} {es : List Dd} (x : WRd K C CW H a h t xs d0 d es) (k : Same H H') : WRd K C CW H' a h t xs d0 d es :=
  { x with wd := x.wd.same k, hh := x.hh.nl (nl_same k), ls := k _ _ x.ls, dd := Dp.sames k _ _ x.dd }
abbrev M18 : Int := 1000000000000000000
def spRndX (K : PySem.W.Frag) (C CW XR XN : Addr) : Sp := fun vs H Q E => ∃ (a h t : Addr) (xs : List V) (d0 d : Hs) (es : List Dd) (c : Int), vs = [.ref a, .ref t, .int c] ∧ WRd K C CW H a h t xs d0 d es ∧
  (∀ i, BadRd d0 es i → Rx XR i H E) ∧ (GoodRd d0 es → ¬ (0 ≤ c ∧ c ≤ M18) → Rp XN H E) ∧
  (GoodRd d0 es → 0 ≤ c → c ≤ M18 → ∃ sts e, RdIn K C CW H a h t xs d0 d es sts e ∧ ∀ v H', Same H H' → Dp K H' v (dueN sts e c.toNat) → Q v H')
theorem ok_rndX {f gR gC gT gE C CW CT XR XN : Addr} {fd fdR fdC fdT fdE : FuncData} (F : Fun K "rounds" "rounds" sRnd f fd) (W : WorldC K CW) (TC : TrC K CT) (NR : OnceY P w K mg base "need_round" 6 ["house", "deeds"] (spNRdX K C XR) gR fdR) (NC : OnceY P w K mg base "need_count" 2 ["count"] (spNCtX XN) gC fdC)
    (MT : MkT P w K mg base CT gT fdT) (ME : MethT P w K mg base CT "end" 1 ["self", "count"] (spTEnd K CT) gE fdE) : FnOk P w K mg base (L2.CX P w) 8 f fd ["world", "deeds", "count"] (spRndX K C CW XR XN) := by
  refine F.okX scRnd (fun vs H Q E h => ?_) (fun cdv A outer s H vs Q E hr h => ?_)
  · obtain ⟨a, h, t, xs, d0, d, es, c, rfl, _⟩ := h
    rfl
  · obtain ⟨a, h, t, xs, d0, d, es, c, rfl, x, kB, kN, kQ⟩ := h
    have hr7 : Room 7 _ := hr
    have hr6 : Room 6 _ := hr.mono (by decide)
    have hr2 : Room 2 _ := hr.mono (by decide)
    have hr1 : Room 1 _ := hr.mono (by decide)
    have tk : Takes (cxOf (L2.CX P w) P w K mg base ["world", "deeds", "count"] "rounds" (defScope sRnd) f cdv A outer s H E) (fun cls d _ H => E cls d H) := takes_of rfl rfl rfl rfl
    refine ⟨_, (pss_cons (ps_expr (pe_callS NR.G hr6 rfl NR.m NR.k NR.b (fun σ => passAt tk σ) (pa_cons (pe_fld (pv 0) rfl) (pa_cons (pv 1) pa_nil)))) (pss_cons (ps_expr (pe_callS NC.G hr2 rfl NC.m NC.k NC.b (fun σ => passAt tk σ) (pa_cons (pv 2) pa_nil))) (pss_one (ps_ret (pe_meth (pe_make MT.M MT.G hr7 rfl MT.m MT.b .nil pass0 (pa_cons (pe_fld (pv 0) rfl) (pa_cons (pv 1) (pa_cons (pv 2) pa_nil)))) TC.cl ME.m ME.G hr1 ME.b .nil pass0 (pa_cons (pv 2) pa_nil)))))), ?_⟩
    obtain ⟨dx, fs, vst, g0, g1, g2, g3, g4, g5⟩ := x.wd.ex
    refine ⟨_, rfl, a, CW, dx, _, .ref h, rfl, g0, W.cl, W.nH, g1, _, rfl, h, t, xs, es, d0, rfl, x.hh, SqL.of x.ls, x.dd, x.ln, x.sm, kB, fun l0 l1 ok H1 e1 => ?_⟩
    refine ⟨_, rfl, c, rfl, fun c0 c1 => ?_, fun nc => (kN ⟨l0, l1, ok⟩ nc).same e1⟩
    obtain ⟨sts, e, y, k⟩ := kQ ⟨l0, l1, ok⟩ c0 c1
    have y1 := y.same e1
    obtain ⟨n, rfl⟩ : ∃ n : Nat, c = (n : Int) := ⟨c.toNat, by omega⟩
    have h5 := Dp.same e1 _ _ g5
    obtain ⟨b', w1, w2, w3, rfl, _⟩ := st_at h5
    refine ⟨_, rfl, a, CW, dx, _, _, rfl, e1 _ _ g0, W.cl, W.nS, g2, _, rfl, _, rfl, fun z dy hy hdy ne => ?_⟩
    have hdy' : (L2.upd H1 dy (.own z)) z = none := by rw [upd_ne ne.symm]; exact hy
    have e7 : Same H1 (L2.upd (L2.upd H1 dy (.own z)) z (.ins CT dy [])) := Same.upd2 (same_upd hdy) hdy'
    have x7 := y1.same e7
    refine ⟨z, dy, _, t, xs, d, es, (n : Nat), rfl, upd_same, ⟨b', rfl⟩, Dp.same e7 _ _ h5, x7.ls, x7.dd, y.kn, y.wf, y.fr, y.lsd, by omega, fun H8 st2 stop again bt tr en => ⟨rfl, ?_⟩⟩
    have e8 : Same H1 H8 := fun c o hc => bt c o (e7 c o hc) (ne_of_none hc hy)
    obtain ⟨dz, ls, zs, vs, t1', _⟩ := tr.ex
    exact ⟨z, dz, _, rfl, t1', rfl, _, rfl, z, n, sts, st2, e, stop, again, rfl, tr, ended_full y.full en, fun v H9 e9 dv => k v H9 ((e1.trans e8).trans e9) dv⟩
/-- of the two that ask a sight, the errors alone -/
def spTrdX (K : PySem.W.Frag) (C CW XR XN : Addr) (ce : Str → Addr) (n : Nat) : Sp := fun vs H Q E => ∃ (a h t : Addr) (xs : List V) (d0 d : Hs) (es : List Dd) (y : V) (g : Sg) (c : Int), vs = [.ref a, .ref t, y, .int c] ∧ WRd K C CW H a h t xs d0 d es ∧ Dp K H y (sgD g) ∧ depS g < n ∧ SmS g ∧
  (∀ i, BadRd d0 es i → Rx XR i H E) ∧ (GoodRd d0 es → ∀ z, unkS d0 g = z → z ≠ "" → Rp (ce z) H E) ∧ (GoodRd d0 es → unkS d0 g = "" → ¬ (0 ≤ c ∧ c ≤ M18) ∧ Rp XN H E)
theorem ok_trdX {f gR gC gT gH gS C CW CT XR XN : Addr} {fd fdR fdC fdT fdH fdS : FuncData} {ce : Str → Addr} (F : Fun K "true_rounds" "true_rounds" sTrd f fd) (W : WorldC K CW) (TC : TrC K CT) (NR : OnceY P w K mg base "need_round" 6 ["house", "deeds"] (spNRdX K C XR) gR fdR) (NC : OnceY P w K mg base "need_count" 2 ["count"] (spNCtX XN) gC fdC)
    (NS : OnceY P w K mg base "need_sight" 7 ["house", "sight"] (spNSight K C ce 3) gS fdS)
    (MT : MkT P w K mg base CT gT fdT) (MH : MethT P w K mg base CT "how_often" 5 ["self", "sight", "count"] (spTHow K CT 3) gH fdH) : FnOk P w K mg base (L2.CX P w) 8 f fd ["world", "deeds", "sight", "count"] (spTrdX K C CW XR XN ce 3) := by
  refine F.okX scTrd (fun vs H Q E h => ?_) (fun cdv A outer s H vs Q E hr h => ?_)
  · obtain ⟨a, h, t, xs, d0, d, es, y, g, c, rfl, _⟩ := h
    rfl
  · obtain ⟨a, h, t, xs, d0, d, es, y, g, c, rfl, x, hy, dep, sm, kB, kS, kN⟩ := h
    have hr7 : Room 7 _ := hr
    have hr6 : Room 6 _ := hr.mono (by decide)
    have hr5 : Room 5 _ := hr.mono (by decide)
    have hr2 : Room 2 _ := hr.mono (by decide)
    have tk : Takes (cxOf (L2.CX P w) P w K mg base ["world", "deeds", "sight", "count"] "true_rounds" (defScope sTrd) f cdv A outer s H E) (fun cls d _ H => E cls d H) := takes_of rfl rfl rfl rfl
    refine ⟨_, (pss_cons (ps_expr (pe_callS NR.G hr6 rfl NR.m NR.k NR.b (fun σ => passAt tk σ) (pa_cons (pe_fld (pv 0) rfl) (pa_cons (pv 1) pa_nil)))) (pss_cons (ps_expr (pe_callS NS.G hr7 rfl NS.m NS.k NS.b (fun σ => passAt tk σ) (pa_cons (pe_fld (pv 0) rfl) (pa_cons (pv 2) pa_nil)))) (pss_cons (ps_expr (pe_callS NC.G hr2 rfl NC.m NC.k NC.b (fun σ => passAt tk σ) (pa_cons (pv 3) pa_nil))) (pss_one (ps_ret (pe_meth (pe_make MT.M MT.G hr7 rfl MT.m MT.b .nil pass0 (pa_cons (pe_fld (pv 0) rfl) (pa_cons (pv 1) (pa_cons (pv 3) pa_nil)))) TC.cl MH.m MH.G hr5 MH.b .nil pass0 (pa_cons (pv 2) (pa_cons (pv 3) pa_nil)))))))), ?_⟩
    obtain ⟨dx, fs, vst, g0, g1, g2, g3, g4, g5⟩ := x.wd.ex
    refine ⟨_, rfl, a, CW, dx, _, .ref h, rfl, g0, W.cl, W.nH, g1, _, rfl, h, t, xs, es, d0, rfl, x.hh, SqL.of x.ls, x.dd, x.ln, x.sm, kB, fun l0 l1 ok H1 e1 => ?_⟩
    have x1 := x.same e1
    refine ⟨_, rfl, a, CW, dx, _, .ref h, rfl, e1 _ _ g0, W.cl, W.nH, g1, _, rfl, h, y, g, d0, rfl, dep, x1.hh, Dp.same e1 _ _ hy, sm, fun z hz1 hz2 => (kS ⟨l0, l1, ok⟩ z hz1 hz2).same e1, fun us H2 e2 => ?_⟩
    obtain ⟨nc, kE⟩ := kN ⟨l0, l1, ok⟩ us
    exact ⟨_, rfl, c, rfl, fun c0 c1 => absurd ⟨c0, c1⟩ nc, fun _ => kE.same (e1.trans e2)⟩
def spFrX (K : PySem.W.Frag) (C CW XR : Addr) (ce : Str → Addr) (n : Nat) : Sp := fun vs H Q E => ∃ (a h t : Addr) (xs : List V) (d0 d : Hs) (es : List Dd) (y : V) (g : Sg), vs = [.ref a, .ref t, y] ∧ WRd K C CW H a h t xs d0 d es ∧ Dp K H y (sgD g) ∧ depS g < n ∧ SmS g ∧
  (∀ i, BadRd d0 es i → Rx XR i H E) ∧ (GoodRd d0 es → unkS d0 g ≠ "" ∧ Rp (ce (unkS d0 g)) H E)
theorem ok_frX {f gR gS C CW XR : Addr} {fd fdR fdS : FuncData} {ce : Str → Addr} (F : Fun K "first_round" "first_round" sFr f fd) (B : Bt mg) (W : WorldC K CW) (NR : OnceY P w K mg base "need_round" 6 ["house", "deeds"] (spNRdX K C XR) gR fdR)
    (NS : OnceY P w K mg base "need_sight" 7 ["house", "sight"] (spNSight K C ce 3) gS fdS) {gT gI CT : Addr} {fdT fdI : FuncData} {t1 : Tok} (TC : TrC K CT) (mMR : mg "MOST_ROUNDS" = some (.int 1000000000000000000 t1)) (MT : MkT P w K mg base CT gT fdT) (IT : OnceF P w K mg base "is_true" 4 ["state", "sight"] (spIs K 3) gI fdI) :
    FnOk P w K mg base (L2.CX P w) 8 f fd ["world", "deeds", "sight"] (spFrX K C CW XR ce 3) := by
  refine F.okX scFr (fun vs H Q E h => ?_) (fun cdv A outer s H vs Q E hr h => ?_)
  · obtain ⟨a, h, t, xs, d0, d, es, y, g, rfl, _⟩ := h
    rfl
  · obtain ⟨a, h, t, xs, d0, d, es, y, g, rfl, x, hy, dep, sm, kB, kS⟩ := h
    have hr7 : Room 7 _ := hr
    have hr6 : Room 6 _ := hr.mono (by decide)
    have hr4 : Room 4 _ := hr.mono (by decide)
    have tk : Takes (cxOf (L2.CX P w) P w K mg base ["world", "deeds", "sight", "number", "state"] "first_round" (defScope sFr) f cdv A outer s H E) (fun cls d _ H => E cls d H) := takes_of rfl rfl rfl rfl
    refine ⟨_, (pss_cons (ps_expr (pe_callS NR.G hr6 rfl NR.m NR.k NR.b (fun σ => passAt tk σ) (pa_cons (pe_fld (pv 0) rfl) (pa_cons (pv 1) pa_nil)))) (pss_cons (ps_expr (pe_callS NS.G hr7 rfl NS.m NS.k NS.b (fun σ => passAt tk σ) (pa_cons (pe_fld (pv 0) rfl) (pa_cons (pv 2) pa_nil)))) (pss_cons (ps_for (passes_of rfl) rfl (pi_enumE (by rfl) B.enu (pa_cons (pe_fld (pe_make MT.M MT.G hr7 rfl MT.m MT.b .nil pass0 (pa_cons (pe_fld (pv 0) rfl) (pa_cons (pv 1) (pa_cons (pe_glob (v := .int 1000000000000000000) rfl mMR ⟨_, rfl⟩) pa_nil)))) rfl) pa_nil)) (pg_tup (by rfl) (pgs_cons (pg_name (i := 3) scFr.nd rfl (.inl rfl)) (pgs_cons (pg_name (i := 4) scFr.nd rfl (.inl rfl)) pgs_nil))) (pss_one (ps_if (pt_val (pe_call IT.G hr4 rfl IT.m IT.k IT.b .nil pass0 (pa_cons (pv 4) (pa_cons (pv 2) pa_nil)))) (pss_one (ps_ret (pv 3))) pss_nil))) (pss_one (ps_ret pe_non))))), ?_⟩
    obtain ⟨dx, fs, vst, g0, g1, g2, g3, g4, g5⟩ := x.wd.ex
    refine ⟨_, rfl, a, CW, dx, _, .ref h, rfl, g0, W.cl, W.nH, g1, _, rfl, h, t, xs, es, d0, rfl, x.hh, SqL.of x.ls, x.dd, x.ln, x.sm, kB, fun l0 l1 ok H1 e1 => ?_⟩
    have x1 := x.same e1
    obtain ⟨ns, kE⟩ := kS ⟨l0, l1, ok⟩
    exact ⟨_, rfl, a, CW, dx, _, .ref h, rfl, e1 _ _ g0, W.cl, W.nH, g1, _, rfl, h, y, g, d0, rfl, dep, x1.hh, Dp.same e1 _ _ hy, sm, fun z hz1 hz2 => by rw [← hz1]; exact kE.same e1, fun us => absurd us ns⟩
end
end Kw

set_option Elab.async false
set_option linter.all false
set_option maxRecDepth 100000
set_option maxHeartbeats 4000000
namespace Kw
open PySem PySem.Spec PyProof.Rows L2
/-! ### _law_fail -/
abbrev sFail : Stmt := top 71
abbrev nFail : List Str := ["_law_work", "e", "_law_kinds"]
theorem scFail : FnScope nFail ["_law_work"] (defScope sFail) := ⟨rfl, rfl, rfl, by decide +kernel, rfl, by decide +kernel, by decide +kernel⟩
/-- a class of errors, by what it is told to be -/
structure FailC (K : PySem.W.Frag) (mg : Str → Option Value) (CE CW : Addr) (b0 b1 b2 : Bool) : Prop where
  exc : ExcC K CE
  xf : XfC K CE
  nI : PySem.W.findIn K (.ref CE) "index" = some none
  exm : PySem.W.exmOne K (.ref CE) (.ref CW) = some true
  kR : KindAt K mg CE "InvalidRound" b0
  kN : KindAt K mg CE "InvalidNumber" b1
  kB : KindAt K mg CE "UnknownBox" b2
def nmF (b1 b2 : Bool) : Str := if b1 then "InvalidNumber" else if b2 then "UnknownBox" else "another"
def failSuite : List Stmt := match defBody sFail with
  | .Try _ (.ExceptHandler _ _ s _ :: _) _ _ _ :: _ => s
  | _ => []
section
variable {P : Program} {w : World} {K : PySem.W.Frag} {mg : Str → Option Value} {base : Heap}
theorem ix_at (i : Int) : (ixFs i).lookup ("index" : Str) = some (.int i) := by
  unfold ixFs
  rw [List.lookup_cons, show (("index" : Str) == ("index" : Str)) = true from by decide +kernel]
theorem fail_suite {g : Addr} {cdg : Value} {A : Around} {outer : List Env} {s0 : Shared} {H0 : Hp} {CE CW a : Addr} {b0 b1 b2 : Bool} {oe : Obj} {dd : Option Addr} {pn : List (Addr × Obj)} (T : FailC K mg CE CW b0 b1 b2) (B : Bt mg) (hz : Zc (.ref CE) dd oe) (hf : ∃ vs, oe.data = .fields vs)
    (D : Ends) (σ : L2.St) (H : Hp) (v0 v2 : Option V) (hσ : σ = [v0, some (.ref a), v2]) (hd : DdOk dd H) (k0 : b0 = true → ∃ d i, dd = some d ∧ H d = some (.xd (ixFs (i : Nat))) ∧ ∀ v H2, Same H H2 → Dp K H2 v (.tuple [.str "InvalidRound", .int (i : Nat)]) → D.rt v H2)
    (k1 : b0 = false → ∀ H2, Same H H2 → D.rt (.str (nmF b1 b2)) H2) :
      ∃ T, PSs (Cx.suite ((cxOf CX0 P w K mg base nFail "_law_fail" (defScope sFail) g cdg A outer s0 H0 E0).nox) a ((a, oe) :: pn)) failSuite T ∧ T D σ H := by
  obtain ⟨cR, mR, qR⟩ := T.kR
  obtain ⟨cN, mN, qN⟩ := T.kN
  obtain ⟨cB, mB, qB⟩ := T.kB
  refine ⟨_, (pss_cons (ps_if (pt_val (pe_callB (call_isO T.exc hz hf) (by rfl) B.isi (by decide +kernel) (pa_cons (pv 1) (pa_cons (pe_glob (v := .ref cR) rfl mR rfl) pa_nil)))) (pss_one (ps_ret (pe_tup (pa_cons pe_str (pa_cons (pe_xf T.xf T.nI hz hf (pv 1)) pa_nil))))) pss_nil)
    (pss_cons (ps_set (i := 2) scFail.nd rfl (.inl rfl) (pe_lst (pa_cons (pe_callB (call_isO T.exc hz hf) (by rfl) B.isi (by decide +kernel) (pa_cons (pv 1) (pa_cons (pe_glob (v := .ref cN) rfl mN rfl) pa_nil))) (pa_cons (pe_callB (call_isO T.exc hz hf) (by rfl) B.isi (by decide +kernel) (pa_cons (pv 1) (pa_cons (pe_glob (v := .ref cB) rfl mB rfl) pa_nil))) (pa_cons pe_bl pa_nil)))))
    (pss_one (ps_ret (pe_ix ix_list (pe_lst (pa_cons pe_str (pa_cons pe_str (pa_cons pe_str pa_nil)))) (pe_bm PySem.F.plainAttrs_list PySem.F.slot_list_index PySem.F.type_list_index mt_index (pv 2) (pa_cons pe_bl pa_nil)) (fun _ _ => rfl)))))), ?_⟩
  subst hσ
  refine tisiG rfl hd qR ⟨_, rfl, ?_⟩
  cases b0 with
  | true =>
    refine iteT ?_
    obtain ⟨d, i, e, hh, k⟩ := k0 rfl
    refine ⟨_, rfl, rfl, rfl, d, _, _, e, hh, ix_at _, (by show 2 ≤ sizeLine; decide), fun p hp => ?_⟩
    exact k _ _ (same_upd hp) (.tup (SqT.of upd_same) (.cons (.str _) (.cons (.int _) .nil)))
  | false =>
    refine iteF ?_
    refine tisiG rfl hd qN (tisiG rfl hd qB ⟨(by show 3 ≤ sizeLine; decide), fun p hp => ?_⟩)
    have e1 := same_upd (o := HO.lst [V.bl b1, V.bl b2, V.bl true]) hp
    have h1 : (L2.upd H p (.lst [V.bl b1, V.bl b2, V.bl true])) p = some (.lst [V.bl b1, V.bl b2, V.bl true]) := upd_same
    have k2 := fun H2 e2 => k1 rfl H2 (e1.trans e2)
    generalize L2.upd H p (.lst [V.bl b1, V.bl b2, V.bl true]) = H1 at *
    refine ⟨(by show 3 ≤ sizeLine; decide), fun q hq => ?_⟩
    have e2 := same_upd (o := HO.lst [V.str ("InvalidNumber" : Str), V.str ("UnknownBox" : Str), V.str ("another" : Str)]) hq
    have h2 : (L2.upd H1 q (.lst [V.str ("InvalidNumber" : Str), V.str ("UnknownBox" : Str), V.str ("another" : Str)])) q = some (.lst [V.str ("InvalidNumber" : Str), V.str ("UnknownBox" : Str), V.str ("another" : Str)]) := upd_same
    have h3 := e2 _ _ h1
    have k3 := k2 _ e2
    generalize L2.upd H1 q (.lst [V.str ("InvalidNumber" : Str), V.str ("UnknownBox" : Str), V.str ("another" : Str)]) = H2 at *
    refine ⟨_, rfl, .inl ⟨rfl, _, SqL.of h3⟩, ?_⟩
    cases b1 with
    | true => exact ⟨p, _, .bl true, 0, .bl true, rfl, rfl, SqL.of h3, rfl, by cases b2 <;> rfl, rfl, rfl, fun m z' hm e => absurd hm (by omega), q, _, 0, .str ("InvalidNumber" : Str), rfl, rfl, SqL.of h2, rfl, k3⟩
    | false =>
      cases b2 with
      | true => exact ⟨p, _, .bl true, 1, .bl true, rfl, rfl, SqL.of h3, rfl, rfl, rfl, rfl, fun m z' hm e => by
          match m, hm, e with
          | 0, _, e => cases e; rfl
          | m + 1, h, _ => exact absurd h (by omega), q, _, 1, .str ("UnknownBox" : Str), rfl, rfl, SqL.of h2, rfl, k3⟩
      | false => exact ⟨p, _, .bl true, 2, .bl true, rfl, rfl, SqL.of h3, rfl, rfl, rfl, rfl, fun m z' hm e => by
          match m, hm, e with
          | 0, _, e => cases e; rfl
          | 1, _, e => cases e; rfl
          | m + 2, h, _ => exact absurd h (by omega), q, _, 2, .str ("another" : Str), rfl, rfl, SqL.of h2, rfl, k3⟩
/-- what is let out: an error that is known -/
def failOut (K : PySem.W.Frag) (mg : Str → Option Value) (CW : Addr) (Q : VK) : XK := fun cls d H' => ∃ CE b0 b1 b2, cls = .ref CE ∧ FailC K mg CE CW b0 b1 b2 ∧ DdOk d H' ∧
  (b0 = true → ∃ x i, d = some x ∧ H' x = some (.xd (ixFs (i : Nat))) ∧ ∀ v H2, Same H' H2 → Dp K H2 v (.tuple [.str "InvalidRound", .int (i : Nat)]) → Q v H2) ∧ (b0 = false → ∀ H2, Same H' H2 → Q (.str (nmF b1 b2)) H2)
def TFail (K : PySem.W.Frag) (mg : Str → Option Value) (CW : Addr) : (XK → Hp → VK → Prop) → Hp → VK → Prop := fun tl H Q => tl (failOut K mg CW Q) H Q
theorem fail_gives {X : Cx} {g CW : Addr} {cdg : Value} (mW : X.mg "WatchError" = some (.ref CW)) (B : Bt X.mg) : LmX.GivesN X nFail "_law_fail" (defScope sFail) g cdg (defBody sFail) "_law_work" (TFail X.K X.mg CW) := by
  intro f s H Q tl Kn act hc h
  have hgl : Gl (cxOf C8.CX0 X.prog X.w X.K X.mg X.base nFail "_law_fail" (defScope sFail) g cdg X.A X.stack s H C8.E0).nox "WatchError" := rfl
  refine ⟨_, pss_one (ps_try_as (X := (cxOf C8.CX0 X.prog X.w X.K X.mg X.base nFail "_law_fail" (defScope sFail) g cdg X.A X.stack s H C8.E0).nox) (c := .ref CW) (i := 1)
      (tb := fun W D σ H => ∃ Ech : XK, (∀ cls d σ' H', Ech cls d H' → W cls d σ' H') ∧ σ[0]? = some (some (.ref f)) ∧ Kn H ∧ tl Ech H D.rt)
      (ts := fun a cls d D σ H => ∃ (σ0 : L2.St) (CE : Addr) (b0 b1 b2 : Bool), σ = σ0.set 1 (some (.ref a)) ∧ cls = .ref CE ∧ FailC X.K X.mg CE CW b0 b1 b2 ∧ DdOk d H ∧
        (b0 = true → ∃ x i, d = some x ∧ H x = some (.xd (ixFs (i : Nat))) ∧ ∀ v H2, Same H H2 → Dp X.K H2 v (.tuple [.str "InvalidRound", .int (i : Nat)]) → D.rt v H2) ∧ (b0 = false → ∀ H2, Same H H2 → D.rt (.str (nmF b1 b2)) H2))
      rfl rfl scFail.nd rfl rfl ⟨hgl, by decide, .inl mW⟩ LamX.takes0 (fun W pn xe tk _ => ?_) (fun a oe cls d pn hz hf => ?_)), ?_⟩
  · refine ⟨fun pins s' σ H' D I h' => ?_⟩
    obtain ⟨Ech, hW, h1, h2, h3⟩ := h'
    exact (pss_one (ps_ret (act W pn xe Ech _ _ tk hW))).run pins s' σ H' D I ⟨h1, h2, h3⟩
  · refine ⟨fun pins s' σ H' D I h' => ?_⟩
    obtain ⟨σ0, CE, b0, b1, b2, hσ, rfl, T, hd, k0, k1⟩ := h'
    have hl : σ0.length = 3 := by
      have q := I.len
      rw [hσ, List.length_set] at q
      exact q
    obtain ⟨v0, v1, v2, e5⟩ : ∃ v0 v1 v2, σ0 = [v0, v1, v2] := by
      match σ0, hl with
      | [v0, v1, v2], _ => exact ⟨v0, v1, v2, rfl⟩
    rw [e5] at hσ
    obtain ⟨t, ht, hq⟩ := fail_suite (P := X.prog) (w := X.w) (K := X.K) (mg := X.mg) (base := X.base) (g := g) (cdg := cdg) (A := X.A) (outer := X.stack) (s0 := s) (H0 := H) T B hz hf D σ H' v0 v2 hσ hd k0 k1
    exact ht.run pins s' σ H' D I hq
  · refine ⟨failOut X.K X.mg CW Q, fun cls d σ' H' ⟨CE, b0, b1, b2, e1, T, hd, k0, k1⟩ => ?_, rfl, hc, h⟩
    exact ⟨true, by rw [e1]; exact T.exm, fun _ a ha => ⟨σ', CE, b0, b1, b2, rfl, e1, T, hd, k0, k1⟩, fun z => by cases z⟩
end
end Kw

set_option Elab.async false
set_option linter.all false
set_option maxRecDepth 100000
set_option maxHeartbeats 4000000
namespace Kw
open PySem PySem.Spec PyProof.Rows L2
section
variable {P : Program} {w : World} {K : PySem.W.Frag} {mg : Str → Option Value} {base : Heap}
/-- deeds found so far, at least so many -/
structure FG (K : PySem.W.Frag) (d : Hs) (H0 H : Hp) (p : Addr) (m lo : Nat) : Prop where
  e : Same H0 H
  ex : ∃ xs, H p = some (.lst xs) ∧ xs.length ≤ m ∧ (∀ v ∈ xs, DdU K d v H) ∧ lo ≤ xs.length
theorem FG.same {d : Hs} {H0 H H' : Hp} {p : Addr} {m lo : Nat} (x : FG K d H0 H p m lo) (e : Same H H') : FG K d H0 H' p m lo := by
  obtain ⟨e0, xs, h1, h2, h3, h4⟩ := x
  exact ⟨e0.trans e, xs, e _ _ h1, h2, fun v hv => (h3 v hv).nl (nl_same e), h4⟩
theorem FG.more {d : Hs} {H0 H : Hp} {p : Addr} {m n lo k : Nat} (x : FG K d H0 H p m lo) (h : m ≤ n) (l : k ≤ lo := by omega) : FG K d H0 H p n k := by
  obtain ⟨e0, xs, h1, h2, h3, h4⟩ := x
  exact ⟨e0, xs, h1, by omega, h3, by omega⟩
theorem FG.cat {d : Hs} {H0 H H1 : Hp} {p D : Addr} {m n lo : Nat} {zs : List V} {R : V → Hp → Prop} (x : FG K d H0 H p m lo) (e : Same H H1) (hm : m + n ≤ 2000) (hD : H1 D = some (.lst zs)) (lz : zs.length ≤ n) (rz : ∀ v ∈ zs, DdU K d v H1) (k : ∀ q H', FG K d H0 H' q (m + n) (lo + zs.length) → R (.ref q) H') : rCat (.ref p) (.ref D) H1 R := by
  obtain ⟨e0, xs, h1, h2, h3, h4⟩ := x.same e
  refine ⟨p, D, xs, zs, rfl, rfl, h1, hD, by rw [sizeLine_eq]; omega, fun q hq => k q _ ?_⟩
  have f := same_upd (o := HO.lst (xs ++ zs)) hq
  refine ⟨e0.trans f, _, upd_same, by rw [List.length_append]; omega, fun v hv => ?_, by rw [List.length_append]; omega⟩
  rcases List.mem_append.mp hv with hv | hv
  · exact (h3 v hv).nl (nl_same f)
  · exact (rz v hv).nl (nl_same f)
def spKnN (K : PySem.W.Frag) : Sp := fun vs H Q _ => ∃ (x : V) (hp : Addr) (d : Hs) (hs : List Nat), vs = [x, .ref hp] ∧ Dp K H x (drD d) ∧ SqL K H hp (nV hs) ∧ hs.length ≤ 4 ∧ (∀ u ∈ hs, (u : Int) < d.hands) ∧ d.hands ≤ 4 ∧ d.bs.length ≤ 3 ∧ d.ts.length ≤ 4 ∧ d.ss.length ≤ 3 ∧ 0 < hs.length ∧ 0 < d.bs.length ∧
  ∀ (p : Addr) (xs : List V) (H' : Hp), Same H H' → H p = none → H' p = some (.lst xs) → xs.length ≤ 1000 → 0 < xs.length → (∀ v ∈ xs, DdU K d v H') → Q (.ref p) H'
theorem ok_knN {f gI : Addr} {fd fdI : FuncData} (F : Fun K "_law_known" "_law_known" sKno f fd) (B : Bt mg) (mS : mg "sorted" = none) (GI : OnceF P w K mg base "_law_items" 1 ["_law_house_here"] (spItm K) gI fdI) : FnOk P w K mg base CX0 2 f fd ["_law_drawn_here", "_law_hands"] (spKnN K) := by
  refine F.ok scKno (fun vs H Q E h => ?_) (fun cdv A outer s H vs Q E hr h => ?_)
  · obtain ⟨x, hp, d, hs, rfl, _⟩ := h
    rfl
  · obtain ⟨x, hp, d, hs, rfl, hx, hhp, hn, hub, hd4, lb, lt, ls, n0, b0, k⟩ := h
    have hr1 : Room 1 _ := hr.mono (by decide)
    have hu : (cxOf CX0 P w K mg base ["_law_drawn_here", "_law_hands", "_law_found", "_law_items_here", "_law_boxes", "_law_seals", "_law_hand", "_law_item", "_law_other", "_law_box", "_law_seal"] "_law_known" (defScope sKno) f cdv A outer s H E).nox.A.units + 64 < cLine := by have := hr.un; show (A.deeper _).units + 64 < cLine; omega
    have hu60 : (cxOf CX0 P w K mg base ["_law_drawn_here", "_law_hands", "_law_found", "_law_items_here", "_law_boxes", "_law_seals", "_law_hand", "_law_item", "_law_other", "_law_box", "_law_seal"] "_law_known" (defScope sKno) f cdv A outer s H E).nox.A.units + 60 < cLine := by omega
    refine ⟨_, (pss_cons (ps_par (i := 2) (j := 3) rfl scKno.nd rfl rfl (by decide) rfl rfl (pa_cons (pe_lst pa_nil) (pa_cons (pe_call GI.G hr1 rfl GI.m GI.k GI.b .nil pass0 (pa_cons (pv 0) pa_nil)) pa_nil)) (by rfl)) (pss_cons (ps_par (i := 4) (j := 5) rfl scKno.nd rfl rfl (by decide) rfl rfl (pa_cons (pe_listRg rfl (by rfl) B.lst (prg_1 (by rfl) B.rng (pe_callB call_len_seq (by rfl) B.len PySem.boot_len (pa_cons (pe_ix ix_tup (pv 0) pe_int (fun _ _ => rfl)) pa_nil)))) (pa_cons (pe_listRg rfl (by rfl) B.lst (prg_1 (by rfl) B.rng (pe_callB call_len_seq (by rfl) B.len PySem.boot_len (pa_cons (pe_ix ix_tup (pv 0) pe_int (fun _ _ => rfl)) pa_nil)))) pa_nil)) (by rfl)) (pss_cons (ps_for PassesOwn.never rfl (pi_list (pv 1)) (pg_name (i := 6) scKno.nd rfl (.inr rfl)) (pss_cons (ps_for PassesOwn.never rfl (pi_list (pv 3)) (pg_name (i := 7) scKno.nd rfl (.inr rfl)) (pss_cons (ps_set (i := 2) scKno.nd rfl (.inl rfl) (pe_op op_cat (pv 2) (pe_lc (own := [("_law_other", 8)]) (g := gName 8) (tt := (tTest (tOp rNe (tVar 8) (tVar 6)))) (te := (tTup (tCons (tC (.str ("give" : Str))) (tCons (tVar 6) (tCons (tVar 7) (tCons (tVar 8) tNil)))))) rfl scKno.nd (pi_list (pv 1)) (blkOk_by (own := [("_law_other", 8)]) (N := ["_law_drawn_here", "_law_hands", "_law_found", "_law_items_here", "_law_boxes", "_law_seals", "_law_hand", "_law_item", "_law_other", "_law_box", "_law_seal"]) (sc := defScope sKno) (by decide +kernel)) (fun _ _ _ _ _ => pg_name (i := 8) scKno.nd rfl (.inl rfl)) (fun _ _ _ _ _ => pts_one (pt_cmpR op_ne (pv 8) (pv 6) (nomark _))) (fun _ _ _ _ _ => (pe_tup (pa_cons pe_str (pa_cons (pv 6) (pa_cons (pv 7) (pa_cons (pv 8) pa_nil))))))))) (pss_one (ps_if (pt_cmpR op_ne (pe_ix ix_tup (pv 7) pe_int (fun _ _ => rfl)) pe_str (nomark _)) (pss_cons (ps_set (i := 2) scKno.nd rfl (.inl rfl) (pe_op op_cat (pv 2) (pe_lc (own := [("_law_box", 9)]) (g := gName 9) (tt := (tTest (tOp (rNeD K) (tVar 7) (tTup (tCons (tC (.str ("box" : Str))) (tCons (tVar 9) tNil)))))) (te := (tTup (tCons (tC (.str ("put" : Str))) (tCons (tVar 6) (tCons (tVar 7) (tCons (tVar 9) tNil)))))) rfl scKno.nd (pi_list (pv 4)) (blkOk_by (own := [("_law_box", 9)]) (N := ["_law_drawn_here", "_law_hands", "_law_found", "_law_items_here", "_law_boxes", "_law_seals", "_law_hand", "_law_item", "_law_other", "_law_box", "_law_seal"]) (sc := defScope sKno) (by decide +kernel)) (fun _ _ _ _ _ => pg_name (i := 9) scKno.nd rfl (.inl rfl)) (fun _ _ _ _ _ => pts_one (pt_cmpR (op_neD hu) (pv 7) (pe_tup (pa_cons pe_str (pa_cons (pv 9) pa_nil))) (nomark _))) (fun _ _ _ _ _ => (pe_tup (pa_cons pe_str (pa_cons (pv 6) (pa_cons (pv 7) (pa_cons (pv 9) pa_nil))))))))) (pss_one (ps_set (i := 2) scKno.nd rfl (.inl rfl) (pe_op op_cat (pv 2) (pe_lc (own := [("_law_box", 9)]) (g := gName 9) (tt := (tTest (tOp (rNeD K) (tVar 7) (tTup (tCons (tC (.str ("box" : Str))) (tCons (tVar 9) tNil)))))) (te := (tTup (tCons (tC (.str ("take" : Str))) (tCons (tVar 6) (tCons (tVar 7) (tCons (tVar 9) tNil)))))) rfl scKno.nd (pi_list (pv 4)) (blkOk_by (own := [("_law_box", 9)]) (N := ["_law_drawn_here", "_law_hands", "_law_found", "_law_items_here", "_law_boxes", "_law_seals", "_law_hand", "_law_item", "_law_other", "_law_box", "_law_seal"]) (sc := defScope sKno) (by decide +kernel)) (fun _ _ _ _ _ => pg_name (i := 9) scKno.nd rfl (.inl rfl)) (fun _ _ _ _ _ => pts_one (pt_cmpR (op_neD hu) (pv 7) (pe_tup (pa_cons pe_str (pa_cons (pv 9) pa_nil))) (nomark _))) (fun _ _ _ _ _ => (pe_tup (pa_cons pe_str (pa_cons (pv 6) (pa_cons (pv 7) (pa_cons (pv 9) pa_nil))))))))))) pss_nil)))) (pss_one (ps_for PassesOwn.never rfl (pi_list (pv 4)) (pg_name (i := 9) scKno.nd rfl (.inr rfl)) (pss_one (ps_set (i := 2) scKno.nd rfl (.inl rfl) (pe_op op_cat (pe_op op_cat (pv 2) (pe_lst (pa_cons (pe_tup (pa_cons pe_str (pa_cons (pv 6) (pa_cons (pv 9) pa_nil)))) pa_nil))) (pe_lc (own := [("_law_seal", 10)]) (g := gName 10) (tt := tYes) (te := (tTup (tCons (tC (.str ("seal" : Str))) (tCons (tVar 6) (tCons (tVar 9) (tCons (tVar 10) tNil)))))) rfl scKno.nd (pi_list (pv 5)) (blkOk_by (own := [("_law_seal", 10)]) (N := ["_law_drawn_here", "_law_hands", "_law_found", "_law_items_here", "_law_boxes", "_law_seals", "_law_hand", "_law_item", "_law_other", "_law_box", "_law_seal"]) (sc := defScope sKno) (by decide +kernel)) (fun _ _ _ _ _ => pg_name (i := 10) scKno.nd rfl (.inl rfl)) (fun _ _ _ _ _ => pts_nil) (fun _ _ _ _ _ => (pe_tup (pa_cons pe_str (pa_cons (pv 6) (pa_cons (pv 9) (pa_cons (pv 10) pa_nil)))))))))))))) (pss_one (ps_ret (pe_callB (cr_sortD hu60) (by rfl) mS (by decide +kernel) (pa_cons (pv 2) pa_nil))))))), ?_⟩
    obtain ⟨a, v1, v2, v3, rfl, sa, d1, d2, d3⟩ := dr_at hx
    obtain ⟨a1, x1, rfl, s1, dl1, l1⟩ := pls_at d1
    obtain ⟨a2, x2, rfl, s2, dl2, l2⟩ := pls_at d2
    obtain ⟨a3, x3, rfl, s3, dl3, l3⟩ := pls_at d3
    have l5 := sizeLine_eq
    have rl4 : ∀ k, (rowOf d k).length ≤ 4 := fun k => by
      cases k
      · show d.bs.length ≤ 4; omega
      · show d.ts.length ≤ 4; omega
      · show d.ss.length ≤ 4; omega
    refine ⟨(by show 0 ≤ sizeLine; decide), fun L hL => ?_⟩
    have f0 := same_upd (o := HO.lst []) hL
    refine ⟨_, rfl, _, d, rfl, Dp.same f0 _ _ hx, ⟨by omega, by omega, by omega⟩, fun pI xI H1 e1 _ hI dI => ⟨_, _, rfl, ?_⟩⟩
    have e01 := f0.trans e1
    refine ⟨_, rfl, a, _, 1, _, rfl, rfl, SqT.same e01 sa, rfl, a1, x1, rfl, .inr (SqT.same e01 s1), _, rfl, RgOk.of_le (by omega) (by omega) (by omega) (by omega), fun pb hpb => ?_⟩
    have f2 := same_upd (o := HO.lst (rgV 0 (x1.length : Nat))) hpb
    have e02 := e01.trans f2
    refine ⟨_, rfl, a, _, 3, _, rfl, rfl, SqT.same e02 sa, rfl, a3, x3, rfl, .inr (SqT.same e02 s3), _, rfl, RgOk.of_le (by omega) (by omega) (by omega) (by omega), fun ps hps => ⟨_, _, rfl, ?_⟩⟩
    have f3 := same_upd (o := HO.lst (rgV 0 (x3.length : Nat))) hps
    have e03 := e02.trans f3
    have hL3 := (e1.trans f2).trans f3 _ _ (show (L2.upd H L (.lst [])) L = some (.lst []) from upd_same)
    have hI3 := (f2.trans f3) _ _ hI
    have dI3 : DpAll K _ xI ((allI d).map itP) := Dp.sames (f2.trans f3) _ _ dI
    have hb3 : (L2.upd (L2.upd H1 pb (.lst (rgV 0 (x1.length : Nat)))) ps (.lst (rgV 0 (x3.length : Nat)))) pb = some (.lst (rgV 0 (d.bs.length : Nat))) := (f3 _ _ upd_same).trans (by rw [l1])
    have hs3 : (L2.upd (L2.upd H1 pb (.lst (rgV 0 (x1.length : Nat)))) ps (.lst (rgV 0 (x3.length : Nat)))) ps = some (.lst (rgV 0 (d.ss.length : Nat))) := upd_same.trans (by rw [l3])
    have lI : xI.length ≤ 10 := by rw [DpAll.len dI, List.length_map, allI_len]; omega
    generalize L2.upd (L2.upd H1 pb (.lst (rgV 0 (x1.length : Nat)))) ps (.lst (rgV 0 (x3.length : Nat))) = H0 at *
    have ff0 : FG K d H0 H0 L 0 0 := ⟨Same.refl _, [], hL3, Nat.le_refl _, (fun v hv => nomatch hv), Nat.le_refl _⟩
    refine ⟨_, rfl, hp, rfl, ⟨_, sqL_same e03 hhp⟩, ?_⟩
    refine for_list (K := K) (a := hp) (xs := nV hs) (fun i σ H' => ∃ (p : Addr) (vh vi vb : Option V), σ = [some (.ref a), some (.ref hp), some (.ref p), some (.ref pI), some (.ref pb), some (.ref ps), vh, vi, none, vb, none] ∧ FG K d H0 H' p (i * 120) (min i 1))
      ⟨L, none, none, none, rfl, ff0.more (by omega)⟩ (fun i σ H' _ ⟨_, _, _, _, _, ff⟩ => sqL_same (e03.trans ff.e) hhp) ?_ ?_
    · rintro i y σ H4 hi ⟨p, vh, vi, vb, rfl, ff⟩
      obtain ⟨u, hu', rfl⟩ := nv_get hi
      have hb' := hub u hu'
      have ul : u ≤ 1000 := by omega
      have hi' : i < hs.length := by have := (List.getElem?_eq_some_iff.mp hi).1; rw [nv_len] at this; exact this
      refine ⟨_, rfl, pI, rfl, ⟨_, SqL.of (ff.e _ _ hI3)⟩, ?_⟩
      refine for_list (K := K) (a := pI) (xs := xI) (fun j σ H' => ∃ (p : Addr) (vi vb : Option V), σ = [some (.ref a), some (.ref hp), some (.ref p), some (.ref pI), some (.ref pb), some (.ref ps), some (.int (u : Nat)), vi, none, vb, none] ∧ FG K d H0 H' p (i * 120 + j * 10) 0)
        ⟨p, vi, vb, rfl, ff.more (by omega)⟩ (fun j σ H' _ ⟨_, _, _, _, ff⟩ => SqL.of (ff.e _ _ hI3)) ?_ ?_
      · rintro j y σ H5 hj ⟨p, vi, vb, rfl, ff⟩
        have j1 := (List.getElem?_eq_some_iff.mp hj).1
        obtain ⟨dd, hd1, hd2⟩ := DpAll.get dI3 hj
        obtain ⟨q, hq, rfl⟩ : ∃ q ∈ allI d, itP q = dd := by
          rw [List.getElem?_map] at hd1
          cases z : (allI d)[j]? with
          | none => rw [z] at hd1; cases hd1
          | some q => rw [z] at hd1; exact ⟨q, List.mem_of_getElem? z, Option.some.inj hd1⟩
        have hq2 := allI_get hq
        have wq : (whereD d q).isSome = true := by
          unfold whereD
          rw [List.getElem?_eq_getElem hq2]
          rfl
        have q4 : q.2 ≤ 1000 := by have := rl4 q.1; omega
        -- give
        refine ⟨_, rfl, _, rfl, hp, rfl, ⟨_, sqL_same (e03.trans ff.e) hhp⟩, fun D6 hD6 => ?_⟩
        refine lc_mk (K := K) (fun v H => DdU K d v H) (fun _ _ _ k h => h.nl k) (sqL_same (e03.trans ff.e) hhp) (by rw [nv_len]; omega) hD6 (fun m x H' N Y hm e hN hY => ?_) (fun HA z1 eA hz1 lz1 rz1 => ?_)
        · obtain ⟨o, ho', rfl⟩ := nv_get hm
          have ho2 := hub o ho'
          refine ⟨_, rfl, _, rfl, rfl, _, rfl, ite_b _ (fun co => ?_) (fun _ => hN _ (Same.refl _))⟩
          refine ⟨_, rfl, _, rfl, _, rfl, (by show 4 ≤ sizeLine; decide), fun t2 ht2 => hY _ _ (same_upd ht2) ⟨.give u q o, .tup (SqT.of upd_same) (.cons (.str _) (.cons (.int _) (.cons (Dp.same ((ff.e.trans e).trans (same_upd ht2)) _ _ hd2) (.cons (.int _) .nil)))), ⟨wq, hb', ho2, fun z => by rw [z, decide_eq_true rfl] at co; cases co⟩, (⟨ul, q4, by omega⟩ : u ≤ 1000 ∧ q.2 ≤ 1000 ∧ o ≤ 1000)⟩⟩
        rw [nv_len] at lz1
        refine ff.cat eA (n := 4) (by omega) hz1 (by omega) rz1 fun p1 H6 ff1 => ?_
        obtain ⟨yb, rfl, sy⟩ := it_at (Dp.same ff1.e _ _ hd2)
        refine ⟨_, rfl, yb, _, 0, _, rfl, rfl, sy, rfl, rfl, _, rfl, ite_b _ (fun c => ?_) (fun _ => ⟨_, _, _, rfl, ff1.more (by omega)⟩)⟩
        -- put
        refine ⟨_, rfl, _, rfl, pb, rfl, ⟨_, SqL.of (ff1.e _ _ hb3)⟩, fun D7 hD7 => ?_⟩
        refine lc_mk (K := K) (fun v H => DdU K d v H) (fun _ _ _ k h => h.nl k) (SqL.of (ff1.e _ _ hb3)) (by rw [rg_len]; omega) hD7 (fun m x H' N Y hm e hN hY => ?_) (fun HB z2 eB hz2 lz2 rz2 => ?_)
        · obtain ⟨hm', rfl⟩ := rg_get hm
          have dq := Dp.same (ff1.e.trans e) _ _ hd2
          refine ⟨_, rfl, _, rfl, (by show 2 ≤ sizeLine; decide), fun t ht => ?_⟩
          have ft := same_upd (o := HO.tup [V.str ("box" : Str), .int (m : Nat)]) ht
          refine ⟨itP q, itP (.box, m), Dp.same ft _ _ dq, .tup (SqT.of upd_same) (.cons (.str _) (.cons (.int _) .nil)), shaped_it _, shaped_it _, _, rfl, ite_b _ (fun cne => ?_) (fun _ => hN _ ft)⟩
          exact ⟨_, rfl, _, rfl, _, rfl, (by show 4 ≤ sizeLine; decide), fun t2 ht2 => hY _ _ (ft.trans (same_upd ht2)) ⟨.put u q m, .tup (SqT.of upd_same) (.cons (.str _) (.cons (.int _) (.cons (Dp.same (ft.trans (same_upd ht2)) _ _ dq) (.cons (.int _) .nil)))), ⟨⟨wq, hm'⟩, hb', (fun z => by rw [eqv_it, decide_eq_true z] at cne; cases cne), fun z => by rw [z] at c; exact absurd c (by decide +kernel)⟩, (⟨ul, q4, by omega⟩ : u ≤ 1000 ∧ q.2 ≤ 1000 ∧ m ≤ 1000)⟩⟩
        rw [rg_len] at lz2
        refine ff1.cat eB (n := 3) (by omega) hz2 (by omega) rz2 fun p2 H7 ff2 => ?_
        -- take
        refine ⟨_, rfl, _, rfl, pb, rfl, ⟨_, SqL.of (ff2.e _ _ hb3)⟩, fun D8 hD8 => ?_⟩
        refine lc_mk (K := K) (fun v H => DdU K d v H) (fun _ _ _ k h => h.nl k) (SqL.of (ff2.e _ _ hb3)) (by rw [rg_len]; omega) hD8 (fun m x H' N Y hm e hN hY => ?_) (fun HC z3 eC hz3 lz3 rz3 => ?_)
        · obtain ⟨hm', rfl⟩ := rg_get hm
          have dq := Dp.same (ff2.e.trans e) _ _ hd2
          refine ⟨_, rfl, _, rfl, (by show 2 ≤ sizeLine; decide), fun t ht => ?_⟩
          have ft := same_upd (o := HO.tup [V.str ("box" : Str), .int (m : Nat)]) ht
          refine ⟨itP q, itP (.box, m), Dp.same ft _ _ dq, .tup (SqT.of upd_same) (.cons (.str _) (.cons (.int _) .nil)), shaped_it _, shaped_it _, _, rfl, ite_b _ (fun cne => ?_) (fun _ => hN _ ft)⟩
          exact ⟨_, rfl, _, rfl, _, rfl, (by show 4 ≤ sizeLine; decide), fun t2 ht2 => hY _ _ (ft.trans (same_upd ht2)) ⟨.take u q m, .tup (SqT.of upd_same) (.cons (.str _) (.cons (.int _) (.cons (Dp.same (ft.trans (same_upd ht2)) _ _ dq) (.cons (.int _) .nil)))), ⟨⟨wq, hm'⟩, hb', (fun z => by rw [eqv_it, decide_eq_true z] at cne; cases cne), fun z => by rw [z] at c; exact absurd c (by decide +kernel)⟩, (⟨ul, q4, by omega⟩ : u ≤ 1000 ∧ q.2 ≤ 1000 ∧ m ≤ 1000)⟩⟩
        rw [rg_len] at lz3
        refine ff2.cat eC (n := 3) (by omega) hz3 (by omega) rz3 fun p3 H8 ff3 => ?_
        exact ⟨_, _, _, rfl, ff3.more (by omega)⟩
      · rintro σ H5 ⟨p, vi, vb, rfl, ff⟩
        refine ⟨_, rfl, pb, rfl, ⟨_, SqL.of (ff.e _ _ hb3)⟩, ?_⟩
        refine for_list (K := K) (a := pb) (xs := rgV 0 (d.bs.length : Nat)) (fun j σ H' => ∃ (p : Addr) (vb : Option V), σ = [some (.ref a), some (.ref hp), some (.ref p), some (.ref pI), some (.ref pb), some (.ref ps), some (.int (u : Nat)), vi, none, vb, none] ∧ FG K d H0 H' p (i * 120 + 100 + j * 4) (min j 1))
          ⟨p, vb, rfl, ff.more (by omega)⟩ (fun j σ H' _ ⟨_, _, _, ff⟩ => SqL.of (ff.e _ _ hb3)) ?_ ?_
        · rintro j y σ H5 hj ⟨p, vb, rfl, ff⟩
          obtain ⟨hj', rfl⟩ := rg_get hj
          refine ⟨_, rfl, _, rfl, _, rfl, (by show 3 ≤ sizeLine; decide), fun t1 ht1 => ⟨(by show 1 ≤ sizeLine; decide), fun D6 hD6 => ?_⟩⟩
          have g1 := same_upd (o := HO.tup [V.str ("break" : Str), .int (u : Nat), .int (j : Nat)]) ht1
          have g2 := same_upd (o := HO.lst [V.ref t1]) hD6
          refine ff.cat (g1.trans g2) (n := 1) (by omega) upd_same (Nat.le_refl _) (fun v hv => ?_) fun p1 H6 ff1 => ?_
          · have ev : v = .ref t1 := by simpa using hv
            subst ev
            exact ⟨.brk u j, .tup (SqT.of (g2 _ _ upd_same)) (.cons (.str _) (.cons (.int _) (.cons (.int _) .nil))), ⟨hj', hb'⟩, (⟨ul, by omega⟩ : u ≤ 1000 ∧ j ≤ 1000)⟩
          refine ⟨_, rfl, ps, rfl, ⟨_, SqL.of (ff1.e _ _ hs3)⟩, fun D7 hD7 => ?_⟩
          refine lc_mk (K := K) (fun v H => DdU K d v H) (fun _ _ _ k h => h.nl k) (SqL.of (ff1.e _ _ hs3)) (by rw [rg_len]; omega) hD7 (fun m x H' N Y hm e hN hY => ?_) (fun HB z2 eB hz2 lz2 rz2 => ?_)
          · obtain ⟨hm', rfl⟩ := rg_get hm
            exact yes_lc ⟨_, rfl, _, rfl, _, rfl, (by show 4 ≤ sizeLine; decide), fun t ht => hY _ _ (same_upd ht) ⟨.lock u j m, .tup (SqT.of upd_same) (.cons (.str _) (.cons (.int _) (.cons (.int _) (.cons (.int _) .nil)))), ⟨⟨hj', hm'⟩, hb'⟩, (⟨ul, by omega, by omega⟩ : u ≤ 1000 ∧ j ≤ 1000 ∧ m ≤ 1000)⟩⟩
          rw [rg_len] at lz2
          refine ff1.cat eB (n := 3) (by omega) hz2 (by omega) rz2 fun p2 H7 ff2 => ?_
          exact ⟨_, _, rfl, ff2.more (by omega) (by have : [V.ref t1].length = 1 := rfl; omega)⟩
        · rintro σ H5 ⟨p, vb, rfl, ff⟩
          rw [rg_len] at ff
          exact ⟨_, _, _, _, rfl, ff.more (by omega) (by omega)⟩
    · rintro σ H4 ⟨p, vh, vi, vb, rfl, ff⟩
      rw [nv_len] at ff
      obtain ⟨e0, xs, hxs, lxs, rxs, lo⟩ := ff
      obtain ⟨es, hes⟩ := ddu_all rxs
      refine ⟨_, rfl, p, xs, es.map ddD, rfl, SqL.of hxs, hes, fun q hq => ?_, fun q hq q' hq' => ?_, fun ys p' hperm hp9 => ?_⟩
      · obtain ⟨e', _, rfl⟩ := List.mem_map.mp hq
        exact sd_dd e'
      · obtain ⟨e', _, rfl⟩ := List.mem_map.mp hq
        obtain ⟨f', _, rfl⟩ := List.mem_map.mp hq'
        exact tc_dd e' f'
      · exact k p' ys _ ((e03.trans e0).trans (same_upd hp9)) (same_none (e03.trans e0) hp9) upd_same (by rw [hperm.length_eq]; omega) (by rw [hperm.length_eq]; omega) (fun v hv => (rxs v (hperm.mem_iff.mp hv)).nl (nl_same (same_upd hp9)))
end
end Kw



set_option Elab.async false
set_option linter.all false
set_option maxRecDepth 100000
set_option maxHeartbeats 8000000
namespace Kw
open PySem PySem.Spec PyProof.Rows L2
theorem cut_fromV {xs : List V} {n : Nat} (h : n ≤ xs.length) : cutV xs (some (n : Int)) none = xs.drop n := by
  unfold cutV
  rw [HT.sIx_none, HT.sIx_nat, Nat.min_eq_left h]
  rw [List.take_of_length_le]
  rw [List.length_drop]
  omega
theorem Tabs.kb {T : List (Addr × Str)} {b l : Addr} {H H' : Hp} (k : Kb b l H H') (t : LamX.Tabs T H) : LamX.Tabs T H' := fun p hp => by
  obtain ⟨ps, h1, h2, h3⟩ := t p hp
  refine ⟨ps, k.tb _ _ h1, h2, fun pos cv hc => ?_⟩
  obtain ⟨c, e1, e2⟩ := h3 pos cv hc
  exact ⟨c, e1, k.kp.nl _ _ e2 (fun xs z => by unfold LamX.CodeO at z; cases z) (fun ps z => LamX.codeO_ne ps z)⟩
/-- what a work gives, told by `_law_fail`; its maker's state is σ0 -/
def tFB (X : Cx) (K : PySem.W.Frag) (mg : Str → Option Value) (CW : Addr) (σ0 : L2.St) : TE := fun σ H Q => tVar 16 σ H fun v H1 => ∃ f t, v = .ref f ∧ LmX.LamIs X 8 H1 f t ∧ TFail K mg CW (fun E H' Q' => t E σ0 H' Q') H1 Q
def tFH (X : Cx) (K : PySem.W.Frag) (mg : Str → Option Value) (CW : Addr) (te : TE) : TE := fun σ H Q => te σ H fun v H1 => ∃ f t, v = .ref f ∧ LmX.LamIs X 8 H1 f t ∧ TFail K mg CW (fun E H' Q' => t E σ H' Q') H1 Q
/-- a work that gives d, from H on -/
def WorkD (K : PySem.W.Frag) (mg : Str → Option Value) (CW : Addr) (σ : L2.St) (H : Hp) (t : XK → TE) (d : PyData) : Prop :=
  ∀ H' Q, Same H H' → (∀ v H2, Same H' H2 → Dp K H2 v d → Q v H2) → TFail K mg CW (fun E H Q => t E σ H Q) H' Q
theorem WorkD.same {K : PySem.W.Frag} {mg : Str → Option Value} {CW : Addr} {σ : L2.St} {H H1 : Hp} {t : XK → TE} {d : PyData} (e : Same H H1) (w : WorkD K mg CW σ H t d) : WorkD K mg CW σ H1 t d := fun H' Q e' k => w H' Q (e.trans e') k
/-- [_law_fail(work) for work in works] -/
theorem works_read {X : Cx} {K : PySem.W.Frag} {mg : Str → Option Value} {CW : Addr} {σ : L2.St} {H : Hp} {lw D : Addr} {Qd : Hp → Prop} (ws : List (Addr × (XK → TE) × PyData)) (hs : 16 < σ.length) (hn : ws.length ≤ 100) (hw : H lw = some (.lst (ws.map fun x => V.ref x.1))) (hD : H D = none)
    (hall : ∀ x ∈ ws, LmX.LamIs X 8 H x.1 x.2.1 ∧ WorkD K mg CW σ H x.2.1 x.2.2 ∧ noL x.2.2 = true) (k : ∀ xs H', Same H H' → H' D = some (.lst xs) → DpAll K H' xs (ws.map fun x => x.2.2) → Qd H') :
    ∃ W : Nat → Nat → Hp → Prop, (∃ m, W 0 m (upd H D (.lst []))) ∧ ∀ i m H, W i m H →
      ((Itl K lw).stop i H ∧ Qd H) ∨ ((Itl K lw).go i H ∧ ∃ Nx : Hp → Prop, (∀ H', Nx H' → ∃ m', m' < m ∧ W (i + 1) m' H') ∧ ∀ x H', (Itl K lw).yld i H x H' → gName 16 x (wipe σ [16]) H' fun σ2 H2 => wipe σ2 [16] = wipe σ [16] ∧ tYes σ2 H2 fun b H3 =>
        if b = true then tFB X K mg CW σ σ2 H3 fun y H4 => ∃ acc, H4 D = some (.lst acc) ∧ acc.length < sizeLine ∧ Nx (upd H4 D (.lst (acc ++ [y]))) else Nx H3) := by
  have l5 := sizeLine_eq
  refine lc_list (K := K) (a := lw) (xs := ws.map fun x => V.ref x.1) (Qd := Qd) (fun i H' => Same H H' ∧ ∃ acc, H' D = some (.lst acc) ∧ acc.length = i ∧ DpAll K H' acc ((ws.take i).map fun x => x.2.2)) ⟨same_upd hD, [], upd_same, rfl, .nil⟩ (fun i H' _ ⟨e, _⟩ => SqL.of (e _ _ hw)) ?_ ?_
  · rintro i x H' hi ⟨e, acc, ha, hla, hd⟩
    rw [List.getElem?_map] at hi
    cases hz : ws[i]? with
    | none => rw [hz] at hi; cases hi
    | some y =>
      rw [hz] at hi
      obtain rfl : V.ref y.1 = x := Option.some.inj hi
      obtain ⟨h1, h2, h3⟩ := hall y (List.mem_of_getElem? hz)
      have hil := (List.getElem?_eq_some_iff.mp hz).1
      refine ⟨wipe_one _ 16 _, yes_lc ⟨.ref y.1, ?_, y.1, y.2.1, rfl, h1.keep (LmX.KeepX.of e), ?_⟩⟩
      · show ((wipe σ [16]).set 16 (some (V.ref y.1)))[16]? = _
        rw [List.getElem?_set_self (by rw [wipe_length]; exact hs)]
      · refine h2 H' _ e fun v H2 e2 dv => ⟨acc, e2 _ _ ha, by omega, ?_⟩
        have nl : Nl H2 (upd H2 D (.lst (acc ++ [v]))) := fun a u h n _ => by
          by_cases c : a = D
          · subst c
            rw [e2 _ _ ha] at h
            cases h
            exact absurd rfl (n _)
          · rw [upd_ne c]; exact h
        have sm : Same H (upd H2 D (.lst (acc ++ [v]))) := fun a u h => by
          rw [upd_ne (ne_of_none h hD)]
          exact e2 _ _ (e _ _ h)
        refine ⟨sm, _, upd_same, by rw [List.length_append, hla]; rfl, ?_⟩
        rw [List.take_add_one, hz, List.map_append]
        have all3 : noLs ((ws.take i).map fun x => x.2.2) = true := by
          have : ∀ l : List (Addr × (XK → TE) × PyData), (∀ x ∈ l, noL x.2.2 = true) → noLs (l.map fun x => x.2.2) = true := by
            intro l
            induction l with
            | nil => intro _; rfl
            | cons a r ih =>
              intro h
              show (noL a.2.2 && noLs (r.map fun x => x.2.2)) = true
              rw [h a List.mem_cons_self, ih fun x hx => h x (List.mem_cons_of_mem _ hx)]
              rfl
          exact this _ fun x hx => (hall x (List.mem_of_mem_take hx)).2.2
        exact DpAll.app (Dp.nls nl _ _ all3 (Dp.sames e2 _ _ hd)) (.cons (Dp.nl nl _ _ h3 dv) .nil)
  · rintro H' ⟨e, acc, ha, _, hd⟩
    rw [List.length_map, List.take_length] at hd
    exact k acc H' e ha hd
theorem full_ex {d : Hs} {es : List Dd} (wf : Wf d) (kn : KnAll d es) (fr : Four d) : ∃ sts e, Full d es sts e := by
  have go : ∀ (n : Nat) (sts : List Hs), 1297 - sts.length ≤ n → Chain d es sts → ∃ sts e, Full d es sts e := by
    intro n
    induction n with
    | zero =>
      intro sts h ch
      have := ch.len wf kn fr
      omega
    | succ n ih =>
      intro sts h ch
      have hp := ch.pos
      obtain ⟨la, hla⟩ : ∃ la, sts[sts.length - 1]? = some la := ⟨_, List.getElem?_eq_getElem (by omega)⟩
      cases z : runAll la es 0 with
      | mk s o =>
        cases o with
        | some j => exact ⟨sts, .inl (s, j), ch, la, hla, .inl ⟨s, j, rfl, z⟩⟩
        | none =>
          by_cases hm : s ∈ sts
          · obtain ⟨q, hq⟩ := List.mem_iff_getElem?.mp hm
            exact ⟨sts, .inr q, ch, la, hla, .inr ⟨q, s, rfl, hq, z⟩⟩
          · exact ih (sts ++ [s]) (by rw [List.length_append, List.length_singleton]; omega) (ch.snoc hla z hm)
  exact go 1297 [d] (by simp) ⟨rfl, fun i a b _ hb => by simp at hb, by simp⟩

theorem dp_take {K : PySem.W.Frag} {H : Hp} : ∀ {n : Nat} {xs : List V} {ds : List PyData}, DpAll K H xs ds → DpAll K H (xs.take n) (ds.take n)
  | 0, _, _, _ => .nil
  | _ + 1, _, _, .nil => .nil
  | _ + 1, _, _, .cons h t => .cons h (dp_take t)
theorem dp_drop {K : PySem.W.Frag} {H : Hp} : ∀ {n : Nat} {xs : List V} {ds : List PyData}, DpAll K H xs ds → DpAll K H (xs.drop n) (ds.drop n)
  | 0, _, _, h => h
  | _ + 1, _, _, .nil => .nil
  | n + 1, _, _, .cons (vs := vs) (ds := ds) _ t => (dp_drop (n := n) (xs := vs) (ds := ds) t)
theorem dp_rep {K : PySem.W.Frag} {H : Hp} {v : V} {d : PyData} (h : Dp K H v d) : ∀ n : Nat, DpAll K H (List.replicate n v) (List.replicate n d)
  | 0 => .nil
  | n + 1 => .cons h (dp_rep h n)
/-- a row of deeds that cannot be, and where -/
def RowOk (K : PySem.W.Frag) (d : Hs) (H : Hp) (lr due : Nat) : Prop := ∃ ys esr, H lr = some (.lst ys) ∧ DpAll K H ys (esr.map ddD) ∧ (∀ e ∈ esr, Sm e) ∧ ys.length ≤ 1000 ∧ BadRd d esr due
theorem RowOk.same {K : PySem.W.Frag} {d : Hs} {H H' : Hp} {lr due : Nat} (e : Same H H') (x : RowOk K d H lr due) : RowOk K d H' lr due := by
  obtain ⟨ys, es, h1, h2, h3⟩ := x
  exact ⟨ys, es, e _ _ h1, Dp.sames e _ _ h2, h3⟩
theorem RowOk.kb {K : PySem.W.Frag} {d : Hs} {H H' : Hp} {lr due h c : Nat} (k : Kb h c H H') (n : lr ≠ h ∧ lr ≠ c) (x : RowOk K d H lr due) : RowOk K d H' lr due := by
  obtain ⟨ys, es, h1, h2, h3⟩ := x
  exact ⟨ys, es, k.kp.ls _ _ h1 n.1 n.2, Dp.nls k.nl _ _ (noLs_map ddD noL_dd es) h2, h3⟩
theorem RowOk.ext {K : PySem.W.Frag} {d : Hs} {H H' : Hp} {lr due : Nat} (e : LamX.ExtN H H') (x : RowOk K d H lr due) : RowOk K d H' lr due := by
  obtain ⟨ys, es, h1, h2, h3⟩ := x
  exact ⟨ys, es, e _ _ h1 (fun _ z => nomatch z), Dp.nls (fun a o q _ n => e a o q n) _ _ (noLs_map ddD noL_dd es) h2, h3⟩
theorem ext_nl {H H' : Hp} (e : LamX.ExtN H H') : Nl H H' := fun a o h _ n => e a o h n
/-- what stands through a turn -/
structure TW (K : PySem.W.Frag) (C CW : Addr) (T : List (Addr × Str)) (h c a hh : Addr) (d : Hs) (H : Hp) : Prop where
  hB : HAt H h c
  hT : LamX.Tabs T H
  hw : WorldAt K CW H a hh d
  hh : HouseAt K C H hh d
theorem TW.same {K : PySem.W.Frag} {C CW : Addr} {T : List (Addr × Str)} {h c a hh : Addr} {d : Hs} {H H' : Hp} (e : Same H H') (x : TW K C CW T h c a hh d H) : TW K C CW T h c a hh d H' :=
  ⟨x.hB.same e, LamX.Tabs.ext x.hT (fun c o q => e c o q), x.hw.same e, x.hh.nl (nl_same e)⟩
theorem TW.kb {K : PySem.W.Frag} {C CW : Addr} {T : List (Addr × Str)} {h c a hh : Addr} {d : Hs} {H H' : Hp} (k : Kb h c H H') (b : HAt H' h c) (x : TW K C CW T h c a hh d H) : TW K C CW T h c a hh d H' :=
  ⟨b, Tabs.kb k x.hT, x.hw.nl k.nl, x.hh.nl k.nl⟩
theorem TW.ext {K : PySem.W.Frag} {C CW : Addr} {T : List (Addr × Str)} {h c a hh : Addr} {d : Hs} {H H' : Hp} (e : LamX.ExtN H H') (t : LamX.Tabs T H') (x : TW K C CW T h c a hh d H) : TW K C CW T h c a hh d H' := by
  obtain ⟨st, k, ns, h1, h2, h3⟩ := x.hB
  exact ⟨⟨st, k, ns, e _ _ h1 (fun _ z => nomatch z), e _ _ h2 (fun _ z => nomatch z), h3⟩, t, x.hw.nl (ext_nl e), x.hh.nl (ext_nl e)⟩
theorem TW.lst {K : PySem.W.Frag} {C CW : Addr} {T : List (Addr × Str)} {h c a hh l : Addr} {d : Hs} {H : Hp} {xs ys : List V} (hl : H l = some (.lst xs)) (n : l ≠ h ∧ l ≠ c) (x : TW K C CW T h c a hh d H) : TW K C CW T h c a hh d (L2.upd H l (.lst ys)) := by
  have nl : Nl H (L2.upd H l (.lst ys)) := fun b o e n1 _ => by
    rw [upd_ne (fun z => by rw [z, hl] at e; exact n1 _ (Option.some.inj e).symm)]
    exact e
  refine ⟨x.hB.updD n.1 n.2, fun p hp => ?_, x.hw.nl nl, x.hh.nl nl⟩
  have up : ∀ {b o}, H b = some o → (∀ xs, o ≠ .lst xs) → (L2.upd H l (.lst ys)) b = some o := fun {b o} e n => by
    rw [upd_ne (fun z => by rw [z, hl] at e; exact n _ (Option.some.inj e).symm)]
    exact e
  obtain ⟨ps, z1, z2, z3⟩ := x.hT p hp
  refine ⟨ps, up z1 (fun _ z => by cases z), z2, fun pos cv hc => ?_⟩
  obtain ⟨cc, y1, y2⟩ := z3 pos cv hc
  exact ⟨cc, y1, up y2 (fun _ z => by unfold LamX.CodeO at z; cases z)⟩
theorem RowOk.lst {K : PySem.W.Frag} {d : Hs} {H : Hp} {lr due l : Nat} {xs ys : List V} (hl : H l = some (.lst xs)) (n : lr ≠ l) (x : RowOk K d H lr due) : RowOk K d (L2.upd H l (.lst ys)) lr due := by
  obtain ⟨zs, es, h1, h2, h3⟩ := x
  exact ⟨zs, es, by rw [upd_ne n]; exact h1, Dp.nls (fun b o e n1 _ => by rw [upd_ne (fun z => by rw [z, hl] at e; exact n1 _ (Option.some.inj e).symm)]; exact e) _ _ (noLs_map ddD noL_dd es) h2, h3⟩
/-! ### rows of deeds that cannot be -/
theorem badRd_uniq {d : Hs} {es : List Dd} {i j : Nat} (a : BadRd d es i) (b : BadRd d es j) : i = j := by
  rcases a with ⟨a1, a2⟩ | ⟨a1, a2, a3⟩
  · rcases b with ⟨_, b2⟩ | ⟨b1, _, _⟩
    · omega
    · omega
  · rcases b with ⟨b1, _⟩ | ⟨b1, b2, b3⟩
    · omega
    · rcases Nat.lt_trichotomy i j with c | c | c
      · obtain ⟨h1, h2⟩ := b2 i c
        rcases a3 with h | ⟨e, h3, h4⟩
        · omega
        · exact absurd (h2 e h3) h4
      · exact c
      · obtain ⟨h1, h2⟩ := a2 j c
        rcases b3 with h | ⟨e, h3, h4⟩
        · omega
        · exact absurd (h2 e h3) h4
theorem badRd_good {d : Hs} {es : List Dd} {i : Nat} (a : BadRd d es i) : ¬ GoodRd d es := by
  rintro ⟨g1, g2, g3⟩
  rcases a with ⟨a1, _⟩ | ⟨a1, a2, a3⟩
  · omega
  · rcases a3 with h | ⟨e, h3, h4⟩
    · omega
    · exact h4 (g3 e (List.mem_of_getElem? h3))
theorem good_bad {d : Hs} {es : List Dd} (g : GoodRd d es) : ∀ i, ¬ BadRd d es i := fun i b => badRd_good b g
/-- the deeds that cannot be -/
def bads (d : Hs) : List Dd := [.give d.hands.toNat (.box, 0) 0, .give 0 (.box, 0) 0, .put 0 (.box, 0) 0, .take 0 (.sl, 0) 0, .brk 0 d.bs.length, .lock 0 0 d.ss.length, .give 0 (.thing, 9) 0]
theorem bads_unk {d : Hs} (o : HsOk d) : ∀ e ∈ bads d, unkOf d e ≠ "" ∧ Sm e := by
  have h0 := o.h0
  have h1 := o.h1
  have b0 := o.b0
  have b1 := o.b1
  have t1 := o.t1
  have s1 := o.s1
  have n1 : ¬ d.hands ≤ ((0 : Nat) : Int) := by omega
  have i0 : inH d (.box, 0) := (show 0 < d.bs.length by omega)
  intro e he
  simp only [bads, List.mem_cons, List.not_mem_nil, or_false] at he
  rcases he with rfl | rfl | rfl | rfl | rfl | rfl | rfl
  · refine ⟨?_, ⟨by omega, by decide, by decide⟩⟩
    unfold unkOf
    rw [if_pos (show d.hands ≤ ((Dd.give d.hands.toNat (.box, 0) 0).hand : Int) by show d.hands ≤ ((d.hands.toNat : Nat) : Int); omega)]
    decide +kernel
  · refine ⟨?_, ⟨by decide, by decide, by decide⟩⟩
    unfold unkOf
    rw [if_neg (by exact n1)]
    simp only
    rw [if_neg (fun z => z i0), if_pos (.inr True.intro)]
    decide +kernel
  · refine ⟨?_, ⟨by decide, by decide, by decide⟩⟩
    unfold unkOf
    rw [if_neg (by exact n1)]
    simp only
    rw [if_neg (fun z => z.elim (fun z => z i0) (fun z => by cases z)), if_neg (by omega), if_pos True.intro]
    decide +kernel
  · refine ⟨?_, ⟨by decide, by decide, by decide⟩⟩
    unfold unkOf
    rw [if_neg (by exact n1)]
    simp only
    rw [if_pos (.inr True.intro)]
    decide +kernel
  · refine ⟨?_, ⟨by decide, by omega⟩⟩
    unfold unkOf
    rw [if_neg (by exact n1)]
    simp only
    rw [if_pos (Nat.le_refl _)]
    decide +kernel
  · refine ⟨?_, ⟨by decide, by decide, by omega⟩⟩
    unfold unkOf
    rw [if_neg (by exact n1)]
    simp only
    rw [if_neg (by omega), if_pos (Nat.le_refl _)]
    decide +kernel
  · refine ⟨?_, ⟨by decide, by decide, by decide⟩⟩
    unfold unkOf
    rw [if_neg (by exact n1)]
    simp only
    rw [if_pos (show ¬ inH d (.thing, 9) from fun z => by have z : 9 < d.ts.length := z; omega)]
    decide +kernel
theorem brk_kn {d : Hs} (o : HsOk d) : (Kn d (.brk 0 0) ∧ Hb d (.brk 0 0)) ∧ Sm (.brk 0 0) := by
  have h0 := o.h0
  have b0 := o.b0
  exact ⟨⟨(by show 0 < d.bs.length; omega), (by show ((0 : Nat) : Int) < d.hands; omega)⟩, by decide, by decide⟩
def KnAl (d : Hs) (es : List Dd) : Prop := ∀ e ∈ es, (Kn d e ∧ Hb d e) ∧ Sm e
theorem KnAl.un {d : Hs} {es : List Dd} (k : KnAl d es) : ∀ e ∈ es, unkOf d e = "" := fun e he => unk_of (k e he).1.1 (k e he).1.2
/-- the rows that are tried, and where they are wrong -/
theorem row0_bad {d : Hs} {es : List Dd} {p : Nat} {b : Dd} (o : HsOk d) (k : KnAl d es) (l : es.length ≤ 8) (hp : p ≤ es.length) (hb : b ∈ bads d) : BadRd d (es.take p ++ [b] ++ es.drop p) p := by
  have lt : (es.take p).length = p := by rw [List.length_take]; omega
  refine .inr ⟨?_, fun j hj => ⟨by omega, fun e he => ?_⟩, .inr ⟨b, ?_, (bads_unk o b hb).1⟩⟩
  · simp only [List.length_append, List.length_singleton, List.length_drop, lt]; omega
  · rw [List.append_assoc, List.getElem?_append_left (by omega)] at he
    exact k.un e (List.mem_of_mem_take (List.mem_of_getElem? he))
  · rw [List.append_assoc, List.getElem?_append_right (by omega), lt]
    simp
theorem rowN_bad {d : Hs} {r : List Dd} (o : HsOk d) (h : 0 < r.length) : BadRd d (List.replicate 12 (.brk 0 0) ++ r) 12 := by
  refine .inr ⟨by simp only [List.length_append, List.length_replicate]; omega, fun j hj => ⟨hj, fun e he => ?_⟩, .inl rfl⟩
  rw [List.getElem?_append_left (by simp; omega)] at he
  obtain rfl := List.eq_of_mem_replicate (List.mem_of_getElem? he)
  exact unk_of (brk_kn o).1.1 (brk_kn o).1.2
end Kw

set_option Elab.async false
set_option linter.all false
set_option maxRecDepth 100000
set_option maxHeartbeats 8000000
namespace Kw
open PySem PySem.Spec PyProof.Rows L2
abbrev sL41 : Stmt := top 72
abbrev n41 : List Str := ["_law_script", "_law_h", "_law_turn", "_law_drawn_here", "_law_world", "_law_known_here", "_law_deeds", "_law_k", "_law_box", "_law_bad", "_law_place", "_law_rows", "_law_row", "_law_due", "_law_wrong", "_law_works", "_law_work"]
theorem scL41 : FnScope n41 ["_law_script"] (defScope sL41) := ⟨rfl, rfl, rfl, by decide +kernel, rfl, by decide +kernel, by decide +kernel⟩
abbrev lawX (P : Program) (w : World) (K : PySem.W.Frag) (mg : Str → Option Value) (base : Heap) (f cd : Addr) (A : Around) (outer : List Env) (s : Shared) (H : Hp) (E : XK) : Cx := (cxOf CX0 P w K mg base ["_law_script", "_law_h", "_law_turn", "_law_drawn_here", "_law_world", "_law_known_here", "_law_deeds", "_law_k", "_law_box", "_law_bad", "_law_place", "_law_rows", "_law_row", "_law_due", "_law_wrong", "_law_works", "_law_work"] "law" (defScope sL41) f (.ref cd) A outer s H E).nox
/-- `_law_fail` is there -/
structure FailK (K : PySem.W.Frag) (mg : Str → Option Value) (g : Addr) (oc kV doc pm cdv ct : Value) (an od : Option Addr) (osl : Array (Option Value)) : Prop where
  m : mg "_law_fail" = some (.ref g)
  k : PySem.W.keepIn K (.ref g) = true
  lk : K.lookup g = some ⟨oc, od, .func (PySem.W.fnOf "_law_fail" "_law_fail" (defArgs sFail) (defBody sFail) (defScope sFail) .none kV doc pm an cdv ct), osl⟩
  cg : PySem.W.codeIn K cdv "_law_fail" = true
  b : Binds K (PySem.W.fnOf "_law_fail" "_law_fail" (defArgs sFail) (defBody sFail) (defScope sFail) .none kV doc pm an cdv ct) ["_law_work"] []
section
variable {K : PySem.W.Frag} {mg : Str → Option Value} {g CW : Addr} {oc kV doc pm cdv ct : Value} {an od : Option Addr} {osl : Array (Option Value)} {X : Cx}
theorem pe_failB {σ0 : L2.St} {s : Shared} {H : Hp} {C : Addr} {scope : Scope} {cl : List (Str × Addr)} {fp : List Addr} {p p1 pos : Pos} (fk : FailK K mg g oc kV doc pm cdv ct an od osl) (hK : X.K = K) (hmg : X.mg = mg) (mW : mg "WatchError" = some (.ref CW)) (B : Bt mg) (hr : Room 10 X.A)
    (hC : LmX.CFs X σ0 H s.heap) (hfp : ∀ b ∈ fp, ∀ y c, X.env.cells.lookup y = some c → c ≠ b) (he : PE (X.blk s H scope (compEnvC scope cl C X.env) fp) (.Name "_law_work" p1) (tVar 16)) (hg : Gl (X.blk s H scope (compEnvC scope cl C X.env) fp) "_law_fail" := by rfl) :
    PE (X.blk s H scope (compEnvC scope cl C X.env) fp) (.Call (.Name "_law_fail" p) [.Name "_law_work" p1] [] pos) (tFB X K mg CW σ0) := by
  subst hK hmg
  exact LmX.pe_fcall (X := X) (s0 := s) (H0 := H) (env := compEnvC scope cl C X.env) (outer := X.stack) (ex := fp) (calm := X.calm) (pnY := []) (xeY := fun _ _ => False) (sgm := fun _ => σ0) (k := 8) (Ng := nFail) (a := "_law_work") (fun pins s' σ' H' I => hC.go I.base fun y c e hm => hfp c hm y c e rfl) he hg fk.m fk.k fk.lk fk.cg fk.b scFail rfl (.inl rfl) (fail_gives mW B) hr rfl (by decide) (by decide) (by decide)
theorem pe_failH {e : Expr} {te : TE} {p pos : Pos} (fk : FailK K mg g oc kV doc pm cdv ct an od osl) (hK : X.K = K) (hmg : X.mg = mg) (mW : mg "WatchError" = some (.ref CW)) (B : Bt mg) (hr : Room 10 X.A)
    (he : PE X e te) (hg : Gl X "_law_fail" := by rfl) (hst : starEach [e] X.env = [(false, eval e X.env)] := by rfl) :
    PE X (.Call (.Name "_law_fail" p) [e] [] pos) (tFH X K mg CW te) := by
  subst hK hmg
  exact LmX.pe_fcall (X := X) (s0 := X.s_0) (H0 := X.H_0) (env := X.env) (outer := X.outer) (ex := X.ex) (fn := X.fn) (calm := X.calm) (pnY := X.pn) (xeY := X.xe) (sgm := fun σ => σ) (k := 8) (Ng := nFail) (a := "_law_work") (fun pins s' σ' H' I => LmX.CFs.of I) he hg fk.m fk.k fk.lk fk.cg fk.b scFail rfl (.inl rfl) (fail_gives mW B) hr hst (by decide) (by decide) (by decide)
end
section
variable {P : Program} {w : World} {K : PySem.W.Frag} {mg : Str → Option Value} {base : Heap}
structure LawK (P : Program) (w : World) (K : PySem.W.Frag) (mg : Str → Option Value) (base : Heap) (C CW XR XN CWt : Addr) (ce : Str → Addr) : Prop where
  MI : ∃ g fd, OnceF P w K mg base "_law_mix" 1 ["_law_script", "_law_seed"] (spMix K) g fd
  NX : ∃ g fd, OnceF P w K mg base "_law_next" 1 ["_law_h", "_law_limit"] spNx g fd
  DN : ∃ g fd, OnceF P w K mg base "_law_drawn" 2 ["_law_h", "_law_most"] (spDrn K) g fd
  HM : ∃ g fd, OnceF P w K mg base "_law_house" 7 ["_law_drawn_here"] (spHsM K C) g fd
  KN : ∃ g fd, OnceF P w K mg base "_law_known" 2 ["_law_drawn_here", "_law_hands"] (spKnN K) g fd
  AL : ∃ g fd, OnceF P w K mg base "_law_alike" 5 ["_law_found", "_law_due"] (spAlD K 5) g fd
  RN : ∃ g fd, OnceY P w K mg base "rounds" 8 ["world", "deeds", "count"] (spRndX K C CW XR XN) g fd
  TN : ∃ g fd, OnceY P w K mg base "true_rounds" 8 ["world", "deeds", "sight", "count"] (spTrdX K C CW XR XN ce 3) g fd
  FR : ∃ g fd, OnceY P w K mg base "first_round" 8 ["world", "deeds", "sight"] (spFrX K C CW XR ce 3) g fd
  FA : ∃ g oc kV doc pm cdv ct an od osl, FailK K mg g oc kV doc pm cdv ct an od osl
  WM : ∃ g fd, WMk P w K mg base C CW g fd
  WC : WorldC K CW
  mW : mg "WatchError" = some (.ref CWt)
  cR : FailC K mg XR CWt true false false
  cN : FailC K mg XN CWt false true false
  cB : FailC K mg (ce "UnknownBox") CWt false false true
section
variable {C CW XR XN CWt : Addr} {ce : Str → Addr} {σ : L2.St} {H : Hp}
def invD (due : Nat) : PyData := .tuple [.str "InvalidRound", .int (due : Nat)]
theorem alk_inv (due n : Nat) : Alk 5 (.list (List.replicate 3 (invD due))) := by
  refine ⟨by simp, fun e he => ?_⟩
  rw [List.eq_of_mem_replicate he]
  refine ⟨by simp, fun e he => ?_⟩
  simp at he
  rcases he with rfl | rfl <;> exact True.intro
def strsD : List PyData := [.str "InvalidNumber", .str "UnknownBox", .str "InvalidNumber", .str "UnknownBox"]
theorem alk_strs : Alk 5 (.list strsD) := by
  refine ⟨by simp [strsD], fun e he => ?_⟩
  simp [strsD] at he
  rcases he with rfl | rfl | rfl | rfl <;> exact True.intro
theorem due_tup {H : Hp} {v : V} {sts : List Hs} {e : (Hs × Nat) ⊕ Nat} {c : Nat} (h : Dp K H v (dueN sts e c)) : ∃ p xs, v = .ref p ∧ SqT K H p xs := by
  unfold dueN at h
  split at h
  · cases h with
    | tup hs ha => exact ⟨_, _, rfl, hs⟩
  · cases e with
    | inl q =>
      cases h with
      | tup hs ha => exact ⟨_, _, rfl, hs⟩
    | inr q =>
      cases h with
      | tup hs ha => exact ⟨_, _, rfl, hs⟩
theorem rx_fail (L : LawK P w K mg base C CW XR XN CWt ce) {Q : VK} {due : Nat} {H : Hp} (k : ∀ v H2, Same H H2 → Dp K H2 v (invD due) → Q v H2) : Rx XR due H (failOut K mg CWt Q) := fun dd H2 e2 hx =>
  ⟨XR, true, false, false, rfl, L.cR, fun d hd => by cases hd; exact ⟨_, hx⟩, fun _ => ⟨dd, due, rfl, hx, fun v H3 e3 dv => k v H3 (e2.trans e3) dv⟩, fun z => nomatch z⟩
theorem rn_fail (L : LawK P w K mg base C CW XR XN CWt ce) {Q : VK} {H : Hp} (k : ∀ v H2, Same H H2 → Dp K H2 v (.str "InvalidNumber") → Q v H2) : Rp XN H (failOut K mg CWt Q) := fun H2 e2 =>
  ⟨XN, false, true, false, rfl, L.cN, (fun d hd => nomatch hd), (fun z => nomatch z), fun _ H3 e3 => k _ H3 (e2.trans e3) (.str _)⟩
theorem rb_fail (L : LawK P w K mg base C CW XR XN CWt ce) {Q : VK} {H : Hp} (k : ∀ v H2, Same H H2 → Dp K H2 v (.str "UnknownBox") → Q v H2) : Rp (ce "UnknownBox") H (failOut K mg CWt Q) := fun H2 e2 =>
  ⟨ce "UnknownBox", false, false, true, rfl, L.cB, (fun d hd => nomatch hd), (fun z => nomatch z), fun _ H3 e3 => k _ H3 (e2.trans e3) (.str _)⟩
abbrev tRn (K : PySem.W.Frag) (C CW XR XN : Addr) (j : Nat) : XK → TE := fun E => tCall (spRndX K C CW XR XN) [] E (tCons (tVar 4) (tCons (tVar j) (tCons (tVar 14) tNil)))
abbrev tTn (K : PySem.W.Frag) (C CW XR XN : Addr) (ce : Str → Addr) (j : Nat) (b : Int) : XK → TE := fun E => tCall (spTrdX K C CW XR XN ce 3) [] E (tCons (tVar 4) (tCons (tVar j) (tCons (tTup (tCons (tC (.str ("bare" : Str))) (tCons (tC (.int b)) tNil))) (tCons (tVar 14) tNil))))
abbrev tFn (K : PySem.W.Frag) (C CW XR : Addr) (ce : Str → Addr) (j : Nat) (ts : TE) : XK → TE := fun E => tCall (spFrX K C CW XR ce 3) [] E (tCons (tVar 4) (tCons (tVar j) (tCons ts tNil)))
/-- a row that cannot be, in all three -/
theorem wk_rn (L : LawK P w K mg base C CW XR XN CWt ce) {a hh lr j due : Nat} {d : Hs} {cw : Int} (h4 : σ[4]? = some (some (.ref a))) (hj : σ[j]? = some (some (.ref lr))) (h14 : σ[14]? = some (some (.int cw))) (hw : WorldAt K CW H a hh d) (hd : HouseAt K C H hh d) (x : RowOk K d H lr due) : WorkD K mg CWt σ H (tRn K C CW XR XN j) (invD due) := by
  intro H' Q e k
  obtain ⟨ys, es, y1, y2, y3, y4, y5⟩ := x.same e
  exact ⟨_, h4, _, hj, _, h14, a, hh, lr, ys, d, d, es, cw, rfl, ⟨hw.same e, hd.nl (nl_same e), y1, y2, y3, y4⟩, fun i bd => by rw [badRd_uniq bd y5]; exact rx_fail L k, fun g => absurd g (badRd_good y5), fun g => absurd g (badRd_good y5)⟩
theorem wk_tn (L : LawK P w K mg base C CW XR XN CWt ce) {a hh lr j due : Nat} {b : Nat} {d : Hs} {cw : Int} (hb : b ≤ 9) (h4 : σ[4]? = some (some (.ref a))) (hj : σ[j]? = some (some (.ref lr))) (h14 : σ[14]? = some (some (.int cw))) (hw : WorldAt K CW H a hh d) (hd : HouseAt K C H hh d) (x : RowOk K d H lr due) : WorkD K mg CWt σ H (tTn K C CW XR XN ce j (b : Nat)) (invD due) := by
  intro H' Q e k
  refine ⟨_, h4, _, hj, (by show 2 ≤ sizeLine; decide), fun p hp => ⟨_, h14, ?_⟩⟩
  have f := same_upd (o := HO.tup [V.str ("bare" : Str), .int (b : Nat)]) hp
  obtain ⟨ys, es, y1, y2, y3, y4, y5⟩ := x.same (e.trans f)
  exact ⟨a, hh, lr, ys, d, d, es, .ref p, .bare b, cw, rfl, ⟨hw.same (e.trans f), hd.nl (nl_same (e.trans f)), y1, y2, y3, y4⟩, .tup (SqT.of upd_same) (.cons (.str _) (.cons (.int _) .nil)), (by show 0 < 3; decide), (show b ≤ 1000 by omega), fun i bd => by rw [badRd_uniq bd y5]; exact rx_fail L (fun v H2 e2 => k v H2 (f.trans e2)), fun g => absurd g (badRd_good y5), fun g => absurd g (badRd_good y5)⟩
theorem wk_fn (L : LawK P w K mg base C CW XR XN CWt ce) {a hh lr j due : Nat} {d : Hs} (h4 : σ[4]? = some (some (.ref a))) (hj : σ[j]? = some (some (.ref lr))) (hw : WorldAt K CW H a hh d) (hd : HouseAt K C H hh d) (x : RowOk K d H lr due) : WorkD K mg CWt σ H (tFn K C CW XR ce j (tTup (tCons (tC (.str ("bare" : Str))) (tCons (tC (.int 9)) tNil)))) (invD due) := by
  intro H' Q e k
  refine ⟨_, h4, _, hj, (by show 2 ≤ sizeLine; decide), fun p hp => ?_⟩
  have f := same_upd (o := HO.tup [V.str ("bare" : Str), .int 9]) hp
  obtain ⟨ys, es, y1, y2, y3, y4, y5⟩ := x.same (e.trans f)
  exact ⟨a, hh, lr, ys, d, d, es, .ref p, .bare 9, rfl, ⟨hw.same (e.trans f), hd.nl (nl_same (e.trans f)), y1, y2, y3, y4⟩, .tup (SqT.of upd_same) (.cons (.str _) (.cons (.int _) .nil)), (by show 0 < 3; decide), (show 9 ≤ 1000 by decide), fun i bd => by rw [badRd_uniq bd y5]; exact rx_fail L (fun v H2 e2 => k v H2 (f.trans e2)), fun g => absurd g (badRd_good y5)⟩
/-! a row that can be -/
structure GoodAt (K : PySem.W.Frag) (d : Hs) (H : Hp) (lr : Nat) (ys : List V) (es : List Dd) : Prop where
  ls : H lr = some (.lst ys)
  dd : DpAll K H ys (es.map ddD)
  kn : KnAl d es
  l0 : 0 < es.length
  l1 : es.length ≤ 12
theorem GoodAt.same {d : Hs} {H H' : Hp} {lr : Nat} {ys : List V} {es : List Dd} (e : Same H H') (x : GoodAt K d H lr ys es) : GoodAt K d H' lr ys es := ⟨e _ _ x.ls, Dp.sames e _ _ x.dd, x.kn, x.l0, x.l1⟩
theorem GoodAt.ext {d : Hs} {H H' : Hp} {lr : Nat} {ys : List V} {es : List Dd} (e : LamX.ExtN H H') (x : GoodAt K d H lr ys es) : GoodAt K d H' lr ys es := ⟨e _ _ x.ls (fun _ z => nomatch z), Dp.nls (ext_nl e) _ _ (noLs_map ddD noL_dd es) x.dd, x.kn, x.l0, x.l1⟩
theorem GoodAt.lst {d : Hs} {H : Hp} {lr l : Nat} {ys xs zs : List V} {es : List Dd} (hl : H l = some (.lst xs)) (n : lr ≠ l) (x : GoodAt K d H lr ys es) : GoodAt K d (L2.upd H l (.lst zs)) lr ys es :=
  ⟨by rw [upd_ne n]; exact x.ls, Dp.nls (fun b o e n1 _ => by rw [upd_ne (fun z => by rw [z, hl] at e; exact n1 _ (Option.some.inj e).symm)]; exact e) _ _ (noLs_map ddD noL_dd es) x.dd, x.kn, x.l0, x.l1⟩
theorem GoodAt.good {d : Hs} {H : Hp} {lr : Nat} {ys : List V} {es : List Dd} (x : GoodAt K d H lr ys es) : GoodRd d es := ⟨x.l0, x.l1, x.kn.un⟩
theorem GoodAt.wr {d : Hs} {a hh lr : Nat} {H : Hp} {ys : List V} {es : List Dd} (x : GoodAt K d H lr ys es) (hw : WorldAt K CW H a hh d) (hd : HouseAt K C H hh d) : WRd K C CW H a hh lr ys d d es :=
  ⟨hw, hd, x.ls, x.dd, fun e he => (x.kn e he).2, by have := DpAll.len x.dd; rw [List.length_map] at this; have := x.l1; omega⟩
theorem gk_rn (L : LawK P w K mg base C CW XR XN CWt ce) {a hh lr j : Nat} {d : Hs} {cw : Int} {ys : List V} {es : List Dd} (hc : ¬ (0 ≤ cw ∧ cw ≤ M18)) (h4 : σ[4]? = some (some (.ref a))) (hj : σ[j]? = some (some (.ref lr))) (h14 : σ[14]? = some (some (.int cw))) (hw : WorldAt K CW H a hh d) (hd : HouseAt K C H hh d) (x : GoodAt K d H lr ys es) : WorkD K mg CWt σ H (tRn K C CW XR XN j) (.str "InvalidNumber") := by
  intro H' Q e k
  have y := x.same e
  exact ⟨_, h4, _, hj, _, h14, a, hh, lr, ys, d, d, es, cw, rfl, y.wr (hw.same e) (hd.nl (nl_same e)), fun i bd => absurd bd (good_bad y.good i), fun _ _ => rn_fail L k, fun _ c0 c1 => absurd ⟨c0, c1⟩ hc⟩
theorem gk_tn (L : LawK P w K mg base C CW XR XN CWt ce) {a hh lr j : Nat} {d : Hs} {cw : Int} {ys : List V} {es : List Dd} (b0 : d.bs.length ≤ 3) (hc : ¬ (0 ≤ cw ∧ cw ≤ M18)) (h4 : σ[4]? = some (some (.ref a))) (hj : σ[j]? = some (some (.ref lr))) (h14 : σ[14]? = some (some (.int cw))) (hw : WorldAt K CW H a hh d) (hd : HouseAt K C H hh d) (x : GoodAt K d H lr ys es) : WorkD K mg CWt σ H (tTn K C CW XR XN ce j 9) (.str "UnknownBox") := by
  intro H' Q e k
  refine ⟨_, h4, _, hj, (by show 2 ≤ sizeLine; decide), fun p hp => ⟨_, h14, ?_⟩⟩
  have f := same_upd (o := HO.tup [V.str ("bare" : Str), .int 9]) hp
  have y := x.same (e.trans f)
  have us : unkS d (.bare 9) = "UnknownBox" := if_pos (by omega)
  exact ⟨a, hh, lr, ys, d, d, es, .ref p, .bare 9, cw, rfl, y.wr (hw.same (e.trans f)) (hd.nl (nl_same (e.trans f))), .tup (SqT.of upd_same) (.cons (.str _) (.cons (.int _) .nil)), (by show 0 < 3; decide), (show 9 ≤ 1000 by decide), fun i bd => absurd bd (good_bad y.good i), fun _ z hz _ => by rw [← hz, us]; exact rb_fail L (fun v H2 e2 => k v H2 (f.trans e2)), fun _ z => by rw [us] at z; exact absurd z (by decide +kernel)⟩
theorem gk_tn0 (L : LawK P w K mg base C CW XR XN CWt ce) {a hh lr j : Nat} {d : Hs} {cw : Int} {ys : List V} {es : List Dd} (b0 : 1 ≤ d.bs.length) (hc : ¬ (0 ≤ cw ∧ cw ≤ M18)) (h4 : σ[4]? = some (some (.ref a))) (hj : σ[j]? = some (some (.ref lr))) (h14 : σ[14]? = some (some (.int cw))) (hw : WorldAt K CW H a hh d) (hd : HouseAt K C H hh d) (x : GoodAt K d H lr ys es) : WorkD K mg CWt σ H (tTn K C CW XR XN ce j 0) (.str "InvalidNumber") := by
  intro H' Q e k
  refine ⟨_, h4, _, hj, (by show 2 ≤ sizeLine; decide), fun p hp => ⟨_, h14, ?_⟩⟩
  have f := same_upd (o := HO.tup [V.str ("bare" : Str), .int 0]) hp
  have y := x.same (e.trans f)
  have us : unkS d (.bare 0) = "" := if_neg (by omega)
  exact ⟨a, hh, lr, ys, d, d, es, .ref p, .bare 0, cw, rfl, y.wr (hw.same (e.trans f)) (hd.nl (nl_same (e.trans f))), .tup (SqT.of upd_same) (.cons (.str _) (.cons (.int _) .nil)), (by show 0 < 3; decide), (show 0 ≤ 1000 by decide), fun i bd => absurd bd (good_bad y.good i), fun _ z hz n => by rw [us] at hz; exact absurd hz.symm n, fun _ _ => ⟨hc, rn_fail L (fun v H2 e2 => k v H2 (f.trans e2))⟩⟩
theorem gk_fn (L : LawK P w K mg base C CW XR XN CWt ce) {a hh lr j : Nat} {d : Hs} {ys : List V} {es : List Dd} (b0 : d.bs.length ≤ 3) (h4 : σ[4]? = some (some (.ref a))) (hj : σ[j]? = some (some (.ref lr))) (hw : WorldAt K CW H a hh d) (hd : HouseAt K C H hh d) (x : GoodAt K d H lr ys es) : WorkD K mg CWt σ H (tFn K C CW XR ce j (tTup (tCons (tC (.str ("in" : Str))) (tCons (tC (.int 9)) (tCons (tTup tNil) tNil))))) (.str "UnknownBox") := by
  intro H' Q e k
  refine ⟨_, h4, _, hj, (by show 0 ≤ sizeLine; decide), fun p0 hp0 => ⟨(by show 3 ≤ sizeLine; decide), fun p hp => ?_⟩⟩
  have f0 := same_upd (o := HO.tup []) hp0
  have f1 := same_upd (o := HO.tup [V.str ("in" : Str), .int 9, .ref p0]) hp
  have f := f0.trans f1
  have y := x.same (e.trans f)
  have us : unkS d (.inn 9 []) = "UnknownBox" := if_pos (by omega)
  exact ⟨a, hh, lr, ys, d, d, es, .ref p, .inn 9 [], rfl, y.wr (hw.same (e.trans f)) (hd.nl (nl_same (e.trans f))), .tup (SqT.of upd_same) (.cons (.str _) (.cons (.int _) (.cons (.tup (SqT.of (f1 _ _ upd_same)) .nil) .nil))), (by show 0 < 3; decide), ⟨by decide, by decide, fun p hp => nomatch hp⟩, fun i bd => absurd bd (good_bad y.good i), fun _ => ⟨by rw [us]; decide +kernel, by rw [us]; exact rb_fail L (fun v H2 e2 => k v H2 (f.trans e2))⟩⟩
end
def spL41 (K : PySem.W.Frag) (tb : Addr) : Sp := fun vs H Q _ => ∃ (a : Addr) (ns : List Int), vs = [.ref a] ∧ H tb = some (.tbl #[]) ∧ SqL K H a (ns.map V.int) ∧ ns.length ≤ 63 ∧ ∀ H', Q (.bl true) H'
theorem ok_l41 {C CW XR XN CWt f cd tb : Addr} {ce : Str → Addr} {oc kV doc pm ct : Value} {od an : Option Addr} {osl : Array (Option Value)} (L : LawK P w K mg base C CW XR XN CWt ce) (B : Bt mg) (TB : LamX.TabB base mg cd tb)
    (lk : K.lookup f = some ⟨oc, od, .func (PySem.W.fnOf "law" "law" (defArgs sL41) (defBody sL41) (defScope sL41) .none kV doc pm an (.ref cd) ct), osl⟩) (hcd : PySem.W.codeIn K (.ref cd) "law" = true) :
    FnOk P w K mg base CX0 13 f (PySem.W.fnOf "law" "law" (defArgs sL41) (defBody sL41) (defScope sL41) .none kV doc pm an (.ref cd) ct) ["_law_script"] (spL41 K tb) := by
  refine fn_of lk hcd scL41 (fun vs H Q E h => ?_) (fun A outer s H vs Q E hr h => ?_)
  · obtain ⟨a, ns, rfl, _⟩ := h
    rfl
  · obtain ⟨sc, ns, rfl, hTb, hS, hl, k⟩ := h
    have hr1 : Room 1 _ := hr.mono (by decide)
    have hr2 : Room 2 _ := hr.mono (by decide)
    have hr5 : Room 5 _ := hr.mono (by decide)
    have hr7 : Room 7 _ := hr.mono (by decide)
    have hr10 : Room 10 (lawX P w K mg base f cd A outer s H E).A := hr.mono (by decide)
    obtain ⟨gMI, fdMI, MI⟩ := L.MI
    obtain ⟨gNX, fdNX, NX⟩ := L.NX
    obtain ⟨gDN, fdDN, DN⟩ := L.DN
    obtain ⟨gHM, fdHM, HM⟩ := L.HM
    obtain ⟨gKN, fdKN, KN⟩ := L.KN
    obtain ⟨gAL, fdAL, AL⟩ := L.AL
    obtain ⟨gRN, fdRN, RN⟩ := L.RN
    obtain ⟨gTN, fdTN, TN⟩ := L.TN
    obtain ⟨gFR, fdFR, FR⟩ := L.FR
    obtain ⟨gFA, ocF, kVF, docF, pmF, cdvF, ctF, anF, odF, oslF, FA⟩ := L.FA
    obtain ⟨gWM, fdWM, WM⟩ := L.WM
    have mW := L.mW
    have hcode : (lawX P w K mg base f cd A outer s H E).env.code = .ref cd := rfl
    let TT : List (Addr × Str) := [(tb, (lawX P w K mg base f cd A outer s H E).env.qual ++ "<lambda>")]
    have hmT : (tb, (lawX P w K mg base f cd A outer s H E).env.qual ++ "<lambda>") ∈ TT := List.mem_cons_self
    have huT : ∀ p ∈ TT, p.1 = tb → p.2 = (lawX P w K mg base f cd A outer s H E).env.qual ++ "<lambda>" := fun p hp _ => by
      rw [List.mem_singleton.mp hp]
    refine ⟨_, PSs.nox (pss_cons (ps_set (i := 1) scL41.nd rfl (.inr rfl) (pe_call MI.G hr1 rfl MI.m MI.k MI.b .nil pass0 (pa_cons (pv 0) (pa_cons pe_int pa_nil)))) (pss_cons (ps_for PassesOwn.never rfl (pi_range1 rfl B.rng (pa_cons pe_int pa_nil)) (pg_name (i := 2) scL41.nd rfl (.inl rfl)) (pss_cons (ps_set (i := 3) scL41.nd rfl (.inl rfl) (pe_call DN.G hr2 rfl DN.m DN.k DN.b .nil pass0 (pa_cons (pv 1) (pa_cons pe_int pa_nil)))) (pss_cons (ps_asg (pe_tup (pa_cons (pe_make WM.M WM.G hr2 rfl WM.m WM.b .nil pass0 (pa_cons (pe_call HM.G hr7 rfl HM.m HM.k HM.b .nil pass0 (pa_cons (pv 3) pa_nil)) pa_nil)) (pa_cons (pe_call KN.G hr2 rfl KN.m KN.k KN.b .nil pass0 (pa_cons (pv 3) (pa_cons (pe_listRg rfl (by rfl) B.lst (prg_1 (by rfl) B.rng (pe_ix ix_tup (pv 3) pe_int (fun _ _ => rfl)))) pa_nil))) pa_nil))) (pg_tup (by rfl) (pgs_cons (pg_name (i := 4) scL41.nd rfl (.inr rfl)) (pgs_cons (pg_name (i := 5) scL41.nd rfl (.inr rfl)) pgs_nil)))) (pss_cons (ps_set (i := 6) scL41.nd rfl (.inr rfl) (pe_lc (own := [("_law_k", 7)]) (g := gName 7) (tt := tYes) (te := (tOp (rIxL K) (tVar 5) (tCall spNx [] E0 (tCons (tVar 1) (tCons (tCB (fun xs H Q => ∃ p ys, xs = [V.ref p] ∧ (SqL K H p ys ∨ SqT K H p ys) ∧ Q (.int ys.length) H) (tCons (tVar 5) tNil)) tNil))))) rfl scL41.nd (pi_range1 rfl B.rng (pa_cons (pe_call NX.G hr1 rfl NX.m NX.k NX.b .nil pass0 (pa_cons (pv 1) (pa_cons pe_int pa_nil))) pa_nil)) (blkOk_by (own := [("_law_k", 7)]) (N := ["_law_script", "_law_h", "_law_turn", "_law_drawn_here", "_law_world", "_law_known_here", "_law_deeds", "_law_k", "_law_box", "_law_bad", "_law_place", "_law_rows", "_law_row", "_law_due", "_law_wrong", "_law_works", "_law_work"]) (sc := defScope sL41) (by decide +kernel)) (fun _ _ _ _ _ => pg_name (i := 7) scL41.nd rfl (.inl rfl)) (fun _ _ _ _ _ => pts_nil) (fun _ _ _ _ _ => (pe_ix ix_list (pv 5) (pe_call NX.G hr1 rfl NX.m NX.k NX.b .nil pass0 (pa_cons (pv 1) (pa_cons (pe_callB call_len_seq (by rfl) B.len PySem.boot_len (pa_cons (pv 5) pa_nil)) pa_nil))) (fun _ _ => rfl))))) (pss_cons (ps_set (i := 8) scL41.nd rfl (.inl rfl) (pe_tup (pa_cons pe_str (pa_cons pe_int pa_nil)))) (pss_cons (ps_set (i := 9) scL41.nd rfl (.inl rfl) (pe_lst (pa_cons (pe_tup (pa_cons pe_str (pa_cons (pe_ix ix_tup (pv 3) pe_int (fun _ _ => rfl)) (pa_cons (pv 8) (pa_cons pe_int pa_nil))))) (pa_cons (pe_tup (pa_cons pe_str (pa_cons pe_int (pa_cons (pv 8) (pa_cons pe_int pa_nil))))) (pa_cons (pe_tup (pa_cons pe_str (pa_cons pe_int (pa_cons (pv 8) (pa_cons pe_int pa_nil))))) (pa_cons (pe_tup (pa_cons pe_str (pa_cons pe_int (pa_cons (pe_tup (pa_cons pe_str (pa_cons pe_int pa_nil))) (pa_cons pe_int pa_nil))))) pa_nil)))))) (pss_cons (ps_set (i := 9) scL41.nd rfl (.inl rfl) (pe_op op_cat (pv 9) (pe_lst (pa_cons (pe_tup (pa_cons pe_str (pa_cons pe_int (pa_cons (pe_callB call_len_seq (by rfl) B.len PySem.boot_len (pa_cons (pe_ix ix_tup (pv 3) pe_int (fun _ _ => rfl)) pa_nil)) pa_nil)))) (pa_cons (pe_tup (pa_cons pe_str (pa_cons pe_int (pa_cons pe_int (pa_cons (pe_callB call_len_seq (by rfl) B.len PySem.boot_len (pa_cons (pe_ix ix_tup (pv 3) pe_int (fun _ _ => rfl)) pa_nil)) pa_nil))))) (pa_cons (pe_tup (pa_cons pe_str (pa_cons pe_int (pa_cons (pe_tup (pa_cons pe_str (pa_cons pe_int pa_nil))) (pa_cons pe_int pa_nil))))) pa_nil)))))) (pss_cons (ps_set (i := 10) scL41.nd rfl (.inl rfl) (pe_call NX.G hr1 rfl NX.m NX.k NX.b .nil pass0 (pa_cons (pv 1) (pa_cons (pe_op op_add (pe_callB call_len_seq (by rfl) B.len PySem.boot_len (pa_cons (pv 6) pa_nil)) pe_int) pa_nil)))) (pss_cons (ps_set (i := 11) scL41.nd rfl (.inl rfl) (pe_lst (pa_cons (pe_tup (pa_cons (pe_op op_cat (pe_op op_cat (pe_slice sl_list (pv 6) po_none (po_some (pv 10))) (pe_lst (pa_cons (pe_ix ix_list (pv 9) (pe_call NX.G hr1 rfl NX.m NX.k NX.b .nil pass0 (pa_cons (pv 1) (pa_cons pe_int pa_nil))) (fun _ _ => rfl)) pa_nil))) (pe_slice sl_list (pv 6) (po_some (pv 10)) po_none)) (pa_cons (pv 10) pa_nil))) (pa_cons (pe_tup (pa_cons (pe_lst pa_nil) (pa_cons pe_int pa_nil))) (pa_cons (pe_tup (pa_cons (pe_op op_rep (pe_lst (pa_cons (pe_tup (pa_cons pe_str (pa_cons pe_int (pa_cons pe_int pa_nil)))) pa_nil)) pe_int) (pa_cons pe_int pa_nil))) pa_nil))))) (pss_cons (ps_expr (pe_bm PySem.F.plainAttrs_list PySem.F.slot_list_append PySem.F.type_list_append mt_append (pv 11) (pa_cons (pe_tup (pa_cons (pe_op op_cat (pe_op op_rep (pe_lst (pa_cons (pe_tup (pa_cons pe_str (pa_cons pe_int (pa_cons pe_int pa_nil)))) pa_nil)) pe_int) (pe_lst (pa_cons (pe_ix ix_list (pv 9) pe_int (fun _ _ => rfl)) (pa_cons (pe_ix ix_list (pv 9) pe_int (fun _ _ => rfl)) pa_nil)))) (pa_cons pe_int pa_nil))) pa_nil))) (pss_cons (ps_asg (pe_ix ix_list (pv 11) (pe_call NX.G hr1 rfl NX.m NX.k NX.b .nil pass0 (pa_cons (pv 1) (pa_cons pe_int pa_nil))) (fun _ _ => rfl)) (pg_tup (by rfl) (pgs_cons (pg_name (i := 12) scL41.nd rfl (.inr rfl)) (pgs_cons (pg_name (i := 13) scL41.nd rfl (.inl rfl)) pgs_nil)))) (pss_cons (ps_set (i := 14) scL41.nd rfl (.inr rfl) (pe_ix ix_list (pe_lst (pa_cons (pe_op op_sub pe_int pe_int) (pa_cons (pe_op op_add (pe_op op_pow pe_int pe_int) pe_int) (pa_cons (pe_op op_pow pe_int pe_int) pa_nil)))) (pe_call NX.G hr1 rfl NX.m NX.k NX.b .nil pass0 (pa_cons (pv 1) (pa_cons pe_int pa_nil))) (fun _ _ => rfl))) (pss_cons (ps_set (i := 15) scL41.nd rfl (.inl rfl) (pe_lst (pa_cons (LmX.pe_lm (T := TT) (k := 8) (t := (fun E => tCall (spRndX K C CW XR XN) [] E (tCons (tVar 4) (tCons (tVar 12) (tCons (tVar 14) tNil))))) TB hcode hmT huT (LmX.lamN_by (N := ["_law_script", "_law_h", "_law_turn", "_law_drawn_here", "_law_world", "_law_known_here", "_law_deeds", "_law_k", "_law_box", "_law_bad", "_law_place", "_law_rows", "_law_row", "_law_due", "_law_wrong", "_law_works", "_law_work"]) (sc := defScope sL41) (by decide +kernel)) rfl (fun _ _ _ _ _ _ => rfl) (fun A outer s H E f c hr => (pe_call RN.G hr rfl RN.m RN.k RN.b .nil (passes_call (takes_of rfl rfl rfl rfl) (fun _ _ _ _ h => h)) (pa_cons (pv 4) (pa_cons (pv 12) (pa_cons (pv 14) pa_nil)))))) (pa_cons (LmX.pe_lmD (T := TT) (k := 8) (t := (fun E => tCall (spTrdX K C CW XR XN ce 3) [] E (tCons (tVar 4) (tCons (tVar 12) (tCons (tTup (tCons (tC (.str ("bare" : Str))) (tCons (tC (.int 9)) tNil))) (tCons (tVar 14) tNil)))))) (a := "_law_a") pe_int TB hcode hmT huT (LmX.lamN_by (N := ["_law_script", "_law_h", "_law_turn", "_law_drawn_here", "_law_world", "_law_known_here", "_law_deeds", "_law_k", "_law_box", "_law_bad", "_law_place", "_law_rows", "_law_row", "_law_due", "_law_wrong", "_law_works", "_law_work"]) (sc := defScope sL41) (by decide +kernel)) rfl rfl rfl (fun s q cl doc pm cv ct u t ht => BindsTo.of_defaults rfl ht rfl rfl rfl) (fun A outer s H E f c hr => (pe_call TN.G hr rfl TN.m TN.k TN.b .nil (passes_call (takes_of rfl rfl rfl rfl) (fun _ _ _ _ h => h)) (pa_cons (pv 4) (pa_cons (pv 12) (pa_cons (pe_tup (pa_cons pe_str (pa_cons pe_int pa_nil))) (pa_cons (pv 14) pa_nil))))))) pa_nil)))) (pss_cons (ps_expr (pe_bm PySem.F.plainAttrs_list PySem.F.slot_list_append PySem.F.type_list_append mt_append (pv 15) (pa_cons (LmX.pe_lmD (T := TT) (k := 8) (t := (fun E => tCall (spFrX K C CW XR ce 3) [] E (tCons (tVar 4) (tCons (tVar 12) (tCons (tTup (tCons (tC (.str ("bare" : Str))) (tCons (tC (.int 9)) tNil))) tNil))))) (a := "_law_b") pe_int TB hcode hmT huT (LmX.lamN_by (N := ["_law_script", "_law_h", "_law_turn", "_law_drawn_here", "_law_world", "_law_known_here", "_law_deeds", "_law_k", "_law_box", "_law_bad", "_law_place", "_law_rows", "_law_row", "_law_due", "_law_wrong", "_law_works", "_law_work"]) (sc := defScope sL41) (by decide +kernel)) rfl rfl rfl (fun s q cl doc pm cv ct u t ht => BindsTo.of_defaults rfl ht rfl rfl rfl) (fun A outer s H E f c hr => (pe_call FR.G hr rfl FR.m FR.k FR.b .nil (passes_call (takes_of rfl rfl rfl rfl) (fun _ _ _ _ h => h)) (pa_cons (pv 4) (pa_cons (pv 12) (pa_cons (pe_tup (pa_cons pe_str (pa_cons pe_int pa_nil))) pa_nil)))))) pa_nil))) (pss_cons (ps_if (pt_not (pt_val (pe_call AL.G hr5 rfl AL.m AL.k AL.b .nil pass0 (pa_cons (LmX.pe_lcI (own := [("_law_work", 16)]) (g := gName 16) (tt := tYes) (te := fun σ0 => tFB (lawX P w K mg base f cd A outer s H E) K mg CWt σ0) rfl scL41.nd (pi_list (pv 15)) (blkOk_by (own := [("_law_work", 16)]) (N := ["_law_script", "_law_h", "_law_turn", "_law_drawn_here", "_law_world", "_law_known_here", "_law_deeds", "_law_k", "_law_box", "_law_bad", "_law_place", "_law_rows", "_law_row", "_law_due", "_law_wrong", "_law_works", "_law_work"]) (sc := defScope sL41) (by decide +kernel)) (fun _ _ _ _ _ => pg_name (i := 16) scL41.nd rfl (.inl rfl)) (fun _ _ _ _ _ => pts_nil) (fun σ0 s H C cl fp hC hfp => pe_failB (fk := FA) (X := lawX P w K mg base f cd A outer _ _ E) rfl rfl mW B hr10 hC hfp (pv 16))) (pa_cons (pe_op op_rep (pe_lst (pa_cons (pe_tup (pa_cons pe_str (pa_cons (pv 13) pa_nil))) pa_nil)) pe_int) pa_nil))))) (pss_one (ps_ret pe_bl)) pss_nil) (pss_cons (ps_set (i := 6) scL41.nd rfl (.inr rfl) (pe_op op_rep (pe_lst (pa_cons (pe_tup (pa_cons pe_str (pa_cons pe_int (pa_cons pe_int pa_nil)))) pa_nil)) (pe_op op_add pe_int (pe_call NX.G hr1 rfl NX.m NX.k NX.b .nil pass0 (pa_cons (pv 1) (pa_cons pe_int pa_nil)))))) (pss_cons (ps_set (i := 15) scL41.nd rfl (.inl rfl) (pe_lst (pa_cons (LmX.pe_lm (T := TT) (k := 8) (t := (fun E => tCall (spRndX K C CW XR XN) [] E (tCons (tVar 4) (tCons (tVar 6) (tCons (tVar 14) tNil))))) TB hcode hmT huT (LmX.lamN_by (N := ["_law_script", "_law_h", "_law_turn", "_law_drawn_here", "_law_world", "_law_known_here", "_law_deeds", "_law_k", "_law_box", "_law_bad", "_law_place", "_law_rows", "_law_row", "_law_due", "_law_wrong", "_law_works", "_law_work"]) (sc := defScope sL41) (by decide +kernel)) rfl (fun _ _ _ _ _ _ => rfl) (fun A outer s H E f c hr => (pe_call RN.G hr rfl RN.m RN.k RN.b .nil (passes_call (takes_of rfl rfl rfl rfl) (fun _ _ _ _ h => h)) (pa_cons (pv 4) (pa_cons (pv 6) (pa_cons (pv 14) pa_nil)))))) (pa_cons (LmX.pe_lmD (T := TT) (k := 8) (t := (fun E => tCall (spTrdX K C CW XR XN ce 3) [] E (tCons (tVar 4) (tCons (tVar 6) (tCons (tTup (tCons (tC (.str ("bare" : Str))) (tCons (tC (.int 9)) tNil))) (tCons (tVar 14) tNil)))))) (a := "_law_a") pe_int TB hcode hmT huT (LmX.lamN_by (N := ["_law_script", "_law_h", "_law_turn", "_law_drawn_here", "_law_world", "_law_known_here", "_law_deeds", "_law_k", "_law_box", "_law_bad", "_law_place", "_law_rows", "_law_row", "_law_due", "_law_wrong", "_law_works", "_law_work"]) (sc := defScope sL41) (by decide +kernel)) rfl rfl rfl (fun s q cl doc pm cv ct u t ht => BindsTo.of_defaults rfl ht rfl rfl rfl) (fun A outer s H E f c hr => (pe_call TN.G hr rfl TN.m TN.k TN.b .nil (passes_call (takes_of rfl rfl rfl rfl) (fun _ _ _ _ h => h)) (pa_cons (pv 4) (pa_cons (pv 6) (pa_cons (pe_tup (pa_cons pe_str (pa_cons pe_int pa_nil))) (pa_cons (pv 14) pa_nil))))))) pa_nil)))) (pss_cons (ps_set (i := 15) scL41.nd rfl (.inl rfl) (pe_op op_cat (pv 15) (pe_lst (pa_cons (LmX.pe_lmD (T := TT) (k := 8) (t := (fun E => tCall (spTrdX K C CW XR XN ce 3) [] E (tCons (tVar 4) (tCons (tVar 6) (tCons (tTup (tCons (tC (.str ("bare" : Str))) (tCons (tC (.int 0)) tNil))) (tCons (tVar 14) tNil)))))) (a := "_law_b") pe_int TB hcode hmT huT (LmX.lamN_by (N := ["_law_script", "_law_h", "_law_turn", "_law_drawn_here", "_law_world", "_law_known_here", "_law_deeds", "_law_k", "_law_box", "_law_bad", "_law_place", "_law_rows", "_law_row", "_law_due", "_law_wrong", "_law_works", "_law_work"]) (sc := defScope sL41) (by decide +kernel)) rfl rfl rfl (fun s q cl doc pm cv ct u t ht => BindsTo.of_defaults rfl ht rfl rfl rfl) (fun A outer s H E f c hr => (pe_call TN.G hr rfl TN.m TN.k TN.b .nil (passes_call (takes_of rfl rfl rfl rfl) (fun _ _ _ _ h => h)) (pa_cons (pv 4) (pa_cons (pv 6) (pa_cons (pe_tup (pa_cons pe_str (pa_cons pe_int pa_nil))) (pa_cons (pv 14) pa_nil))))))) pa_nil)))) (pss_cons (ps_expr (pe_bm PySem.F.plainAttrs_list PySem.F.slot_list_append PySem.F.type_list_append mt_append (pv 15) (pa_cons (LmX.pe_lmD (T := TT) (k := 8) (t := (fun E => tCall (spFrX K C CW XR ce 3) [] E (tCons (tVar 4) (tCons (tVar 6) (tCons (tTup (tCons (tC (.str ("in" : Str))) (tCons (tC (.int 9)) (tCons (tTup tNil) tNil)))) tNil))))) (a := "_law_c") pe_int TB hcode hmT huT (LmX.lamN_by (N := ["_law_script", "_law_h", "_law_turn", "_law_drawn_here", "_law_world", "_law_known_here", "_law_deeds", "_law_k", "_law_box", "_law_bad", "_law_place", "_law_rows", "_law_row", "_law_due", "_law_wrong", "_law_works", "_law_work"]) (sc := defScope sL41) (by decide +kernel)) rfl rfl rfl (fun s q cl doc pm cv ct u t ht => BindsTo.of_defaults rfl ht rfl rfl rfl) (fun A outer s H E f c hr => (pe_call FR.G hr rfl FR.m FR.k FR.b .nil (passes_call (takes_of rfl rfl rfl rfl) (fun _ _ _ _ h => h)) (pa_cons (pv 4) (pa_cons (pv 6) (pa_cons (pe_tup (pa_cons pe_str (pa_cons pe_int (pa_cons (pe_tup pa_nil) pa_nil)))) pa_nil)))))) pa_nil))) (pss_cons (ps_set (i := 13) scL41.nd rfl (.inl rfl) (pe_lst (pa_cons pe_str (pa_cons pe_str (pa_cons pe_str (pa_cons pe_str pa_nil)))))) (pss_cons (ps_if (pt_not (pt_val (pe_call AL.G hr5 rfl AL.m AL.k AL.b .nil pass0 (pa_cons (LmX.pe_lcI (own := [("_law_work", 16)]) (g := gName 16) (tt := tYes) (te := fun σ0 => tFB (lawX P w K mg base f cd A outer s H E) K mg CWt σ0) rfl scL41.nd (pi_list (pv 15)) (blkOk_by (own := [("_law_work", 16)]) (N := ["_law_script", "_law_h", "_law_turn", "_law_drawn_here", "_law_world", "_law_known_here", "_law_deeds", "_law_k", "_law_box", "_law_bad", "_law_place", "_law_rows", "_law_row", "_law_due", "_law_wrong", "_law_works", "_law_work"]) (sc := defScope sL41) (by decide +kernel)) (fun _ _ _ _ _ => pg_name (i := 16) scL41.nd rfl (.inl rfl)) (fun _ _ _ _ _ => pts_nil) (fun σ0 s H C cl fp hC hfp => pe_failB (fk := FA) (X := lawX P w K mg base f cd A outer _ _ E) rfl rfl mW B hr10 hC hfp (pv 16))) (pa_cons (pv 13) pa_nil))))) (pss_one (ps_ret pe_bl)) pss_nil) (pss_one (ps_if (pt_not (pt_val (pe_callB call_isi (by rfl) B.isi (by decide +kernel) (pa_cons (pe_failH (fk := FA) (X := lawX P w K mg base f cd A outer s H E) rfl rfl mW B hr10 (LmX.pe_lm (T := TT) (k := 8) (t := (fun E => tCall (spRndX K C CW XR XN) [] E (tCons (tVar 4) (tCons (tVar 6) (tCons (tOp (rI CPow fun i j => .int (i ^ j.toNat)) (tC (.int 10)) (tC (.int 18))) tNil))))) TB hcode hmT huT (LmX.lamN_by (N := ["_law_script", "_law_h", "_law_turn", "_law_drawn_here", "_law_world", "_law_known_here", "_law_deeds", "_law_k", "_law_box", "_law_bad", "_law_place", "_law_rows", "_law_row", "_law_due", "_law_wrong", "_law_works", "_law_work"]) (sc := defScope sL41) (by decide +kernel)) rfl (fun _ _ _ _ _ _ => rfl) (fun A outer s H E f c hr => (pe_call RN.G hr rfl RN.m RN.k RN.b .nil (passes_call (takes_of rfl rfl rfl rfl) (fun _ _ _ _ h => h)) (pa_cons (pv 4) (pa_cons (pv 6) (pa_cons (pe_op op_pow pe_int pe_int) pa_nil))))))) (pa_cons (pe_bltn (v := .ty "tuple") (by rfl) B.tup (by decide +kernel) rfl) pa_nil))))) (pss_one (ps_ret pe_bl)) pss_nil))))))))))))))))))))))) (pss_one (ps_ret pe_bl)))), ?_⟩
    have WC := L.WC
    have l5 := sizeLine_eq
    refine ⟨_, rfl, sc, 41, ns, rfl, hS, hl, fun h c H1 e1 hB => ?_⟩
    have hT1 : LamX.Tabs TT H1 := fun p hp => by
      rw [List.mem_singleton.mp hp]
      exact LamX.TabS.nil (e1 _ _ hTb)
    clear hTb hS e1
    refine ⟨4, rfl, by decide, by decide, for_range (lo := 0) (n := 4) (fun i σ Hn => ∃ (v2 v3 v4 v5 v6 v7 v8 v9 v10 v11 v12 v13 v14 v15 v16 : Option V), σ = [some (.ref sc), some (.ref h), v2, v3, v4, v5, v6, v7, v8, v9, v10, v11, v12, v13, v14, v15, v16] ∧ HAt Hn h c ∧ LamX.Tabs TT Hn) ⟨none, none, none, none, none, none, none, none, none, none, none, none, none, none, none, rfl, hB, hT1⟩ ?_ (fun σ Hn hq => k _)⟩
    clear hB hT1 H1
    rintro i σ H1 hi ⟨v2, v3, v4, v5, v6, v7, v8, v9, v10, v11, v12, v13, v14, v15, v16, rfl, hB1, hT1⟩
    refine ⟨_, rfl, h, c, 4, rfl, by decide, by decide, hB1, fun x d H2 dx ok h3 b2 l4 hB2 k2 => ?_⟩
    obtain ⟨da, w1, w2, w3, rfl, sda, dw1, dw2, dw3⟩ := dr_at dx
    have hT2 := Tabs.kb k2 hT1
    have o_h0 := ok.h0
    have o_h1 := ok.h1
    have o_b0 := ok.b0
    have o_b1 := ok.b1
    have o_t1 := ok.t1
    have o_s1 := ok.s1
    have four : Four d := ⟨h3, b2, by have : (4 : Int).toNat = 4 := rfl; omega⟩
    -- world, known
    refine ⟨_, rfl, _, d, rfl, dx, ok, fun hh H3 e3 hh3 a dy ha hdy ne => ?_⟩
    have ha' : (L2.upd H3 dy (.own a)) a = none := by rw [upd_ne ne.symm]; exact ha
    have f3 : Same H3 (L2.upd (L2.upd H3 dy (.own a)) a (.ins CW dy [])) := Same.upd2 (same_upd hdy) ha'
    refine ⟨a, dy, hh, d, rfl, upd_same, hh3.nl (nl_same f3), fun H4 bt hw4 hlw => ⟨rfl, ?_⟩⟩
    have e34 : Same H3 H4 := fun c' o hc => bt c' o (f3 c' o hc) (ne_of_none hc ha)
    have e24 := e3.trans e34
    have hh4 := hh3.nl (nl_same e34)
    have dx4 := Dp.same e24 _ _ dx
    have sda4 := SqT.same e24 sda
    have hB4 := hB2.same e24
    have hT4 : LamX.Tabs TT H4 := LamX.Tabs.ext hT2 (fun c o q => e24 c o q)
    have dw14 := Dp.same e24 _ _ dw1
    have dw34 := Dp.same e24 _ _ dw3
    clear hT1 hT2 hB1 hB2 dx sda dw1 dw2 dw3 e24 e34 e3 f3 bt hh3 k2 ha ha' hdy ne
    obtain ⟨nh, hnh⟩ : ∃ nh : Nat, d.hands = (nh : Int) := ⟨d.hands.toNat, by omega⟩
    refine ⟨_, rfl, _, rfl, da, _, 0, _, rfl, rfl, sda4, rfl, _, rfl, RgOk.of_le (by omega) (by omega) (by omega) (by omega), fun hp hhp => ?_⟩
    have f5 := same_upd (o := HO.lst (rgV 0 d.hands)) hhp
    refine ⟨_, hp, d, List.range nh, rfl, Dp.same f5 _ _ dx4, SqL.of (by rw [← rg_nv, ← hnh]; exact upd_same), by rw [List.length_range]; omega, fun u hu => by have := List.mem_range.mp hu; omega, by omega, by omega, by omega, by omega, by rw [List.length_range]; omega, by omega, fun kp ks H5 e5 hk hks lks lk0 rks => ?_⟩
    refine ⟨(by show 2 ≤ sizeLine; decide), fun p hp2 => ?_⟩
    have f6 := same_upd (o := HO.tup [V.ref a, V.ref kp]) hp2
    refine ⟨p, _, rfl, SqT.of upd_same, rfl, _, _, rfl, _, _, rfl, rfl, ?_⟩
    have e46 := (f5.trans e5).trans f6
    have hw6 := hw4.same e46
    have hh6 := hh4.nl (nl_same e46)
    have sda6 := SqT.same e46 sda4
    have hB6 := hB4.same e46
    have hT6 : LamX.Tabs TT _ := LamX.Tabs.ext hT4 (fun c o q => e46 c o q)
    have hks6 := f6 _ _ hks
    have rks6 : ∀ v ∈ ks, DdU K d v _ := fun v hv => (rks v hv).nl (nl_same f6)
    have nk : kp ≠ h ∧ kp ≠ c := hB4.neL (same_none f5 hk)
    have dw16 := Dp.same e46 _ _ dw14
    have dw36 := Dp.same e46 _ _ dw34
    clear f5 e5 f6 e46 hw4 hh4 sda4 hB4 hT4 hks rks dx4 dw14 dw34 hhp hk
    generalize L2.upd H5 p (.tup [V.ref a, V.ref kp]) = H6 at *
    dsimp only [List.set_cons_succ, List.set_cons_zero]
    -- deeds
    refine ⟨_, rfl, h, c, 9, rfl, by decide, by decide, hB6, fun n9 H7 n0 n1 hB7 k7 => ⟨_, rfl, by omega, by omega, fun D hD => ?_⟩⟩
    have hw7 := hw6.nl k7.nl
    have hh7 := hh6.nl k7.nl
    have sda7 : SqT K H7 da _ := SqT.nl k7.nl sda6
    have hT7 := Tabs.kb k7 hT6
    have hks7 := k7.kp.ls _ _ hks6 nk.1 nk.2
    have rks7 : ∀ v ∈ ks, DdU K d v H7 := fun v hv => (rks6 v hv).nl k7.nl
    have dw17 := Dp.nl k7.nl _ _ (noL_pls _) dw16
    have dw37 := Dp.nl k7.nl _ _ (noL_pls _) dw36
    have nD := hB7.neL hD
    refine lc_range (lo := 0) (n := n9.toNat) (fun i H' => Kb h c H7 H' ∧ HAt H' h c ∧ ∃ acc es, H' D = some (.lst acc) ∧ acc.length = i ∧ DpAll K H' acc (es.map ddD) ∧ KnAl d es) ⟨Kb.updD (Kb.refl _ _ _) hD, hB7.upd hD, [], [], upd_same, rfl, .nil, fun e he => nomatch he⟩ ?_ ?_
    · rintro j H' hj ⟨kj, hBj, acc, es, hacc, lacc, dacc, kacc⟩
      have hksj := kj.kp.ls _ _ hks7 nk.1 nk.2
      refine ⟨wipe_one _ 7 _, yes_lc ⟨_, rfl, _, rfl, _, rfl, kp, ks, rfl, .inl (SqL.of hksj), h, c, _, rfl, by omega, by omega, hBj, fun r H8 r0 r1 hB8 k8 => ?_⟩⟩
      obtain ⟨rn, rfl⟩ : ∃ rn : Nat, r = (rn : Int) := ⟨r.toNat, by omega⟩
      obtain ⟨y, hy⟩ : ∃ y, ks[rn]? = some y := ⟨_, List.getElem?_eq_getElem (by omega)⟩
      obtain ⟨e, de, kn, sme⟩ := rks7 y (List.mem_of_getElem? hy)
      have hacc8 := k8.kp.ls _ _ hacc nD.1 nD.2
      refine ⟨kp, ks, _, y, rfl, rfl, SqL.of (k8.kp.ls _ _ hksj nk.1 nk.2), atI_nat hy, acc, hacc8, by omega, ?_⟩
      have nlD : Nl H8 (L2.upd H8 D (.lst (acc ++ [y]))) := fun a u h n _ => by
        by_cases c : a = D
        · subst c
          rw [hacc8] at h
          cases h
          exact absurd rfl (n _)
        · rw [upd_ne c]; exact h
      refine ⟨Kb.updD (kj.trans k8) hD, hB8.updD nD.1 nD.2, _, es ++ [e], upd_same, by rw [List.length_append, lacc]; rfl, ?_, fun e' he' => ?_⟩
      · rw [List.map_append]
        exact DpAll.app (Dp.nls nlD _ _ (noLs_map ddD noL_dd es) (Dp.nls k8.nl _ _ (noLs_map ddD noL_dd es) dacc)) (.cons (Dp.nl nlD _ _ (noL_dd e) (Dp.nl k8.nl _ _ (noL_dd e) (Dp.nl kj.nl _ _ (noL_dd e) de))) .nil)
      · rcases List.mem_append.mp he' with q | q
        · exact kacc e' q
        · rw [List.mem_singleton.mp q]
          exact ⟨kn, sme⟩
    rintro H8 ⟨k8, hB8, xs, es, hxs, lxs, dxs, kes⟩
    have hw8 := hw7.nl k8.nl
    have hh8 := hh7.nl k8.nl
    have sda8 : SqT K H8 da _ := SqT.nl k8.nl sda7
    have hT8 := Tabs.kb k8 hT7
    have dw18 := Dp.nl k8.nl _ _ (noL_pls _) dw17
    have dw38 := Dp.nl k8.nl _ _ (noL_pls _) dw37
    have les : es.length ≤ 8 := by have := DpAll.len dxs; rw [List.length_map] at this; omega
    have lxe : xs.length = es.length := by rw [DpAll.len dxs, List.length_map]
    clear hw7 hh7 sda7 hT7 dw17 dw37 hks7 rks7 k7 k8 hw6 hh6 sda6 hT6 dw16 dw36 hks6 rks6 hB6 hB7 nk
    dsimp only [List.set_cons_succ, List.set_cons_zero]
    obtain ⟨a1, x1, rfl, s1, dl1, l1⟩ := pls_at dw18
    obtain ⟨a3, x3, rfl, s3, dl3, l3⟩ := pls_at dw38
    have hhands : Dp K H8 (.int d.hands) (.int ((d.hands.toNat : Nat) : Int)) := by
      rw [show ((d.hands.toNat : Nat) : Int) = d.hands by omega]
      exact .int _
    -- box
    refine ⟨(by show 2 ≤ sizeLine; decide), fun pb hpb => ?_⟩
    have f9 := same_upd (o := HO.tup [V.str ("box" : Str), .int 0]) hpb
    have db9 : Dp K (L2.upd H8 pb (.tup [V.str ("box" : Str), .int 0])) (.ref pb) (itP (.box, 0)) := .tup (SqT.of upd_same) (.cons (.str _) (.cons (.int _) .nil))
    generalize L2.upd H8 pb (.tup [V.str ("box" : Str), .int 0]) = H9 at *
    dsimp only [List.set_cons_succ, List.set_cons_zero]
    -- what cannot be
    refine ⟨_, rfl, da, _, 0, _, rfl, rfl, SqT.same f9 sda8, rfl, _, rfl, (by show 4 ≤ sizeLine; decide), fun p1 hp1 => ?_⟩
    have g1 := same_upd (o := HO.tup [V.str ("give" : Str), .int d.hands, .ref pb, .int 0]) hp1
    have d1 : Dp K (L2.upd H9 p1 (.tup [V.str ("give" : Str), .int d.hands, .ref pb, .int 0])) (.ref p1) (ddD (.give d.hands.toNat (.box, 0) 0)) := .tup (SqT.of upd_same) (.cons (.str _) (.cons (Dp.same (f9.trans g1) _ _ hhands) (.cons (Dp.same g1 _ _ db9) (.cons (.int _) .nil))))
    have e1 := f9.trans g1
    have db1 := Dp.same g1 _ _ db9
    generalize L2.upd H9 p1 (.tup [V.str ("give" : Str), .int d.hands, .ref pb, .int 0]) = Ha at *
    refine ⟨_, rfl, (by show 4 ≤ sizeLine; decide), fun p2 hp2' => ?_⟩
    have g2 := same_upd (o := HO.tup [V.str ("give" : Str), .int 0, .ref pb, .int 0]) hp2'
    have d2 : Dp K (L2.upd Ha p2 (.tup [V.str ("give" : Str), .int 0, .ref pb, .int 0])) (.ref p2) (ddD (.give 0 (.box, 0) 0)) := .tup (SqT.of upd_same) (.cons (.str _) (.cons (.int _) (.cons (Dp.same g2 _ _ db1) (.cons (.int _) .nil))))
    have e2 := e1.trans g2
    have db2 := Dp.same g2 _ _ db1
    have d1 := Dp.same g2 _ _ d1
    generalize L2.upd Ha p2 (.tup [V.str ("give" : Str), .int 0, .ref pb, .int 0]) = Hb' at *
    refine ⟨_, rfl, (by show 4 ≤ sizeLine; decide), fun p3 hp3 => ?_⟩
    have g3 := same_upd (o := HO.tup [V.str ("put" : Str), .int 0, .ref pb, .int 0]) hp3
    have d3 : Dp K (L2.upd Hb' p3 (.tup [V.str ("put" : Str), .int 0, .ref pb, .int 0])) (.ref p3) (ddD (.put 0 (.box, 0) 0)) := .tup (SqT.of upd_same) (.cons (.str _) (.cons (.int _) (.cons (Dp.same g3 _ _ db2) (.cons (.int _) .nil))))
    have e3 := e2.trans g3
    have d1 := Dp.same g3 _ _ d1
    have d2 := Dp.same g3 _ _ d2
    generalize L2.upd Hb' p3 (.tup [V.str ("put" : Str), .int 0, .ref pb, .int 0]) = Hc at *
    refine ⟨(by show 2 ≤ sizeLine; decide), fun q4 hq4 => ?_⟩
    have g4 := same_upd (o := HO.tup [V.str ("seal" : Str), .int 0]) hq4
    have ds4 : Dp K (L2.upd Hc q4 (.tup [V.str ("seal" : Str), .int 0])) (.ref q4) (itP (.sl, 0)) := .tup (SqT.of upd_same) (.cons (.str _) (.cons (.int _) .nil))
    have e4 := e3.trans g4
    have d1 := Dp.same g4 _ _ d1
    have d2 := Dp.same g4 _ _ d2
    have d3 := Dp.same g4 _ _ d3
    generalize L2.upd Hc q4 (.tup [V.str ("seal" : Str), .int 0]) = Hd at *
    refine ⟨(by show 4 ≤ sizeLine; decide), fun p4 hp4 => ?_⟩
    have g5 := same_upd (o := HO.tup [V.str ("take" : Str), .int 0, .ref q4, .int 0]) hp4
    have d4 : Dp K (L2.upd Hd p4 (.tup [V.str ("take" : Str), .int 0, .ref q4, .int 0])) (.ref p4) (ddD (.take 0 (.sl, 0) 0)) := .tup (SqT.of upd_same) (.cons (.str _) (.cons (.int _) (.cons (Dp.same g5 _ _ ds4) (.cons (.int _) .nil))))
    have e5 := e4.trans g5
    have d1 := Dp.same g5 _ _ d1
    have d2 := Dp.same g5 _ _ d2
    have d3 := Dp.same g5 _ _ d3
    generalize L2.upd Hd p4 (.tup [V.str ("take" : Str), .int 0, .ref q4, .int 0]) = He at *
    refine ⟨(by show 4 ≤ sizeLine; decide), fun L1 hL1 => ?_⟩
    have g6 := same_upd (o := HO.lst [V.ref p1, V.ref p2, V.ref p3, V.ref p4]) hL1
    have hl1 : (L2.upd He L1 (.lst [V.ref p1, V.ref p2, V.ref p3, V.ref p4])) L1 = some (.lst [V.ref p1, V.ref p2, V.ref p3, V.ref p4]) := upd_same
    have e6 := e5.trans g6
    have d1 := Dp.same g6 _ _ d1
    have d2 := Dp.same g6 _ _ d2
    have d3 := Dp.same g6 _ _ d3
    have d4 := Dp.same g6 _ _ d4
    generalize L2.upd He L1 (.lst [V.ref p1, V.ref p2, V.ref p3, V.ref p4]) = Hf at *
    dsimp only [List.set_cons_succ, List.set_cons_zero]
    refine ⟨_, rfl, _, rfl, da, _, 1, _, rfl, rfl, SqT.same e6 sda8, rfl, a1, x1, rfl, .inr (SqT.same e6 s1), (by show 3 ≤ sizeLine; decide), fun p5 hp5 => ?_⟩
    have g7 := same_upd (o := HO.tup [V.str ("break" : Str), .int 0, .int (x1.length : Nat)]) hp5
    have d5 : Dp K (L2.upd Hf p5 (.tup [V.str ("break" : Str), .int 0, .int (x1.length : Nat)])) (.ref p5) (ddD (.brk 0 d.bs.length)) := .tup (SqT.of upd_same) (.cons (.str _) (.cons (.int _) (.cons (by rw [l1]; exact .int _) .nil)))
    have e7 := e6.trans g7
    have d1 := Dp.same g7 _ _ d1
    have d2 := Dp.same g7 _ _ d2
    have d3 := Dp.same g7 _ _ d3
    have d4 := Dp.same g7 _ _ d4
    have hl1 := g7 _ _ hl1
    generalize L2.upd Hf p5 (.tup [V.str ("break" : Str), .int 0, .int (x1.length : Nat)]) = Hg at *
    refine ⟨_, rfl, da, _, 3, _, rfl, rfl, SqT.same e7 sda8, rfl, a3, x3, rfl, .inr (SqT.same e7 s3), (by show 4 ≤ sizeLine; decide), fun p6 hp6 => ?_⟩
    have g8 := same_upd (o := HO.tup [V.str ("seal" : Str), .int 0, .int 0, .int (x3.length : Nat)]) hp6
    have d6 : Dp K (L2.upd Hg p6 (.tup [V.str ("seal" : Str), .int 0, .int 0, .int (x3.length : Nat)])) (.ref p6) (ddD (.lock 0 0 d.ss.length)) := .tup (SqT.of upd_same) (.cons (.str _) (.cons (.int _) (.cons (.int _) (.cons (by rw [l3]; exact .int _) .nil))))
    have e8 := e7.trans g8
    have d1 := Dp.same g8 _ _ d1
    have d2 := Dp.same g8 _ _ d2
    have d3 := Dp.same g8 _ _ d3
    have d4 := Dp.same g8 _ _ d4
    have d5 := Dp.same g8 _ _ d5
    have hl1 := g8 _ _ hl1
    generalize L2.upd Hg p6 (.tup [V.str ("seal" : Str), .int 0, .int 0, .int (x3.length : Nat)]) = Hh at *
    refine ⟨(by show 2 ≤ sizeLine; decide), fun q7 hq7 => ?_⟩
    have g9 := same_upd (o := HO.tup [V.str ("thing" : Str), .int 9]) hq7
    have ds7 : Dp K (L2.upd Hh q7 (.tup [V.str ("thing" : Str), .int 9])) (.ref q7) (itP (.thing, 9)) := .tup (SqT.of upd_same) (.cons (.str _) (.cons (.int _) .nil))
    have e9 := e8.trans g9
    have d1 := Dp.same g9 _ _ d1
    have d2 := Dp.same g9 _ _ d2
    have d3 := Dp.same g9 _ _ d3
    have d4 := Dp.same g9 _ _ d4
    have d5 := Dp.same g9 _ _ d5
    have d6 := Dp.same g9 _ _ d6
    have hl1 := g9 _ _ hl1
    generalize L2.upd Hh q7 (.tup [V.str ("thing" : Str), .int 9]) = Hi at *
    refine ⟨(by show 4 ≤ sizeLine; decide), fun p7 hp7 => ?_⟩
    have g10 := same_upd (o := HO.tup [V.str ("give" : Str), .int 0, .ref q7, .int 0]) hp7
    have d7 : Dp K (L2.upd Hi p7 (.tup [V.str ("give" : Str), .int 0, .ref q7, .int 0])) (.ref p7) (ddD (.give 0 (.thing, 9) 0)) := .tup (SqT.of upd_same) (.cons (.str _) (.cons (.int _) (.cons (Dp.same g10 _ _ ds7) (.cons (.int _) .nil))))
    have e10 := e9.trans g10
    have dA : DpAll K _ [V.ref p1, V.ref p2, V.ref p3, V.ref p4, V.ref p5, V.ref p6] [ddD (.give d.hands.toNat (.box, 0) 0), ddD (.give 0 (.box, 0) 0), ddD (.put 0 (.box, 0) 0), ddD (.take 0 (.sl, 0) 0), ddD (.brk 0 d.bs.length), ddD (.lock 0 0 d.ss.length)] := Dp.sames g10 _ _ (.cons d1 (.cons d2 (.cons d3 (.cons d4 (.cons d5 (.cons d6 .nil))))))
    have hl1 := g10 _ _ hl1
    generalize L2.upd Hi p7 (.tup [V.str ("give" : Str), .int 0, .ref q7, .int 0]) = Hj at *
    refine ⟨(by show 3 ≤ sizeLine; decide), fun L2' hL2 => ?_⟩
    have g11 := same_upd (o := HO.lst [V.ref p5, V.ref p6, V.ref p7]) hL2
    refine ⟨L1, L2', _, _, rfl, rfl, g11 _ _ hl1, upd_same, (by show 7 ≤ sizeLine; decide), fun L3 hL3 => ?_⟩
    have g12 := same_upd (o := HO.lst ([V.ref p1, V.ref p2, V.ref p3, V.ref p4] ++ [V.ref p5, V.ref p6, V.ref p7])) hL3
    have e12 := (e10.trans g11).trans g12
    have dA : DpAll K _ ([V.ref p1, V.ref p2, V.ref p3, V.ref p4] ++ [V.ref p5, V.ref p6, V.ref p7]) ((bads d).map ddD) := Dp.sames (g11.trans g12) _ _ (DpAll.app dA (.cons d7 .nil))
    have hl3 : (L2.upd (L2.upd Hj L2' (.lst [V.ref p5, V.ref p6, V.ref p7])) L3 (.lst ([V.ref p1, V.ref p2, V.ref p3, V.ref p4] ++ [V.ref p5, V.ref p6, V.ref p7]))) L3 = some (.lst ([V.ref p1, V.ref p2, V.ref p3, V.ref p4] ++ [V.ref p5, V.ref p6, V.ref p7])) := upd_same
    obtain ⟨bl, hbl⟩ : ∃ bl, ([V.ref p1, V.ref p2, V.ref p3, V.ref p4] ++ [V.ref p5, V.ref p6, V.ref p7]) = bl := ⟨_, rfl⟩
    have lbl : bl.length = 7 := by rw [← hbl]; rfl
    rw [hbl] at hl3 dA e12 ⊢
    generalize L2.upd (L2.upd Hj L2' (.lst [V.ref p5, V.ref p6, V.ref p7])) L3 (.lst bl) = Hk at *
    have hB9 := hB8.same e12
    have hw9 := hw8.same e12
    have hh9 := hh8.nl (nl_same e12)
    have hT9 : LamX.Tabs TT Hk := LamX.Tabs.ext hT8 (fun c o q => e12 c o q)
    have hxs9 := e12 _ _ hxs
    have dxs9 := Dp.sames e12 _ _ dxs
    have nB3 : L3 ≠ h ∧ L3 ≠ c := (hB8.same (e10.trans g11)).neL hL3
    clear hB8 hw8 hh8 hT8 hxs dxs e1 e2 e3 e4 e5 e6 e7 e8 e9 e10 e12 f9 g1 g2 g3 g4 g5 g6 g7 g8 g9 g10 g11 g12 d1 d2 d3 d4 d5 d6 d7 db1 db2 db9 ds4 ds7 hl1
    dsimp only [List.set_cons_succ, List.set_cons_zero]
    -- place
    refine ⟨_, rfl, _, rfl, D, xs, rfl, .inl (SqL.of hxs9), _, _, rfl, rfl, h, c, _, rfl, by omega, by omega, hB9, fun pl Hl pl0 pl1 hB10 k10 => ?_⟩
    obtain ⟨pn, rfl⟩ : ∃ pn : Nat, pl = (pn : Int) := ⟨pl.toNat, by omega⟩
    have hpn : pn ≤ es.length := by omega
    have hw10 := hw9.nl k10.nl
    have hh10 := hh9.nl k10.nl
    have hT10 := Tabs.kb k10 hT9
    have hxs10 := k10.kp.ls _ _ hxs9 nD.1 nD.2
    have dxs10 := Dp.nls k10.nl _ _ (noLs_map ddD noL_dd es) dxs9
    have hl10 := k10.kp.ls _ _ hl3 nB3.1 nB3.2
    have dA10 := Dp.nls k10.nl _ _ (noLs_map ddD noL_dd (bads d)) dA
    clear hw9 hh9 hT9 hxs9 dxs9 hl3 dA hB9 k10
    dsimp only [List.set_cons_succ, List.set_cons_zero]
    -- the first row
    refine ⟨_, rfl, _, rfl, _, rfl, D, xs, rfl, SqL.of hxs10, fun S1 hS1 => ?_⟩
    rw [cut_to (by omega)]
    have nS1 := hB10.neL hS1
    have q1 := same_upd (o := HO.lst (xs.take pn)) hS1
    have hs1 : (L2.upd Hl S1 (.lst (xs.take pn))) S1 = some (.lst (xs.take pn)) := upd_same
    have hB11 := hB10.same q1
    refine ⟨_, rfl, _, rfl, h, c, 7, rfl, by decide, by decide, hB11, fun r7 Hm r0 r1 hB12 k12 => ?_⟩
    have z10 : Nl Hl Hm := fun a u hh n1 n2 => k12.kp.nl a u (q1 a u hh) n1 n2
    have zls : ∀ a' ys, Hl a' = some (.lst ys) → a' ≠ h → a' ≠ c → Hm a' = some (.lst ys) := fun a' ys hh n1 n2 => k12.kp.ls _ _ (q1 _ _ hh) n1 n2
    have hs1 := k12.kp.ls _ _ hs1 nS1.1 nS1.2
    have hw12 := hw10.nl z10
    have hh12 := hh10.nl z10
    have hT12 : LamX.Tabs TT Hm := Tabs.kb k12 (LamX.Tabs.ext hT10 (fun c o q => q1 c o q))
    have hxs12 := zls _ _ hxs10 nD.1 nD.2
    have dxs12 := Dp.nls z10 _ _ (noLs_map ddD noL_dd es) dxs10
    have hl12 := zls _ _ hl10 nB3.1 nB3.2
    have dA12 := Dp.nls z10 _ _ (noLs_map ddD noL_dd (bads d)) dA10
    clear hw10 hh10 hT10 hxs10 dxs10 hl10 dA10 hB10 hB11 k12 z10 zls q1
    obtain ⟨bn, rfl⟩ : ∃ bn : Nat, r7 = (bn : Int) := ⟨r7.toNat, by omega⟩
    obtain ⟨by_, hby⟩ : ∃ y, bl[bn]? = some y := ⟨_, List.getElem?_eq_getElem (by omega)⟩
    obtain ⟨bd, hbd1, hbd2⟩ := DpAll.get dA12 hby
    obtain ⟨bb, hbb, rfl⟩ : ∃ bb, bb ∈ bads d ∧ ddD bb = bd := by
      rw [List.getElem?_map] at hbd1
      cases z : (bads d)[bn]? with
      | none => rw [z] at hbd1; cases hbd1
      | some q => rw [z] at hbd1; exact ⟨q, List.mem_of_getElem? z, Option.some.inj hbd1⟩
    refine ⟨L3, bl, _, by_, rfl, rfl, SqL.of hl12, atI_nat hby, (by show 1 ≤ sizeLine; decide), fun L4 hL4 => ?_⟩
    have q2 := same_upd (o := HO.lst [by_]) hL4
    refine ⟨S1, L4, _, _, rfl, rfl, q2 _ _ hs1, upd_same, (by rw [List.length_take, List.length_singleton]; omega), fun C1 hC1 => ?_⟩
    have q3 := q2.trans (same_upd (o := HO.lst (xs.take pn ++ [by_])) hC1)
    have hc1 : (L2.upd (L2.upd Hm L4 (.lst [by_])) C1 (.lst (xs.take pn ++ [by_]))) C1 = some (.lst (xs.take pn ++ [by_])) := upd_same
    generalize L2.upd (L2.upd Hm L4 (.lst [by_])) C1 (.lst (xs.take pn ++ [by_])) = Hn at *
    refine ⟨_, rfl, _, rfl, _, rfl, D, xs, rfl, SqL.of (q3 _ _ hxs12), fun S2 hS2 => ?_⟩
    rw [cut_fromV (by omega)]
    have q4 := same_upd (o := HO.lst (xs.drop pn)) hS2
    refine ⟨C1, S2, _, _, rfl, rfl, q4 _ _ hc1, upd_same, (by rw [List.length_append, List.length_take, List.length_singleton, List.length_drop]; omega), fun R0 hR0 => ?_⟩
    have nR0 := hB12.neL (same_none (q3.trans q4) hR0)
    have q5 := (q3.trans q4).trans (same_upd (o := HO.lst (xs.take pn ++ [by_] ++ xs.drop pn)) hR0)
    have hr0 : (L2.upd (L2.upd Hn S2 (.lst (xs.drop pn))) R0 (.lst (xs.take pn ++ [by_] ++ xs.drop pn))) R0 = some (.lst (xs.take pn ++ [by_] ++ xs.drop pn)) := upd_same
    generalize L2.upd (L2.upd Hn S2 (.lst (xs.drop pn))) R0 (.lst (xs.take pn ++ [by_] ++ xs.drop pn)) = Ho at *
    refine ⟨_, rfl, (by show 2 ≤ sizeLine; decide), fun t0 ht0 => ?_⟩
    have q6 := q5.trans (same_upd (o := HO.tup [V.ref R0, .int (pn : Nat)]) ht0)
    have ht0 : (L2.upd Ho t0 (.tup [V.ref R0, .int (pn : Nat)])) t0 = some (.tup [V.ref R0, .int (pn : Nat)]) := upd_same
    have hr0 := (same_upd (o := HO.tup [V.ref R0, .int (pn : Nat)]) (by assumption)) _ _ hr0
    generalize L2.upd Ho t0 (.tup [V.ref R0, .int (pn : Nat)]) = Hp0 at *
    -- the second row
    refine ⟨(by show 0 ≤ sizeLine; decide), fun R1 hR1 => ⟨(by show 2 ≤ sizeLine; decide), fun t1 ht1' => ?_⟩⟩
    have u1 := (same_upd (o := HO.lst []) hR1).trans (same_upd (o := HO.tup [V.ref R1, .int 0]) ht1')
    have hr1' : (L2.upd (L2.upd Hp0 R1 (.lst [])) t1 (.tup [V.ref R1, .int 0])) R1 = some (.lst []) := (same_upd ht1') _ _ upd_same
    have ht1 : (L2.upd (L2.upd Hp0 R1 (.lst [])) t1 (.tup [V.ref R1, .int 0])) t1 = some (.tup [V.ref R1, .int 0]) := upd_same
    have nR1 := hB12.neL (same_none q6 hR1)
    have q7 := q6.trans u1
    have hr0 := u1 _ _ hr0
    have ht0 := u1 _ _ ht0
    generalize L2.upd (L2.upd Hp0 R1 (.lst [])) t1 (.tup [V.ref R1, .int 0]) = Hq at *
    -- the third row
    refine ⟨(by show 3 ≤ sizeLine; decide), fun b1 hb1 => ⟨(by show 1 ≤ sizeLine; decide), fun M1 hM1 => ?_⟩⟩
    have u2 := (same_upd (o := HO.tup [V.str ("break" : Str), .int 0, .int 0]) hb1).trans (same_upd (o := HO.lst [V.ref b1]) hM1)
    refine ⟨M1, 13, [V.ref b1], rfl, rfl, upd_same, by decide, by decide, (by show 1 * 13 ≤ sizeLine; decide), fun R2 hR2 => ⟨(by show 2 ≤ sizeLine; decide), fun t2 ht2' => ?_⟩⟩
    have nR2 := hB12.neL (same_none (q7.trans u2) hR2)
    have v2' := (same_upd (o := HO.lst (List.replicate (13 : Int).toNat [V.ref b1]).flatten) hR2)
    have v3' := (same_upd (o := HO.tup [V.ref R2, .int 12]) ht2')
    have hb1' := v3' _ _ (v2' _ _ ((same_upd (o := HO.lst [V.ref b1]) hM1) _ _ (show (L2.upd Hq b1 (.tup [V.str ("break" : Str), .int 0, .int 0])) b1 = some (.tup [V.str ("break" : Str), .int 0, .int 0]) from upd_same)))
    have hr2' := v3' _ _ (show (L2.upd (L2.upd (L2.upd Hq b1 (.tup [V.str ("break" : Str), .int 0, .int 0])) M1 (.lst [V.ref b1])) R2 (.lst (List.replicate (13 : Int).toNat [V.ref b1]).flatten)) R2 = some (.lst (List.replicate (13 : Int).toNat [V.ref b1]).flatten) from upd_same)
    have ht2 : (L2.upd (L2.upd (L2.upd (L2.upd Hq b1 (.tup [V.str ("break" : Str), .int 0, .int 0])) M1 (.lst [V.ref b1])) R2 (.lst (List.replicate (13 : Int).toNat [V.ref b1]).flatten)) t2 (.tup [V.ref R2, .int 12])) t2 = some (.tup [V.ref R2, .int 12]) := upd_same
    have u3 := (u2.trans v2').trans v3'
    have q8 := q7.trans u3
    have hr0 := u3 _ _ hr0
    have ht0 := u3 _ _ ht0
    have hr1' := u3 _ _ hr1'
    have ht1 := u3 _ _ ht1
    generalize L2.upd (L2.upd (L2.upd (L2.upd Hq b1 (.tup [V.str ("break" : Str), .int 0, .int 0])) M1 (.lst [V.ref b1])) R2 (.lst (List.replicate (13 : Int).toNat [V.ref b1]).flatten)) t2 (.tup [V.ref R2, .int 12]) = Hr at *
    refine ⟨(by show 3 ≤ sizeLine; decide), fun LR hLR => ?_⟩
    have u4 := same_upd (o := HO.lst [V.ref t0, V.ref t1, V.ref t2]) hLR
    have nr0 := ne_of_none hr0 hLR
    have nr1 := ne_of_none hr1' hLR
    have nr2 := ne_of_none hr2' hLR
    have hlr : (L2.upd Hr LR (.lst [V.ref t0, V.ref t1, V.ref t2])) LR = some (.lst [V.ref t0, V.ref t1, V.ref t2]) := upd_same
    have q9 := q8.trans u4
    have hr0 := u4 _ _ hr0
    have ht0 := u4 _ _ ht0
    have hr1' := u4 _ _ hr1'
    have ht1 := u4 _ _ ht1
    have hb1' := u4 _ _ hb1'
    have hr2' := u4 _ _ hr2'
    have ht2 := u4 _ _ ht2
    have nLR := hB12.neL (same_none q8 hLR)
    generalize L2.upd Hr LR (.lst [V.ref t0, V.ref t1, V.ref t2]) = Hs' at *
    dsimp only [List.set_cons_succ, List.set_cons_zero]
    -- the fourth row
    refine ⟨_, rfl, .inl ⟨rfl, _, SqL.of hlr⟩, (by show 3 ≤ sizeLine; decide), fun b3 hb3 => ⟨(by show 1 ≤ sizeLine; decide), fun M2 hM2 => ?_⟩⟩
    have w2 := (same_upd (o := HO.tup [V.str ("break" : Str), .int 0, .int 0]) hb3).trans (same_upd (o := HO.lst [V.ref b3]) hM2)
    refine ⟨M2, 12, [V.ref b3], rfl, rfl, upd_same, by decide, by decide, (by show 1 * 12 ≤ sizeLine; decide), fun R3 hR3 => ?_⟩
    have w3' := (same_upd (o := HO.lst (List.replicate (12 : Int).toNat [V.ref b3]).flatten) hR3)
    have hb3' := w3' _ _ ((same_upd (o := HO.lst [V.ref b3]) hM2) _ _ (show (L2.upd Hs' b3 (.tup [V.str ("break" : Str), .int 0, .int 0])) b3 = some (.tup [V.str ("break" : Str), .int 0, .int 0]) from upd_same))
    have hr3 : (L2.upd (L2.upd (L2.upd Hs' b3 (.tup [V.str ("break" : Str), .int 0, .int 0])) M2 (.lst [V.ref b3])) R3 (.lst (List.replicate (12 : Int).toNat [V.ref b3]).flatten)) R3 = some (.lst (List.replicate (12 : Int).toNat [V.ref b3]).flatten) := upd_same
    have x0 := w2.trans w3'
    have q10 := q9.trans x0
    generalize L2.upd (L2.upd (L2.upd Hs' b3 (.tup [V.str ("break" : Str), .int 0, .int 0])) M2 (.lst [V.ref b3])) R3 (.lst (List.replicate (12 : Int).toNat [V.ref b3]).flatten) = Ht at *
    obtain ⟨y0, hy0⟩ : ∃ y, bl[0]? = some y := ⟨_, List.getElem?_eq_getElem (by omega)⟩
    obtain ⟨y1, hy1⟩ : ∃ y, bl[1]? = some y := ⟨_, List.getElem?_eq_getElem (by omega)⟩
    refine ⟨_, rfl, L3, bl, 0, y0, rfl, rfl, SqL.of (q10 _ _ hl12), atI_nat (j := 0) hy0, _, rfl, L3, bl, 1, y1, rfl, rfl, SqL.of (q10 _ _ hl12), atI_nat (j := 1) hy1, (by show 2 ≤ sizeLine; decide), fun M3 hM3 => ?_⟩
    have x1' := same_upd (o := HO.lst [y0, y1]) hM3
    refine ⟨R3, M3, _, _, rfl, rfl, x1' _ _ hr3, upd_same, (by show 14 ≤ sizeLine; decide), fun R4 hR4 => ?_⟩
    have nr4 := ne_of_none (x1' _ _ (x0 _ _ hlr)) hR4
    have nR4 := hB12.neL (same_none (q10.trans x1') hR4)
    have x2' := x1'.trans (same_upd (o := HO.lst ((List.replicate (12 : Int).toNat [V.ref b3]).flatten ++ [y0, y1])) hR4)
    have hr4 : (L2.upd (L2.upd Ht M3 (.lst [y0, y1])) R4 (.lst ((List.replicate (12 : Int).toNat [V.ref b3]).flatten ++ [y0, y1]))) R4 = some (.lst ((List.replicate (12 : Int).toNat [V.ref b3]).flatten ++ [y0, y1])) := upd_same
    generalize L2.upd (L2.upd Ht M3 (.lst [y0, y1])) R4 (.lst ((List.replicate (12 : Int).toNat [V.ref b3]).flatten ++ [y0, y1])) = Hu at *
    refine ⟨(by show 2 ≤ sizeLine; decide), fun t3 ht3' => ?_⟩
    have x3' := same_upd (o := HO.tup [V.ref R4, .int 12]) ht3'
    have ht3 : (L2.upd Hu t3 (.tup [V.ref R4, .int 12])) t3 = some (.tup [V.ref R4, .int 12]) := upd_same
    have hr4 := x3' _ _ hr4
    have x4 := x2'.trans x3'
    have q11 := q10.trans x4
    have x5 := x0.trans x4
    have hr0 := x5 _ _ hr0
    have ht0 := x5 _ _ ht0
    have hr1' := x5 _ _ hr1'
    have ht1 := x5 _ _ ht1
    have hb1' := x5 _ _ hb1'
    have hr2' := x5 _ _ hr2'
    have ht2 := x5 _ _ ht2
    have hlr := x5 _ _ hlr
    have hb3' := x4 _ _ hb3'
    generalize L2.upd Hu t3 (.tup [V.ref R4, .int 12]) = Hv at *
    refine ⟨LR, _, _, rfl, rfl, hlr, (by show 3 < sizeLine; decide), ?_⟩
    have nlw : Nl Hv (L2.upd Hv LR (.lst ([V.ref t0, V.ref t1, V.ref t2] ++ [V.ref t3]))) := fun a u hh n1 _ => by
      by_cases z : a = LR
      · subst z
        rw [hlr] at hh
        cases hh
        exact absurd rfl (n1 _)
      · rw [upd_ne z]; exact hh
    have nlq : Nl Hm (L2.upd Hv LR (.lst ([V.ref t0, V.ref t1, V.ref t2] ++ [V.ref t3]))) := fun a u hh n1 n2 => nlw a u (q11 a u hh) n1 n2
    have bsm : ∀ e ∈ bads d, Sm e := fun e he => (bads_unk ok e he).2
    have sm8 : ∀ e ∈ es, Sm e := fun e he => (kes e he).2
    have dbk1 : Dp K (L2.upd Hv LR (.lst ([V.ref t0, V.ref t1, V.ref t2] ++ [V.ref t3]))) (.ref b1) (ddD (.brk 0 0)) := Dp.nl nlw _ _ (noL_dd _) (.tup (SqT.of hb1') (.cons (.str _) (.cons (.int _) (.cons (.int _) .nil))))
    have dbk3 : Dp K (L2.upd Hv LR (.lst ([V.ref t0, V.ref t1, V.ref t2] ++ [V.ref t3]))) (.ref b3) (ddD (.brk 0 0)) := Dp.nl nlw _ _ (noL_dd _) (.tup (SqT.of hb3') (.cons (.str _) (.cons (.int _) (.cons (.int _) .nil))))
    have dxsW := Dp.nls nlq _ _ (noLs_map ddD noL_dd es) dxs12
    have dAW := Dp.nls nlq _ _ (noLs_map ddD noL_dd (bads d)) dA12
    have dbbW : Dp K (L2.upd Hv LR (.lst ([V.ref t0, V.ref t1, V.ref t2] ++ [V.ref t3]))) by_ (ddD bb) := Dp.nl nlq _ _ (noL_dd bb) hbd2
    have rk0 : RowOk K d (L2.upd Hv LR (.lst ([V.ref t0, V.ref t1, V.ref t2] ++ [V.ref t3]))) R0 pn := by
      refine ⟨_, es.take pn ++ [bb] ++ es.drop pn, by rw [upd_ne nr0]; exact hr0, ?_, fun e he => ?_, ?_, row0_bad ok kes les hpn hbb⟩
      · rw [List.map_append, List.map_append, List.map_take, List.map_drop]
        exact DpAll.app (DpAll.app (dp_take dxsW) (.cons dbbW .nil)) (dp_drop dxsW)
      · rcases List.mem_append.mp he with he | he
        · rcases List.mem_append.mp he with he | he
          · exact sm8 e (List.mem_of_mem_take he)
          · rw [List.mem_singleton.mp he]; exact bsm bb hbb
        · exact sm8 e (List.mem_of_mem_drop he)
      · rw [List.length_append, List.length_append, List.length_take, List.length_singleton, List.length_drop]; omega
    have rk1 : RowOk K d (L2.upd Hv LR (.lst ([V.ref t0, V.ref t1, V.ref t2] ++ [V.ref t3]))) R1 0 := ⟨[], [], by rw [upd_ne nr1]; exact hr1', .nil, (fun e he => nomatch he), Nat.zero_le _, .inl ⟨rfl, rfl⟩⟩
    have rk2 : RowOk K d (L2.upd Hv LR (.lst ([V.ref t0, V.ref t1, V.ref t2] ++ [V.ref t3]))) R2 12 := by
      refine ⟨_, List.replicate 12 (.brk 0 0) ++ [.brk 0 0], by rw [upd_ne nr2]; exact hr2', ?_, fun e he => ?_, (by show 13 ≤ 1000; decide), rowN_bad ok (by decide)⟩
      · rw [List.flatten_replicate_singleton, List.map_append, List.map_replicate]
        exact dp_rep dbk1 13
      · rcases List.mem_append.mp he with he | he
        · rw [List.eq_of_mem_replicate he]; exact (brk_kn ok).2
        · rw [List.mem_singleton.mp he]; exact (brk_kn ok).2
    have rk3 : RowOk K d (L2.upd Hv LR (.lst ([V.ref t0, V.ref t1, V.ref t2] ++ [V.ref t3]))) R4 12 := by
      refine ⟨_, List.replicate 12 (.brk 0 0) ++ (bads d).take 2, by rw [upd_ne nr4.symm]; exact hr4, ?_, fun e he => ?_, (by show 14 ≤ 1000; decide), rowN_bad ok (by show 0 < 2; decide)⟩
      · rw [List.flatten_replicate_singleton, List.map_append, List.map_replicate]
        refine DpAll.app (dp_rep dbk3 12) ?_
        have z := dp_take (n := 2) dAW
        have e2 : bl.take 2 = [y0, y1] := by
          match bl, lbl, hy0, hy1 with
          | p :: q :: r, _, h0, h1 =>
            cases h0
            cases h1
            rfl
        rw [e2, ← List.map_take] at z
        exact z
      · rcases List.mem_append.mp he with he | he
        · rw [List.eq_of_mem_replicate he]; exact (brk_kn ok).2
        · exact bsm e (List.mem_of_mem_take he)
    have hrows : ∀ (r : Nat) y, ([V.ref t0, V.ref t1, V.ref t2] ++ [V.ref t3])[r]? = some y → ∃ tr lr due, y = .ref tr ∧ (L2.upd Hv LR (.lst ([V.ref t0, V.ref t1, V.ref t2] ++ [V.ref t3]))) tr = some (.tup [.ref lr, .int ((due : Nat) : Int)]) ∧ RowOk K d (L2.upd Hv LR (.lst ([V.ref t0, V.ref t1, V.ref t2] ++ [V.ref t3]))) lr due ∧ (lr ≠ h ∧ lr ≠ c) := fun r y hy => by
      have tt : ∀ {t o}, Hv t = some (.tup o) → (L2.upd Hv LR (.lst ([V.ref t0, V.ref t1, V.ref t2] ++ [V.ref t3]))) t = some (.tup o) := fun {t o} z => nlw _ _ z (fun _ q => nomatch q) (fun _ q => nomatch q)
      match r, hy with
      | 0, hy => cases hy; exact ⟨t0, R0, pn, rfl, tt ht0, rk0, nR0⟩
      | 1, hy => cases hy; exact ⟨t1, R1, 0, rfl, tt ht1, rk1, nR1⟩
      | 2, hy => cases hy; exact ⟨t2, R2, 12, rfl, tt ht2, rk2, nR2⟩
      | 3, hy => cases hy; exact ⟨t3, R4, 12, rfl, tt ht3, rk3, nR4⟩
      | r + 4, hy => cases hy
    have hlrW : (L2.upd Hv LR (.lst ([V.ref t0, V.ref t1, V.ref t2] ++ [V.ref t3]))) LR = some (.lst ([V.ref t0, V.ref t1, V.ref t2] ++ [V.ref t3])) := upd_same
    have hBW : HAt (L2.upd Hv LR (.lst ([V.ref t0, V.ref t1, V.ref t2] ++ [V.ref t3]))) h c := HAt.updD (hB12.same q11) nLR.1 nLR.2
    have hwW := hw12.nl nlq
    have hhW := hh12.nl nlq
    have hTW : LamX.Tabs TT (L2.upd Hv LR (.lst ([V.ref t0, V.ref t1, V.ref t2] ++ [V.ref t3]))) := fun p hp => by
      obtain ⟨ps, z1, z2, z3⟩ := (LamX.Tabs.ext hT12 (fun c o q => q11 c o q)) p hp
      have up : ∀ {b o}, Hv b = some o → (∀ xs, o ≠ .lst xs) → (L2.upd Hv LR (.lst ([V.ref t0, V.ref t1, V.ref t2] ++ [V.ref t3]))) b = some o := fun {b o} e n => by
        rw [upd_ne (fun z => by rw [z, hlr] at e; exact n _ (Option.some.inj e).symm)]
        exact e
      refine ⟨ps, up z1 (fun _ z => by cases z), z2, fun pos cv hc => ?_⟩
      obtain ⟨cc, y1, y2⟩ := z3 pos cv hc
      exact ⟨cc, y1, up y2 (fun _ z => by unfold LamX.CodeO at z; cases z)⟩
    obtain ⟨rl, hrl⟩ : ∃ rl, ([V.ref t0, V.ref t1, V.ref t2] ++ [V.ref t3]) = rl := ⟨_, rfl⟩
    have lrl : rl.length = 4 := by rw [← hrl]; rfl
    rw [hrl] at hrows hlrW hBW hwW hhW hTW ⊢
    clear rk0 rk1 rk2 rk3 dbk1 dbk3 dxsW dAW dbbW nlw nlq hB12 hw12 hh12 hT12 hxs12 dxs12 hl12 dA12 hr0 hr1' hr2' hr4 ht0 ht1 ht2 ht3 hlr hb1' hb3' q11 q10 q9 q8 q7 q6 q5 x0 x1' x2' x3' x4 x5 u1 u2 u3 u4 hs1
    generalize L2.upd Hv LR (.lst rl) = HW at *
    dsimp only [List.set_cons_succ, List.set_cons_zero]
    refine ⟨_, rfl, _, rfl, h, c, 4, rfl, by decide, by decide, hBW, fun rI HX rI0 rI1 hBX kX => ?_⟩
    obtain ⟨rn, rfl⟩ : ∃ rn : Nat, rI = (rn : Int) := ⟨rI.toNat, by omega⟩
    obtain ⟨ry, hry⟩ : ∃ y, rl[rn]? = some y := ⟨_, List.getElem?_eq_getElem (by omega)⟩
    obtain ⟨tr, lr, due, rfl, htr, hrow, nlr⟩ := hrows rn ry hry
    refine ⟨LR, rl, _, _, rfl, rfl, SqL.of (kX.kp.ls _ _ hlrW nLR.1 nLR.2), atI_nat hry, tr, _, rfl, SqT.of (kX.kp.nl _ _ htr (fun _ z => nomatch z) (fun _ z => nomatch z)), rfl, _, _, rfl, _, _, rfl, rfl, ?_⟩
    have hwX := hwW.nl kX.nl
    have hhX := hhW.nl kX.nl
    have hTX := Tabs.kb kX hTW
    have hrowX := hrow.kb kX nlr
    clear hwW hhW hTW hrow hrows hlrW hBW htr kX
    dsimp only [List.set_cons_succ, List.set_cons_zero]
    have tw : TW K C CW TT h c a hh d HX := ⟨hBX, hTX, hwX, hhX⟩
    clear hBX hTX hwX hhX
    -- the number that cannot be
    refine ⟨_, _, rfl, rfl, _, _, rfl, rfl, ⟨by decide, by decide, by decide⟩, _, _, rfl, rfl, _, _, rfl, rfl, ⟨by decide, by decide, by decide⟩, (by show 3 ≤ sizeLine; decide), fun LW hLW => ?_⟩
    dsimp only
    have e18 : (10 : Int) ^ (18 : Int).toNat = 1000000000000000000 := by decide
    have e19 : (10 : Int) ^ (19 : Int).toNat = 10000000000000000000 := by decide
    rw [e18, e19] at *
    obtain ⟨wl, hwl⟩ : ∃ wl, [V.int (0 - 1), V.int (1000000000000000000 + 1), V.int 10000000000000000000] = wl := ⟨_, rfl⟩
    have hwv : ∀ (r : Nat) y, wl[r]? = some y → ∃ cw, y = .int cw ∧ ¬ (0 ≤ cw ∧ cw ≤ M18) := fun r y hy => by
      subst hwl
      match r, hy with
      | 0, hy => cases hy; exact ⟨_, rfl, by decide⟩
      | 1, hy => cases hy; exact ⟨_, rfl, by decide⟩
      | 2, hy => cases hy; exact ⟨_, rfl, by decide⟩
      | r + 3, hy => cases hy
    have lwl : wl.length = 3 := by rw [← hwl]; rfl
    rw [hwl] at *
    have fW := same_upd (o := HO.lst wl) hLW
    have nLW := tw.hB.neL hLW
    have tw := tw.same fW
    have hrowX := hrowX.same fW
    have hlw : (L2.upd HX LW (.lst wl)) LW = some (.lst wl) := upd_same
    generalize L2.upd HX LW (.lst wl) = HY0 at *
    refine ⟨_, rfl, h, c, 3, rfl, by decide, by decide, tw.hB, fun wI HY wI0 wI1 hBY kY => ?_⟩
    obtain ⟨wn, rfl⟩ : ∃ wn : Nat, wI = (wn : Int) := ⟨wI.toNat, by omega⟩
    obtain ⟨wy, hwy⟩ : ∃ y, wl[wn]? = some y := ⟨_, List.getElem?_eq_getElem (by omega)⟩
    obtain ⟨cw, rfl, hcw⟩ := hwv wn wy hwy
    refine ⟨LW, wl, _, _, rfl, rfl, SqL.of (kY.kp.ls _ _ hlw nLW.1 nLW.2), atI_nat hwy, ?_⟩
    have tw := tw.kb kY hBY
    have hrow := hrowX.kb kY nlr
    clear hrowX hlw hwv kY fW
    dsimp only [List.set_cons_succ, List.set_cons_zero]
    -- three works
    refine ⟨tw.hT, fun f1 HZ1 x1 T1 lm1 => ⟨T1, fun f2 HZ2 x2 T2 lm2 => ⟨(by show 2 ≤ sizeLine; decide), fun LK hLK => ?_⟩⟩⟩
    have tw := (tw.ext x1 T1).ext x2 T2
    have hrow := (hrow.ext x1).ext x2
    have lm1 := lm1.keep (LmX.KeepX.ofN x2)
    have fK := same_upd (o := HO.lst [V.ref f1, V.ref f2]) hLK
    have nLK := tw.hB.neL hLK
    have nlk : lr ≠ LK := by
      obtain ⟨_, _, z, _⟩ := hrow
      exact ne_of_none z hLK
    have tw := tw.same fK
    have hrow := hrow.same fK
    have lm1 := lm1.keep (LmX.KeepX.of fK)
    have lm2 := lm2.keep (LmX.KeepX.of fK)
    have hlk : (L2.upd HZ2 LK (.lst [V.ref f1, V.ref f2])) LK = some (.lst [V.ref f1, V.ref f2]) := upd_same
    generalize L2.upd HZ2 LK (.lst [V.ref f1, V.ref f2]) = HZ3 at *
    clear fK x1 x2 T1 T2 hLK
    dsimp only [List.set_cons_succ, List.set_cons_zero]
    refine ⟨_, rfl, .inl ⟨rfl, _, SqL.of hlk⟩, tw.hT, fun f3 HZ4 x4 T4 lm3 => ?_⟩
    have tw := tw.ext x4 T4
    have hrow := hrow.ext x4
    have lm1 := lm1.keep (LmX.KeepX.ofN x4)
    have lm2 := lm2.keep (LmX.KeepX.ofN x4)
    have hlk := x4 _ _ hlk (fun _ z => nomatch z)
    refine ⟨LK, _, _, rfl, rfl, hlk, (by show 2 < sizeLine; decide), ?_⟩
    have kx : LmX.KeepX HZ4 (L2.upd HZ4 LK (.lst ([V.ref f1, V.ref f2] ++ [V.ref f3]))) := LmX.KeepX.upd hlk (fun _ z => nomatch z)
    have tw := tw.lst (ys := [V.ref f1, V.ref f2] ++ [V.ref f3]) hlk nLK
    have hrow := hrow.lst (ys := [V.ref f1, V.ref f2] ++ [V.ref f3]) hlk nlk
    have lm1 := lm1.keep kx
    have lm2 := lm2.keep kx
    have lm3 := lm3.keep kx
    have hlk : (L2.upd HZ4 LK (.lst ([V.ref f1, V.ref f2] ++ [V.ref f3]))) LK = some (.lst ([V.ref f1, V.ref f2] ++ [V.ref f3])) := upd_same
    generalize L2.upd HZ4 LK (.lst ([V.ref f1, V.ref f2] ++ [V.ref f3])) = HZ5 at *
    clear kx x4 T4
    dsimp only [List.set_cons_succ, List.set_cons_zero]
    refine ⟨_, rfl, LK, rfl, ⟨_, SqL.of hlk⟩, fun D2 hD2 => ?_⟩
    refine works_read (X := lawX P w K mg base f cd A outer s H E) [(f1, tRn K C CW XR XN 12, invD due), (f2, tTn K C CW XR XN ce 12 9, invD due), (f3, tFn K C CW XR ce 12 (tTup (tCons (tC (.str ("bare" : Str))) (tCons (tC (.int 9)) tNil))), invD due)]
      ?_ (by show 3 ≤ 100; decide) hlk hD2 (fun x hx => ?_) (fun ys H6 e6 hy6 dy6 => ?_)
    · show 16 < 17
      decide
    · simp only [List.mem_cons, List.not_mem_nil, or_false] at hx
      rcases hx with rfl | rfl | rfl
      · exact ⟨lm1, wk_rn L rfl rfl rfl tw.hw tw.hh hrow, rfl⟩
      · exact ⟨lm2, wk_tn L (b := 9) (by decide) rfl rfl rfl tw.hw tw.hh hrow, rfl⟩
      · exact ⟨lm3, wk_fn L rfl rfl tw.hw tw.hh hrow, rfl⟩
    clear lm1 lm2 lm3 hrow hlk
    have tw := tw.same e6
    clear hD2
    refine ⟨_, rfl, (by show 2 ≤ sizeLine; decide), fun q8 hq8 => ⟨(by show 1 ≤ sizeLine; decide), fun M8 hM8 => ?_⟩⟩
    have g1 := same_upd (o := HO.tup [V.str ("InvalidRound" : Str), .int (due : Nat)]) hq8
    have dq : Dp K (L2.upd H6 q8 (.tup [V.str ("InvalidRound" : Str), .int (due : Nat)])) (.ref q8) (invD due) := .tup (SqT.of upd_same) (.cons (.str _) (.cons (.int _) .nil))
    have g2 := same_upd (o := HO.lst [V.ref q8]) hM8
    refine ⟨M8, 3, [V.ref q8], rfl, rfl, upd_same, by decide, by decide, (by show 1 * 3 ≤ sizeLine; decide), fun R8 hR8 => ?_⟩
    have g3 := same_upd (o := HO.lst (List.replicate (3 : Int).toNat [V.ref q8]).flatten) hR8
    have g := g1.trans (g2.trans g3)
    have dR : Dp K (L2.upd (L2.upd (L2.upd H6 q8 (.tup [V.str ("InvalidRound" : Str), .int (due : Nat)])) M8 (.lst [V.ref q8])) R8 (.lst (List.replicate (3 : Int).toNat [V.ref q8]).flatten)) (.ref R8) (.list (List.replicate 3 (invD due))) :=
      .lst (SqL.of upd_same) (by rw [List.flatten_replicate_singleton]; exact dp_rep (Dp.same (g2.trans g3) _ _ dq) 3)
    refine ⟨_, _, .list (List.replicate 3 (invD due)), rfl, .lst (SqL.of (g _ _ hy6)) (Dp.sames g _ _ dy6), dR, alk_inv due 0, fun H9 e9 => ⟨_, rfl, iteFe (by rfl) ?_⟩⟩
    have tw := tw.same (g.trans e9)
    clear dq dR g1 g2 g3 g e9 hy6 dy6 e6
    -- deeds that can be
    refine ⟨(by show 3 ≤ sizeLine; decide), fun b5 hb5 => ⟨(by show 1 ≤ sizeLine; decide), fun M9 hM9 => ?_⟩⟩
    have i1 := same_upd (o := HO.tup [V.str ("break" : Str), .int 0, .int 0]) hb5
    have db5 : Dp K (L2.upd H9 b5 (.tup [V.str ("break" : Str), .int 0, .int 0])) (.ref b5) (ddD (.brk 0 0)) := .tup (SqT.of upd_same) (.cons (.str _) (.cons (.int _) (.cons (.int _) .nil)))
    have i2 := same_upd (o := HO.lst [V.ref b5]) hM9
    have nM9 := (tw.hB.same i1).neL hM9
    have tw := tw.same (i1.trans i2)
    have db5 := Dp.same i2 _ _ db5
    have hm9 : (L2.upd (L2.upd H9 b5 (.tup [V.str ("break" : Str), .int 0, .int 0])) M9 (.lst [V.ref b5])) M9 = some (.lst [V.ref b5]) := upd_same
    generalize L2.upd (L2.upd H9 b5 (.tup [V.str ("break" : Str), .int 0, .int 0])) M9 (.lst [V.ref b5]) = HA0 at *
    refine ⟨_, rfl, h, c, 12, rfl, by decide, by decide, tw.hB, fun n12 HA n120 n121 hBA kA => ⟨_, _, rfl, rfl, ?_⟩⟩
    have tw := tw.kb kA hBA
    have db5 := Dp.nl kA.nl _ _ (noL_dd _) db5
    have hm9 := kA.kp.ls _ _ hm9 nM9.1 nM9.2
    obtain ⟨kn, hkn⟩ : ∃ kn : Nat, 1 + n12 = (kn : Int) := ⟨(1 + n12).toNat, by omega⟩
    refine ⟨M9, 1 + n12, [V.ref b5], rfl, rfl, hm9, by omega, by omega, (by rw [hkn]; show 1 * kn ≤ sizeLine; omega), fun DD hDD => ?_⟩
    rw [hkn]
    rw [show ((kn : Int)).toNat = kn from rfl, List.flatten_replicate_singleton]
    have i3 := same_upd (o := HO.lst (List.replicate kn (V.ref b5))) hDD
    have tw := tw.same i3
    have gd : GoodAt K d (L2.upd HA DD (.lst (List.replicate kn (V.ref b5)))) DD (List.replicate kn (V.ref b5)) (List.replicate kn (.brk 0 0)) :=
      ⟨upd_same, by rw [List.map_replicate]; exact dp_rep (Dp.same i3 _ _ db5) kn, fun e he => by rw [List.eq_of_mem_replicate he]; exact brk_kn ok, by rw [List.length_replicate]; omega, by rw [List.length_replicate]; omega⟩
    generalize L2.upd HA DD (.lst (List.replicate kn (V.ref b5))) = HB0 at *
    clear i1 i2 i3 db5 hm9 kA
    dsimp only [List.set_cons_succ, List.set_cons_zero]
    -- four works
    refine ⟨tw.hT, fun f4 HC1 x1 T1 lm4 => ⟨T1, fun f5 HC2 x2 T2 lm5 => ⟨(by show 2 ≤ sizeLine; decide), fun LA hLA => ?_⟩⟩⟩
    have tw := (tw.ext x1 T1).ext x2 T2
    have gd := (gd.ext x1).ext x2
    have lm4 := lm4.keep (LmX.KeepX.ofN x2)
    have fK := same_upd (o := HO.lst [V.ref f4, V.ref f5]) hLA
    have tw := tw.same fK
    have gd := gd.same fK
    have lm4 := lm4.keep (LmX.KeepX.of fK)
    have lm5 := lm5.keep (LmX.KeepX.of fK)
    have hla : (L2.upd HC2 LA (.lst [V.ref f4, V.ref f5])) LA = some (.lst [V.ref f4, V.ref f5]) := upd_same
    generalize L2.upd HC2 LA (.lst [V.ref f4, V.ref f5]) = HC3 at *
    clear fK x1 x2 T1 T2 hLA
    dsimp only [List.set_cons_succ, List.set_cons_zero]
    refine ⟨_, rfl, tw.hT, fun f6 HC4 x4 T4 lm6 => ⟨(by show 1 ≤ sizeLine; decide), fun LB hLB => ?_⟩⟩
    have tw := tw.ext x4 T4
    have gd := gd.ext x4
    have lm4 := lm4.keep (LmX.KeepX.ofN x4)
    have lm5 := lm5.keep (LmX.KeepX.ofN x4)
    have hla := x4 _ _ hla (fun _ z => nomatch z)
    have j1 := same_upd (o := HO.lst [V.ref f6]) hLB
    refine ⟨LA, LB, _, _, rfl, rfl, j1 _ _ hla, upd_same, (by show 3 ≤ sizeLine; decide), fun LC hLC => ?_⟩
    have j2 := j1.trans (same_upd (o := HO.lst ([V.ref f4, V.ref f5] ++ [V.ref f6])) hLC)
    have nLC := (tw.hB.same j1).neL hLC
    have ndd : DD ≠ LC := ne_of_none (gd.same j1).ls hLC
    have tw := tw.same j2
    have gd := gd.same j2
    have lm4 := lm4.keep (LmX.KeepX.of j2)
    have lm5 := lm5.keep (LmX.KeepX.of j2)
    have lm6 := lm6.keep (LmX.KeepX.of j2)
    have hlc : (L2.upd (L2.upd HC4 LB (.lst [V.ref f6])) LC (.lst ([V.ref f4, V.ref f5] ++ [V.ref f6]))) LC = some (.lst ([V.ref f4, V.ref f5] ++ [V.ref f6])) := upd_same
    generalize L2.upd (L2.upd HC4 LB (.lst [V.ref f6])) LC (.lst ([V.ref f4, V.ref f5] ++ [V.ref f6])) = HC5 at *
    clear j1 j2 x4 T4 hLC hLB hla
    dsimp only [List.set_cons_succ, List.set_cons_zero]
    refine ⟨_, rfl, .inl ⟨rfl, _, SqL.of hlc⟩, tw.hT, fun f7 HC6 x6 T6 lm7 => ?_⟩
    have tw := tw.ext x6 T6
    have gd := gd.ext x6
    have lm4 := lm4.keep (LmX.KeepX.ofN x6)
    have lm5 := lm5.keep (LmX.KeepX.ofN x6)
    have lm6 := lm6.keep (LmX.KeepX.ofN x6)
    have hlc := x6 _ _ hlc (fun _ z => nomatch z)
    refine ⟨LC, _, _, rfl, rfl, hlc, (by show 3 < sizeLine; decide), ?_⟩
    have kx : LmX.KeepX HC6 (L2.upd HC6 LC (.lst ([V.ref f4, V.ref f5] ++ [V.ref f6] ++ [V.ref f7]))) := LmX.KeepX.upd hlc (fun _ z => nomatch z)
    have tw := tw.lst (ys := [V.ref f4, V.ref f5] ++ [V.ref f6] ++ [V.ref f7]) hlc nLC
    have gd := gd.lst (zs := [V.ref f4, V.ref f5] ++ [V.ref f6] ++ [V.ref f7]) hlc ndd
    have lm4 := lm4.keep kx
    have lm5 := lm5.keep kx
    have lm6 := lm6.keep kx
    have lm7 := lm7.keep kx
    have hlc : (L2.upd HC6 LC (.lst ([V.ref f4, V.ref f5] ++ [V.ref f6] ++ [V.ref f7]))) LC = some (.lst ([V.ref f4, V.ref f5] ++ [V.ref f6] ++ [V.ref f7])) := upd_same
    generalize L2.upd HC6 LC (.lst ([V.ref f4, V.ref f5] ++ [V.ref f6] ++ [V.ref f7])) = HC7 at *
    clear kx x6 T6
    refine ⟨(by show 4 ≤ sizeLine; decide), fun LD hLD => ?_⟩
    have m1 := same_upd (o := HO.lst [V.str ("InvalidNumber" : Str), V.str ("UnknownBox" : Str), V.str ("InvalidNumber" : Str), V.str ("UnknownBox" : Str)]) hLD
    have dld : Dp K (L2.upd HC7 LD (.lst [V.str ("InvalidNumber" : Str), V.str ("UnknownBox" : Str), V.str ("InvalidNumber" : Str), V.str ("UnknownBox" : Str)])) (.ref LD) (.list strsD) := .lst (SqL.of upd_same) (.cons (.str _) (.cons (.str _) (.cons (.str _) (.cons (.str _) .nil))))
    have tw := tw.same m1
    have gd := gd.same m1
    have lm4 := lm4.keep (LmX.KeepX.of m1)
    have lm5 := lm5.keep (LmX.KeepX.of m1)
    have lm6 := lm6.keep (LmX.KeepX.of m1)
    have lm7 := lm7.keep (LmX.KeepX.of m1)
    have hlc := m1 _ _ hlc
    generalize L2.upd HC7 LD (.lst [V.str ("InvalidNumber" : Str), V.str ("UnknownBox" : Str), V.str ("InvalidNumber" : Str), V.str ("UnknownBox" : Str)]) = HC8 at *
    clear m1 hLD
    dsimp only [List.set_cons_succ, List.set_cons_zero]
    refine ⟨_, rfl, LC, rfl, ⟨_, SqL.of hlc⟩, fun D3 hD3 => ?_⟩
    refine works_read (X := lawX P w K mg base f cd A outer s H E) [(f4, tRn K C CW XR XN 6, .str "InvalidNumber"), (f5, tTn K C CW XR XN ce 6 9, .str "UnknownBox"), (f6, tTn K C CW XR XN ce 6 0, .str "InvalidNumber"), (f7, tFn K C CW XR ce 6 (tTup (tCons (tC (.str ("in" : Str))) (tCons (tC (.int 9)) (tCons (tTup tNil) tNil)))), .str "UnknownBox")]
      ?_ (by show 4 ≤ 100; decide) hlc hD3 (fun x hx => ?_) (fun ys H9' e9 hy9 dy9 => ?_)
    · show 16 < 17
      decide
    · simp only [List.mem_cons, List.not_mem_nil, or_false] at hx
      rcases hx with rfl | rfl | rfl | rfl
      · exact ⟨lm4, gk_rn L hcw rfl rfl rfl tw.hw tw.hh gd, rfl⟩
      · exact ⟨lm5, gk_tn L o_b1 hcw rfl rfl rfl tw.hw tw.hh gd, rfl⟩
      · exact ⟨lm6, gk_tn0 L o_b0 hcw rfl rfl rfl tw.hw tw.hh gd, rfl⟩
      · exact ⟨lm7, gk_fn L o_b1 rfl rfl tw.hw tw.hh gd, rfl⟩
    refine ⟨_, rfl, _, _, .list strsD, rfl, .lst (SqL.of hy9) dy9, Dp.same e9 _ _ dld, alk_strs, fun HE eE => ⟨_, rfl, iteFe (by rfl) ?_⟩⟩
    have tw := tw.same (e9.trans eE)
    have gd := gd.same (e9.trans eE)
    clear lm4 lm5 lm6 lm7 hlc dld hy9 dy9 e9 eE hD3
    -- one that is done
    refine ⟨tw.hT, fun f8 HF x8 T8 lm8 => ⟨f8, _, rfl, lm8, ?_⟩⟩
    have tw := tw.ext x8 T8
    have gd := gd.ext x8
    obtain ⟨sts, e, full⟩ := full_ex ok.wf (fun e he => ⟨(gd.kn e he).1.1, (gd.kn e he).1.2, (gd.kn e he).2⟩) four
    refine ⟨_, rfl, _, rfl, _, _, rfl, rfl, ⟨by decide, by decide, by decide⟩, a, hh, DD, _, d, d, _, _, rfl, gd.wr tw.hw tw.hh, fun i bd => absurd bd (good_bad gd.good i), fun _ z => absurd ⟨by decide, by decide⟩ z, fun _ _ _ => ⟨sts, e, ⟨tw.hw, tw.hh, gd.ls, gd.dd, Shp.refl _, (fun e he => ⟨(gd.kn e he).1.1, (gd.kn e he).1.2, (gd.kn e he).2⟩), ok.wf, four, ok.ls, gd.l0, gd.l1, full⟩, fun v HG eG dv => ?_⟩⟩
    obtain ⟨p9, x9, rfl, s9⟩ := due_tup dv
    refine ⟨.ref p9, .ty "tuple", .type "tuple", .type "tuple", true, rfl, .ty _, ty_tup s9, kit_ty (by decide +kernel), _, rfl, iteFe (by rfl) ?_⟩
    have tw := tw.same eG
    exact ⟨_, _, _, _, _, _, _, _, _, _, _, _, _, _, _, rfl, tw.hB, tw.hT⟩
end
end Kw

set_option Elab.async false
set_option linter.all false
set_option maxRecDepth 100000
set_option maxHeartbeats 4000000
namespace Kw
open PySem PySem.Spec PyProof.Rows L2
def ce9 (CUnknownHand CUnknownItem CUnknownBox CUnknownSeal CInsideItself CNotHeld CIsSealed CNotSealed CNotInside : Addr) (z : Str) : Addr := if z = "UnknownHand" then CUnknownHand else if z = "UnknownItem" then CUnknownItem else if z = "UnknownBox" then CUnknownBox else if z = "UnknownSeal" then CUnknownSeal else if z = "InsideItself" then CInsideItself else if z = "NotHeld" then CNotHeld else if z = "IsSealed" then CIsSealed else if z = "NotSealed" then CNotSealed else CNotInside
theorem ce9_UnknownHand (CUnknownHand CUnknownItem CUnknownBox CUnknownSeal CInsideItself CNotHeld CIsSealed CNotSealed CNotInside : Addr) : ce9 CUnknownHand CUnknownItem CUnknownBox CUnknownSeal CInsideItself CNotHeld CIsSealed CNotSealed CNotInside "UnknownHand" = CUnknownHand := by
  unfold ce9
  rw [if_pos rfl]
theorem ce9_UnknownItem (CUnknownHand CUnknownItem CUnknownBox CUnknownSeal CInsideItself CNotHeld CIsSealed CNotSealed CNotInside : Addr) : ce9 CUnknownHand CUnknownItem CUnknownBox CUnknownSeal CInsideItself CNotHeld CIsSealed CNotSealed CNotInside "UnknownItem" = CUnknownItem := by
  unfold ce9
  rw [if_neg (by decide +kernel), if_pos rfl]
theorem ce9_UnknownBox (CUnknownHand CUnknownItem CUnknownBox CUnknownSeal CInsideItself CNotHeld CIsSealed CNotSealed CNotInside : Addr) : ce9 CUnknownHand CUnknownItem CUnknownBox CUnknownSeal CInsideItself CNotHeld CIsSealed CNotSealed CNotInside "UnknownBox" = CUnknownBox := by
  unfold ce9
  rw [if_neg (by decide +kernel), if_neg (by decide +kernel), if_pos rfl]
theorem ce9_UnknownSeal (CUnknownHand CUnknownItem CUnknownBox CUnknownSeal CInsideItself CNotHeld CIsSealed CNotSealed CNotInside : Addr) : ce9 CUnknownHand CUnknownItem CUnknownBox CUnknownSeal CInsideItself CNotHeld CIsSealed CNotSealed CNotInside "UnknownSeal" = CUnknownSeal := by
  unfold ce9
  rw [if_neg (by decide +kernel), if_neg (by decide +kernel), if_neg (by decide +kernel), if_pos rfl]
theorem ce9_InsideItself (CUnknownHand CUnknownItem CUnknownBox CUnknownSeal CInsideItself CNotHeld CIsSealed CNotSealed CNotInside : Addr) : ce9 CUnknownHand CUnknownItem CUnknownBox CUnknownSeal CInsideItself CNotHeld CIsSealed CNotSealed CNotInside "InsideItself" = CInsideItself := by
  unfold ce9
  rw [if_neg (by decide +kernel), if_neg (by decide +kernel), if_neg (by decide +kernel), if_neg (by decide +kernel), if_pos rfl]
theorem ce9_NotHeld (CUnknownHand CUnknownItem CUnknownBox CUnknownSeal CInsideItself CNotHeld CIsSealed CNotSealed CNotInside : Addr) : ce9 CUnknownHand CUnknownItem CUnknownBox CUnknownSeal CInsideItself CNotHeld CIsSealed CNotSealed CNotInside "NotHeld" = CNotHeld := by
  unfold ce9
  rw [if_neg (by decide +kernel), if_neg (by decide +kernel), if_neg (by decide +kernel), if_neg (by decide +kernel), if_neg (by decide +kernel), if_pos rfl]
theorem ce9_IsSealed (CUnknownHand CUnknownItem CUnknownBox CUnknownSeal CInsideItself CNotHeld CIsSealed CNotSealed CNotInside : Addr) : ce9 CUnknownHand CUnknownItem CUnknownBox CUnknownSeal CInsideItself CNotHeld CIsSealed CNotSealed CNotInside "IsSealed" = CIsSealed := by
  unfold ce9
  rw [if_neg (by decide +kernel), if_neg (by decide +kernel), if_neg (by decide +kernel), if_neg (by decide +kernel), if_neg (by decide +kernel), if_neg (by decide +kernel), if_pos rfl]
theorem ce9_NotSealed (CUnknownHand CUnknownItem CUnknownBox CUnknownSeal CInsideItself CNotHeld CIsSealed CNotSealed CNotInside : Addr) : ce9 CUnknownHand CUnknownItem CUnknownBox CUnknownSeal CInsideItself CNotHeld CIsSealed CNotSealed CNotInside "NotSealed" = CNotSealed := by
  unfold ce9
  rw [if_neg (by decide +kernel), if_neg (by decide +kernel), if_neg (by decide +kernel), if_neg (by decide +kernel), if_neg (by decide +kernel), if_neg (by decide +kernel), if_neg (by decide +kernel), if_pos rfl]
theorem ce9_NotInside (CUnknownHand CUnknownItem CUnknownBox CUnknownSeal CInsideItself CNotHeld CIsSealed CNotSealed CNotInside : Addr) : ce9 CUnknownHand CUnknownItem CUnknownBox CUnknownSeal CInsideItself CNotHeld CIsSealed CNotSealed CNotInside "NotInside" = CNotInside := by
  unfold ce9
  rw [if_neg (by decide +kernel), if_neg (by decide +kernel), if_neg (by decide +kernel), if_neg (by decide +kernel), if_neg (by decide +kernel), if_neg (by decide +kernel), if_neg (by decide +kernel), if_neg (by decide +kernel)]
theorem all_mk {l : PySem.W.OpenLaw} {w : World} {K : PySem.W.Frag} {h : Heap} {mg : Str → Option Value} {fa : Addr} (X : K.In h) (G : h.Ns mainGlobals mg) (hfa : mg "law" = some (.ref fa))
    {C : Addr}
    {CW : Addr}
    {CR : Addr}
    {CT : Addr}
    {CInvalidHouse : Addr}
    {nmInvalidHouse qInvalidHouse : Str} {NInvalidHouse : Addr} {bsInvalidHouse bmInvalidHouse subInvalidHouse : List Value} {snInvalidHouse : List Str} {abInvalidHouse : Bool} {colInvalidHouse : Option Bool} {ddInvalidHouse : Option Addr} {g0InvalidHouse g1InvalidHouse g2InvalidHouse g3InvalidHouse g5InvalidHouse : Option Value}
    {fIInvalidHouse cdaInvalidHouse ccInvalidHouse : Addr} {ocIInvalidHouse kVIInvalidHouse dcIInvalidHouse pmIInvalidHouse ctIInvalidHouse : Value} {odIInvalidHouse anIInvalidHouse : Option Addr} {slIInvalidHouse : Array (Option Value)} {vsCInvalidHouse : Array Value} {filInvalidHouse : Str} {tfInvalidHouse : Tok} {cclInvalidHouse clInvalidHouse : Value} {cddInvalidHouse cldInvalidHouse : Option Addr} {ccsInvalidHouse cslInvalidHouse : Array (Option Value)}
    {CUnknownHand : Addr}
    {CUnknownItem : Addr}
    {CUnknownBox : Addr}
    {CUnknownSeal : Addr}
    {CInsideItself : Addr}
    {CNotHeld : Addr}
    {CIsSealed : Addr}
    {CNotSealed : Addr}
    {CNotInside : Addr}
    {t_MOST_HANDS : Tok}
    {t_MOST_BOXES : Tok}
    {t_MOST_THINGS : Tok}
    {t_MOST_SEALS : Tok}
    {t_MOST_DEEDS : Tok}
    {t_MOST_ROUNDS : Tok}
    {aP : Addr} {esP : Array DictEntry} {nP_ : Nat} {tp0 tp1 tp2 : Tok}
    {fm0 : Addr} {ocm0 kVm0 dcm0 pmm0 cdm0 ctm0 : Value} {odm0 anm0 : Option Addr} {slm0 : Array (Option Value)}
    {fm1 : Addr} {ocm1 kVm1 dcm1 pmm1 cdm1 ctm1 : Value} {odm1 anm1 : Option Addr} {slm1 : Array (Option Value)}
    {fm2 : Addr} {ocm2 kVm2 dcm2 pmm2 cdm2 ctm2 : Value} {odm2 anm2 : Option Addr} {slm2 : Array (Option Value)}
    {fm3 : Addr} {ocm3 kVm3 dcm3 pmm3 cdm3 ctm3 : Value} {odm3 anm3 : Option Addr} {slm3 : Array (Option Value)}
    {fm4 : Addr} {ocm4 kVm4 dcm4 pmm4 cdm4 ctm4 : Value} {odm4 anm4 : Option Addr} {slm4 : Array (Option Value)}
    {fm5 : Addr} {ocm5 kVm5 dcm5 pmm5 cdm5 ctm5 : Value} {odm5 anm5 : Option Addr} {slm5 : Array (Option Value)}
    {fm6 : Addr} {ocm6 kVm6 dcm6 pmm6 cdm6 ctm6 : Value} {odm6 anm6 : Option Addr} {slm6 : Array (Option Value)}
    {fm7 : Addr} {ocm7 kVm7 dcm7 pmm7 cdm7 ctm7 : Value} {odm7 anm7 : Option Addr} {slm7 : Array (Option Value)}
    {fm8 : Addr} {ocm8 kVm8 dcm8 pmm8 cdm8 ctm8 : Value} {odm8 anm8 : Option Addr} {slm8 : Array (Option Value)}
    {fm9 : Addr} {ocm9 kVm9 dcm9 pmm9 cdm9 ctm9 : Value} {odm9 anm9 : Option Addr} {slm9 : Array (Option Value)}
    {fm10 : Addr} {ocm10 kVm10 dcm10 pmm10 cdm10 ctm10 : Value} {odm10 anm10 : Option Addr} {slm10 : Array (Option Value)}
    {fm11 : Addr} {ocm11 kVm11 dcm11 pmm11 cdm11 ctm11 : Value} {odm11 anm11 : Option Addr} {slm11 : Array (Option Value)}
    {fm12 : Addr} {ocm12 kVm12 dcm12 pmm12 cdm12 ctm12 : Value} {odm12 anm12 : Option Addr} {slm12 : Array (Option Value)}
    {fm13 : Addr} {ocm13 kVm13 dcm13 pmm13 cdm13 ctm13 : Value} {odm13 anm13 : Option Addr} {slm13 : Array (Option Value)}
    {fm14 : Addr} {ocm14 kVm14 dcm14 pmm14 cdm14 ctm14 : Value} {odm14 anm14 : Option Addr} {slm14 : Array (Option Value)}
    {fm15 : Addr} {ocm15 kVm15 dcm15 pmm15 cdm15 ctm15 : Value} {odm15 anm15 : Option Addr} {slm15 : Array (Option Value)}
    {fm16 : Addr} {ocm16 kVm16 dcm16 pmm16 cdm16 ctm16 : Value} {odm16 anm16 : Option Addr} {slm16 : Array (Option Value)}
    {fm17 : Addr} {ocm17 kVm17 dcm17 pmm17 cdm17 ctm17 : Value} {odm17 anm17 : Option Addr} {slm17 : Array (Option Value)}
    {fm18 : Addr} {ocm18 kVm18 dcm18 pmm18 cdm18 ctm18 : Value} {odm18 anm18 : Option Addr} {slm18 : Array (Option Value)}
    {fm19 : Addr} {ocm19 kVm19 dcm19 pmm19 cdm19 ctm19 : Value} {odm19 anm19 : Option Addr} {slm19 : Array (Option Value)}
    {fm20 : Addr} {ocm20 kVm20 dcm20 pmm20 cdm20 ctm20 : Value} {odm20 anm20 : Option Addr} {slm20 : Array (Option Value)}
    {fm21 : Addr} {ocm21 kVm21 dcm21 pmm21 cdm21 ctm21 : Value} {odm21 anm21 : Option Addr} {slm21 : Array (Option Value)}
    {fm22 : Addr} {ocm22 kVm22 dcm22 pmm22 cdm22 ctm22 : Value} {odm22 anm22 : Option Addr} {slm22 : Array (Option Value)}
    {fm23 : Addr} {ocm23 kVm23 dcm23 pmm23 cdm23 ctm23 : Value} {odm23 anm23 : Option Addr} {slm23 : Array (Option Value)}
    {fm24 : Addr} {ocm24 kVm24 dcm24 pmm24 cdm24 ctm24 : Value} {odm24 anm24 : Option Addr} {slm24 : Array (Option Value)}
    {fm25 : Addr} {ocm25 kVm25 dcm25 pmm25 cdm25 ctm25 : Value} {odm25 anm25 : Option Addr} {slm25 : Array (Option Value)}
    {fm26 : Addr} {ocm26 kVm26 dcm26 pmm26 cdm26 ctm26 : Value} {odm26 anm26 : Option Addr} {slm26 : Array (Option Value)}
    {fm27 : Addr} {ocm27 kVm27 dcm27 pmm27 cdm27 ctm27 : Value} {odm27 anm27 : Option Addr} {slm27 : Array (Option Value)}
    {fm28 : Addr} {ocm28 kVm28 dcm28 pmm28 cdm28 ctm28 : Value} {odm28 anm28 : Option Addr} {slm28 : Array (Option Value)}
    {fm29 : Addr} {ocm29 kVm29 dcm29 pmm29 cdm29 ctm29 : Value} {odm29 anm29 : Option Addr} {slm29 : Array (Option Value)}
    {fh0 : Addr} {och0 kVh0 dch0 pmh0 cdh0 cth0 : Value} {odh0 anh0 : Option Addr} {slh0 : Array (Option Value)}
    {fh1 : Addr} {och1 kVh1 dch1 pmh1 cdh1 cth1 : Value} {odh1 anh1 : Option Addr} {slh1 : Array (Option Value)}
    {fv0 : Addr} {ocv0 kVv0 dcv0 pmv0 cdv0 ctv0 : Value} {odv0 anv0 : Option Addr} {slv0 : Array (Option Value)}
    {fr0 : Addr} {ocr0 kVr0 dcr0 pmr0 cdr0 ctr0 : Value} {odr0 anr0 : Option Addr} {slr0 : Array (Option Value)}
    {fr1 : Addr} {ocr1 kVr1 dcr1 pmr1 cdr1 ctr1 : Value} {odr1 anr1 : Option Addr} {slr1 : Array (Option Value)}
    {fr2 : Addr} {ocr2 kVr2 dcr2 pmr2 cdr2 ctr2 : Value} {odr2 anr2 : Option Addr} {slr2 : Array (Option Value)}
    {CInvalidNumber : Addr}
    {CInvalidRound : Addr}
    {nmInvalidRound qInvalidRound : Str} {NInvalidRound : Addr} {bsInvalidRound bmInvalidRound subInvalidRound : List Value} {snInvalidRound : List Str} {abInvalidRound : Bool} {colInvalidRound : Option Bool} {ddInvalidRound : Option Addr} {g0InvalidRound g1InvalidRound g2InvalidRound g3InvalidRound g5InvalidRound : Option Value}
    {fIInvalidRound cdaInvalidRound ccInvalidRound : Addr} {ocIInvalidRound kVIInvalidRound dcIInvalidRound pmIInvalidRound ctIInvalidRound : Value} {odIInvalidRound anIInvalidRound : Option Addr} {slIInvalidRound : Array (Option Value)} {vsCInvalidRound : Array Value} {filInvalidRound : Str} {tfInvalidRound : Tok} {cclInvalidRound clInvalidRound : Value} {cddInvalidRound cldInvalidRound : Option Addr} {ccsInvalidRound cslInvalidRound : Array (Option Value)}
    {fm30 : Addr} {ocm30 kVm30 dcm30 pmm30 cdm30 ctm30 : Value} {odm30 anm30 : Option Addr} {slm30 : Array (Option Value)}
    {fm31 : Addr} {ocm31 kVm31 dcm31 pmm31 cdm31 ctm31 : Value} {odm31 anm31 : Option Addr} {slm31 : Array (Option Value)}
    {fm32 : Addr} {ocm32 kVm32 dcm32 pmm32 cdm32 ctm32 : Value} {odm32 anm32 : Option Addr} {slm32 : Array (Option Value)}
    {fm33 : Addr} {ocm33 kVm33 dcm33 pmm33 cdm33 ctm33 : Value} {odm33 anm33 : Option Addr} {slm33 : Array (Option Value)}
    {fm34 : Addr} {ocm34 kVm34 dcm34 pmm34 cdm34 ctm34 : Value} {odm34 anm34 : Option Addr} {slm34 : Array (Option Value)}
    {fm35 : Addr} {ocm35 kVm35 dcm35 pmm35 cdm35 ctm35 : Value} {odm35 anm35 : Option Addr} {slm35 : Array (Option Value)}
    {fm36 : Addr} {ocm36 kVm36 dcm36 pmm36 cdm36 ctm36 : Value} {odm36 anm36 : Option Addr} {slm36 : Array (Option Value)}
    {fm37 : Addr} {ocm37 kVm37 dcm37 pmm37 cdm37 ctm37 : Value} {odm37 anm37 : Option Addr} {slm37 : Array (Option Value)}
    {cd tb : Addr} {ocL kVL dcL pmL ctL : Value} {odL anL : Option Addr} {slL : Array (Option Value)} {fL : Addr}
    (chn : PySem.W.specialIn K (.builtin "object.__class__") "__get__" = some (some (.builtin "getset_descriptor.__get__")))
    (cht : PySem.W.takesIn K (.builtin "object.__class__") = some true)
    (xtp : PySem.W.nsIn K cStatics "thirdparty.any" = some none)
    (xtop : (l.prog.main.scope.names.lookup ("super" : Str)).isSome = false)
    (hC : PySem.W.nsIn K mainGlobals "House" = some (some (.ref C)))
    (hpg : PySem.W.plainGet K C Str.empty = true)
    (hhd : PySem.W.hasDictIn K C = true)
    (hpo : PySem.W.plainOver K C = true)
    (hsa : PySem.W.findIn K (.ref C) "__setattr__" = some (some (.builtin "object.__setattr__")))
    (hmk : PySem.W.makesIn K C = true)
    (hkc : PySem.W.keepIn K (.ref C) = true)
    (hha : PySem.W.findIn K (.ref C) "__class__" = some (some (.builtin "object.__class__")))
    (hhm : PySem.W.mroIn K C (.type "object") = some true)
    (hkk : PySem.W.kitOne K (.ref C) (.ref C) = some true)
    (hn_hands : PySem.W.findIn K (.ref C) "hands" = some none)
    (hn_boxes : PySem.W.findIn K (.ref C) "boxes" = some none)
    (hn_things : PySem.W.findIn K (.ref C) "things" = some none)
    (hn_seals : PySem.W.findIn K (.ref C) "seals" = some none)
    (hn_state : PySem.W.findIn K (.ref C) "state" = some none)
    (vC : PySem.W.nsIn K mainGlobals "World" = some (some (.ref CW)))
    (vpg : PySem.W.plainGet K CW Str.empty = true)
    (vhd : PySem.W.hasDictIn K CW = true)
    (vpo : PySem.W.plainOver K CW = true)
    (vsa : PySem.W.findIn K (.ref CW) "__setattr__" = some (some (.builtin "object.__setattr__")))
    (vmk : PySem.W.makesIn K CW = true)
    (vkc : PySem.W.keepIn K (.ref CW) = true)
    (vn_house : PySem.W.findIn K (.ref CW) "house" = some none)
    (vn_state : PySem.W.findIn K (.ref CW) "state" = some none)
    (rC : PySem.W.nsIn K mainGlobals "Trace" = some (some (.ref CR)))
    (rpg : PySem.W.plainGet K CR Str.empty = true)
    (rhd : PySem.W.hasDictIn K CR = true)
    (rpo : PySem.W.plainOver K CR = true)
    (rsa : PySem.W.findIn K (.ref CR) "__setattr__" = some (some (.builtin "object.__setattr__")))
    (rmk : PySem.W.makesIn K CR = true)
    (rkc : PySem.W.keepIn K (.ref CR) = true)
    (rn_states : PySem.W.findIn K (.ref CR) "states" = some none)
    (rn_stop : PySem.W.findIn K (.ref CR) "stop" = some none)
    (rn_again : PySem.W.findIn K (.ref CR) "again" = some none)
    (aCT : PySem.W.nsIn K mainGlobals "WatchError" = some (some (.ref CT)))
    (wbe : PySem.W.subIn K (.ref CT) (.type "BaseException") = some true)
    (wcl : PySem.W.hasDictIn K CT = true)
    (wty : PySem.W.typeIn K (.ref CT) = some (.type "type"))
    (nInvalidHouse : PySem.W.nsIn K mainGlobals "InvalidHouse" = some (some (.ref CInvalidHouse)))
    (xLInvalidHouse : K.lookup CInvalidHouse = some (excClassObj nmInvalidHouse qInvalidHouse CInvalidHouse NInvalidHouse bsInvalidHouse bmInvalidHouse true snInvalidHouse subInvalidHouse abInvalidHouse colInvalidHouse ddInvalidHouse g0InvalidHouse g1InvalidHouse g2InvalidHouse g3InvalidHouse g5InvalidHouse "ValueError.__new__"))
    (xvInvalidHouse : PySem.HandSPX.refsVE bmInvalidHouse = true)
    (xaInvalidHouse : PySem.W.alongIn K "__init__" ((((Value.ref CInvalidHouse :: bmInvalidHouse).dropWhile (· != .ref CInvalidHouse)).drop 1)) = some (some (.builtin "ValueError.__init__")))
    (xsaInvalidHouse : PySem.W.findIn K (.ref CInvalidHouse) "__setattr__" = some (some (.builtin "object.__setattr__")))
    (xexInvalidHouse : PySem.W.subIn K (.ref CInvalidHouse) (.type "BaseException") = some true)
    (xtyInvalidHouse : PySem.W.typeIn K (.ref CInvalidHouse) = some (.type "type"))
    (xkcInvalidHouse : PySem.W.keepIn K (.ref CInvalidHouse) = true)
    (xveInvalidHouse : PySem.W.subIn K (.ref CInvalidHouse) (.type "ValueError") = some true)
    (xseInvalidHouse : PySem.W.mroIn K CInvalidHouse (.ref CInvalidHouse) = some true)
    (xnPInvalidHouse : PySem.W.findIn K (.ref CInvalidHouse) "part" = some none)
    (xnIInvalidHouse : PySem.W.findIn K (.ref CInvalidHouse) "index" = some none)
    (xiInvalidHouse : PySem.W.findIn K (.ref CInvalidHouse) "__init__" = some (some (.ref fIInvalidHouse)))
    (xitInvalidHouse : PySem.W.typeIn K (.ref fIInvalidHouse) = some (.type "function"))
    (xilInvalidHouse : K.lookup fIInvalidHouse = some ⟨ocIInvalidHouse, odIInvalidHouse, .func (PySem.W.ksFn "__init__" "InvalidHouse.__init__" (defArgs sIH) (defBody sIH) (defScope sIH) .none kVIInvalidHouse dcIInvalidHouse pmIInvalidHouse anIInvalidHouse (.ref cdaInvalidHouse) ctIInvalidHouse ccInvalidHouse), slIInvalidHouse⟩)
    (xicInvalidHouse : PySem.W.codeIn K (.ref cdaInvalidHouse) "InvalidHouse.__init__" = true)
    (xclInvalidHouse : K.lookup cdaInvalidHouse = some ⟨cclInvalidHouse, cddInvalidHouse, .fields vsCInvalidHouse, ccsInvalidHouse⟩)
    (xcfInvalidHouse : vsCInvalidHouse[2]? = some (.str filInvalidHouse tfInvalidHouse))
    (xffInvalidHouse : ((l.prog.main.file : Str) == filInvalidHouse) = true)
    (xccInvalidHouse : K.lookup ccInvalidHouse = some ⟨clInvalidHouse, cldInvalidHouse, .cell (some (.ref CInvalidHouse)), cslInvalidHouse⟩)
    (nUnknownHand : PySem.W.nsIn K mainGlobals "UnknownHand" = some (some (.ref CUnknownHand)))
    (eexUnknownHand : PySem.W.excIn K CUnknownHand [.type "ValueError", .type "Exception", .type "BaseException", .type "object"] "ValueError.__new__" = true)
    (ekpUnknownHand : PySem.W.keepIn K (.ref CUnknownHand) = true)
    (esbUnknownHand : PySem.W.subIn K (.ref CUnknownHand) (.type "BaseException") = some true)
    (etyUnknownHand : PySem.W.typeIn K (.ref CUnknownHand) = some (.type "type"))
    (nUnknownItem : PySem.W.nsIn K mainGlobals "UnknownItem" = some (some (.ref CUnknownItem)))
    (eexUnknownItem : PySem.W.excIn K CUnknownItem [.type "ValueError", .type "Exception", .type "BaseException", .type "object"] "ValueError.__new__" = true)
    (ekpUnknownItem : PySem.W.keepIn K (.ref CUnknownItem) = true)
    (esbUnknownItem : PySem.W.subIn K (.ref CUnknownItem) (.type "BaseException") = some true)
    (etyUnknownItem : PySem.W.typeIn K (.ref CUnknownItem) = some (.type "type"))
    (nUnknownBox : PySem.W.nsIn K mainGlobals "UnknownBox" = some (some (.ref CUnknownBox)))
    (eexUnknownBox : PySem.W.excIn K CUnknownBox [.type "ValueError", .type "Exception", .type "BaseException", .type "object"] "ValueError.__new__" = true)
    (ekpUnknownBox : PySem.W.keepIn K (.ref CUnknownBox) = true)
    (esbUnknownBox : PySem.W.subIn K (.ref CUnknownBox) (.type "BaseException") = some true)
    (etyUnknownBox : PySem.W.typeIn K (.ref CUnknownBox) = some (.type "type"))
    (nUnknownSeal : PySem.W.nsIn K mainGlobals "UnknownSeal" = some (some (.ref CUnknownSeal)))
    (eexUnknownSeal : PySem.W.excIn K CUnknownSeal [.type "ValueError", .type "Exception", .type "BaseException", .type "object"] "ValueError.__new__" = true)
    (ekpUnknownSeal : PySem.W.keepIn K (.ref CUnknownSeal) = true)
    (esbUnknownSeal : PySem.W.subIn K (.ref CUnknownSeal) (.type "BaseException") = some true)
    (etyUnknownSeal : PySem.W.typeIn K (.ref CUnknownSeal) = some (.type "type"))
    (nInsideItself : PySem.W.nsIn K mainGlobals "InsideItself" = some (some (.ref CInsideItself)))
    (eexInsideItself : PySem.W.excIn K CInsideItself [.type "ValueError", .type "Exception", .type "BaseException", .type "object"] "ValueError.__new__" = true)
    (ekpInsideItself : PySem.W.keepIn K (.ref CInsideItself) = true)
    (esbInsideItself : PySem.W.subIn K (.ref CInsideItself) (.type "BaseException") = some true)
    (etyInsideItself : PySem.W.typeIn K (.ref CInsideItself) = some (.type "type"))
    (nNotHeld : PySem.W.nsIn K mainGlobals "NotHeld" = some (some (.ref CNotHeld)))
    (eexNotHeld : PySem.W.excIn K CNotHeld [.type "ValueError", .type "Exception", .type "BaseException", .type "object"] "ValueError.__new__" = true)
    (ekpNotHeld : PySem.W.keepIn K (.ref CNotHeld) = true)
    (esbNotHeld : PySem.W.subIn K (.ref CNotHeld) (.type "BaseException") = some true)
    (etyNotHeld : PySem.W.typeIn K (.ref CNotHeld) = some (.type "type"))
    (nIsSealed : PySem.W.nsIn K mainGlobals "IsSealed" = some (some (.ref CIsSealed)))
    (eexIsSealed : PySem.W.excIn K CIsSealed [.type "ValueError", .type "Exception", .type "BaseException", .type "object"] "ValueError.__new__" = true)
    (ekpIsSealed : PySem.W.keepIn K (.ref CIsSealed) = true)
    (esbIsSealed : PySem.W.subIn K (.ref CIsSealed) (.type "BaseException") = some true)
    (etyIsSealed : PySem.W.typeIn K (.ref CIsSealed) = some (.type "type"))
    (nNotSealed : PySem.W.nsIn K mainGlobals "NotSealed" = some (some (.ref CNotSealed)))
    (eexNotSealed : PySem.W.excIn K CNotSealed [.type "ValueError", .type "Exception", .type "BaseException", .type "object"] "ValueError.__new__" = true)
    (ekpNotSealed : PySem.W.keepIn K (.ref CNotSealed) = true)
    (esbNotSealed : PySem.W.subIn K (.ref CNotSealed) (.type "BaseException") = some true)
    (etyNotSealed : PySem.W.typeIn K (.ref CNotSealed) = some (.type "type"))
    (nNotInside : PySem.W.nsIn K mainGlobals "NotInside" = some (some (.ref CNotInside)))
    (eexNotInside : PySem.W.excIn K CNotInside [.type "ValueError", .type "Exception", .type "BaseException", .type "object"] "ValueError.__new__" = true)
    (ekpNotInside : PySem.W.keepIn K (.ref CNotInside) = true)
    (esbNotInside : PySem.W.subIn K (.ref CNotInside) (.type "BaseException") = some true)
    (etyNotInside : PySem.W.typeIn K (.ref CNotInside) = some (.type "type"))
    (ewsuNotHeld : PySem.W.subIn K (.ref CNotHeld) (.ref CT) = some true)
    (ewsuIsSealed : PySem.W.subIn K (.ref CIsSealed) (.ref CT) = some true)
    (ewsuNotSealed : PySem.W.subIn K (.ref CNotSealed) (.ref CT) = some true)
    (ewsuNotInside : PySem.W.subIn K (.ref CNotInside) (.ref CT) = some true)
    (j_MOST_HANDS : PySem.W.nsIn K mainGlobals "MOST_HANDS" = some (some (.int 4 t_MOST_HANDS)))
    (j_MOST_BOXES : PySem.W.nsIn K mainGlobals "MOST_BOXES" = some (some (.int 3 t_MOST_BOXES)))
    (j_MOST_THINGS : PySem.W.nsIn K mainGlobals "MOST_THINGS" = some (some (.int 4 t_MOST_THINGS)))
    (j_MOST_SEALS : PySem.W.nsIn K mainGlobals "MOST_SEALS" = some (some (.int 3 t_MOST_SEALS)))
    (j_MOST_DEEDS : PySem.W.nsIn K mainGlobals "MOST_DEEDS" = some (some (.int 12 t_MOST_DEEDS)))
    (j_MOST_ROUNDS : PySem.W.nsIn K mainGlobals "MOST_ROUNDS" = some (some (.int 1000000000000000000 t_MOST_ROUNDS)))
    (pA : PySem.W.nsIn K mainGlobals "PARTS" = some (some (.ref aP)))
    (pL : K.lookup aP = some ⟨.type "dict", none, .dict esP nP_, #[]⟩)
    (pK : PySem.W.KeysLit w.params esP.toList)
    (p0 : PySem.W.nsIn K aP "box" = some (some (.int 0 tp0)))
    (p1 : PySem.W.nsIn K aP "thing" = some (some (.int 1 tp1)))
    (p2 : PySem.W.nsIn K aP "seal" = some (some (.int 2 tp2)))
    (am0 : PySem.W.nsIn K mainGlobals "is_number" = some (some (.ref fm0)))
    (lm0 : K.lookup fm0 = some ⟨ocm0, odm0, .func (PySem.W.fnOf "is_number" "is_number" (defArgs sNum) (defBody sNum) (defScope sNum) .none kVm0 dcm0 pmm0 anm0 cdm0 ctm0), slm0⟩)
    (cm0 : PySem.W.codeIn K cdm0 "is_number" = true)
    (km0 : PySem.W.keepIn K (.ref fm0) = true)
    (am1 : PySem.W.nsIn K mainGlobals "how_many" = some (some (.ref fm1)))
    (lm1 : K.lookup fm1 = some ⟨ocm1, odm1, .func (PySem.W.fnOf "how_many" "how_many" (defArgs sMany) (defBody sMany) (defScope sMany) .none kVm1 dcm1 pmm1 anm1 cdm1 ctm1), slm1⟩)
    (cm1 : PySem.W.codeIn K cdm1 "how_many" = true)
    (km1 : PySem.W.keepIn K (.ref fm1) = true)
    (am2 : PySem.W.nsIn K mainGlobals "is_place" = some (some (.ref fm2)))
    (lm2 : K.lookup fm2 = some ⟨ocm2, odm2, .func (PySem.W.fnOf "is_place" "is_place" (defArgs sIsPl) (defBody sIsPl) (defScope sIsPl) .none kVm2 dcm2 pmm2 anm2 cdm2 ctm2), slm2⟩)
    (cm2 : PySem.W.codeIn K cdm2 "is_place" = true)
    (km2 : PySem.W.keepIn K (.ref fm2) = true)
    (am3 : PySem.W.nsIn K mainGlobals "need_boxes" = some (some (.ref fm3)))
    (lm3 : K.lookup fm3 = some ⟨ocm3, odm3, .func (PySem.W.fnOf "need_boxes" "need_boxes" (defArgs sBoxes) (defBody sBoxes) (defScope sBoxes) .none kVm3 dcm3 pmm3 anm3 cdm3 ctm3), slm3⟩)
    (cm3 : PySem.W.codeIn K cdm3 "need_boxes" = true)
    (km3 : PySem.W.keepIn K (.ref fm3) = true)
    (am4 : PySem.W.nsIn K mainGlobals "need_house" = some (some (.ref fm4)))
    (lm4 : K.lookup fm4 = some ⟨ocm4, odm4, .func (PySem.W.fnOf "need_house" "need_house" (defArgs sNeed) (defBody sNeed) (defScope sNeed) .none kVm4 dcm4 pmm4 anm4 cdm4 ctm4), slm4⟩)
    (cm4 : PySem.W.codeIn K cdm4 "need_house" = true)
    (km4 : PySem.W.keepIn K (.ref fm4) = true)
    (am5 : PySem.W.nsIn K mainGlobals "need_hand" = some (some (.ref fm5)))
    (lm5 : K.lookup fm5 = some ⟨ocm5, odm5, .func (PySem.W.fnOf "need_hand" "need_hand" (defArgs sNHand) (defBody sNHand) (defScope sNHand) .none kVm5 dcm5 pmm5 anm5 cdm5 ctm5), slm5⟩)
    (cm5 : PySem.W.codeIn K cdm5 "need_hand" = true)
    (km5 : PySem.W.keepIn K (.ref fm5) = true)
    (am6 : PySem.W.nsIn K mainGlobals "need_item" = some (some (.ref fm6)))
    (lm6 : K.lookup fm6 = some ⟨ocm6, odm6, .func (PySem.W.fnOf "need_item" "need_item" (defArgs sNItem) (defBody sNItem) (defScope sNItem) .none kVm6 dcm6 pmm6 anm6 cdm6 ctm6), slm6⟩)
    (cm6 : PySem.W.codeIn K cdm6 "need_item" = true)
    (km6 : PySem.W.keepIn K (.ref fm6) = true)
    (am7 : PySem.W.nsIn K mainGlobals "need_load" = some (some (.ref fm7)))
    (lm7 : K.lookup fm7 = some ⟨ocm7, odm7, .func (PySem.W.fnOf "need_load" "need_load" (defArgs sNLoad) (defBody sNLoad) (defScope sNLoad) .none kVm7 dcm7 pmm7 anm7 cdm7 ctm7), slm7⟩)
    (cm7 : PySem.W.codeIn K cdm7 "need_load" = true)
    (km7 : PySem.W.keepIn K (.ref fm7) = true)
    (am8 : PySem.W.nsIn K mainGlobals "need_box" = some (some (.ref fm8)))
    (lm8 : K.lookup fm8 = some ⟨ocm8, odm8, .func (PySem.W.fnOf "need_box" "need_box" (defArgs sNBox) (defBody sNBox) (defScope sNBox) .none kVm8 dcm8 pmm8 anm8 cdm8 ctm8), slm8⟩)
    (cm8 : PySem.W.codeIn K cdm8 "need_box" = true)
    (km8 : PySem.W.keepIn K (.ref fm8) = true)
    (am9 : PySem.W.nsIn K mainGlobals "need_seal" = some (some (.ref fm9)))
    (lm9 : K.lookup fm9 = some ⟨ocm9, odm9, .func (PySem.W.fnOf "need_seal" "need_seal" (defArgs sNSeal) (defBody sNSeal) (defScope sNSeal) .none kVm9 dcm9 pmm9 anm9 cdm9 ctm9), slm9⟩)
    (cm9 : PySem.W.codeIn K cdm9 "need_seal" = true)
    (km9 : PySem.W.keepIn K (.ref fm9) = true)
    (am10 : PySem.W.nsIn K mainGlobals "need_place" = some (some (.ref fm10)))
    (lm10 : K.lookup fm10 = some ⟨ocm10, odm10, .func (PySem.W.fnOf "need_place" "need_place" (defArgs sNPlace) (defBody sNPlace) (defScope sNPlace) .none kVm10 dcm10 pmm10 anm10 cdm10 ctm10), slm10⟩)
    (cm10 : PySem.W.codeIn K cdm10 "need_place" = true)
    (km10 : PySem.W.keepIn K (.ref fm10) = true)
    (am11 : PySem.W.nsIn K mainGlobals "need_sight" = some (some (.ref fm11)))
    (lm11 : K.lookup fm11 = some ⟨ocm11, odm11, .func (PySem.W.fnOf "need_sight" "need_sight" (defArgs sNSight) (defBody sNSight) (defScope sNSight) .none kVm11 dcm11 pmm11 anm11 cdm11 ctm11), slm11⟩)
    (cm11 : PySem.W.codeIn K cdm11 "need_sight" = true)
    (km11 : PySem.W.keepIn K (.ref fm11) = true)
    (am12 : PySem.W.nsIn K mainGlobals "need_loads" = some (some (.ref fm12)))
    (lm12 : K.lookup fm12 = some ⟨ocm12, odm12, .func (PySem.W.fnOf "need_loads" "need_loads" (defArgs sNLoads) (defBody sNLoads) (defScope sNLoads) .none kVm12 dcm12 pmm12 anm12 cdm12 ctm12), slm12⟩)
    (cm12 : PySem.W.codeIn K cdm12 "need_loads" = true)
    (km12 : PySem.W.keepIn K (.ref fm12) = true)
    (am13 : PySem.W.nsIn K mainGlobals "need_move" = some (some (.ref fm13)))
    (lm13 : K.lookup fm13 = some ⟨ocm13, odm13, .func (PySem.W.fnOf "need_move" "need_move" (defArgs sNMove) (defBody sNMove) (defScope sNMove) .none kVm13 dcm13 pmm13 anm13 cdm13 ctm13), slm13⟩)
    (cm13 : PySem.W.codeIn K cdm13 "need_move" = true)
    (km13 : PySem.W.keepIn K (.ref fm13) = true)
    (am14 : PySem.W.nsIn K mainGlobals "need_deed" = some (some (.ref fm14)))
    (lm14 : K.lookup fm14 = some ⟨ocm14, odm14, .func (PySem.W.fnOf "need_deed" "need_deed" (defArgs sNDeed) (defBody sNDeed) (defScope sNDeed) .none kVm14 dcm14 pmm14 anm14 cdm14 ctm14), slm14⟩)
    (cm14 : PySem.W.codeIn K cdm14 "need_deed" = true)
    (km14 : PySem.W.keepIn K (.ref fm14) = true)
    (am15 : PySem.W.nsIn K mainGlobals "place_in" = some (some (.ref fm15)))
    (lm15 : K.lookup fm15 = some ⟨ocm15, odm15, .func (PySem.W.fnOf "place_in" "place_in" (defArgs sPlace) (defBody sPlace) (defScope sPlace) .none kVm15 dcm15 pmm15 anm15 cdm15 ctm15), slm15⟩)
    (cm15 : PySem.W.codeIn K cdm15 "place_in" = true)
    (km15 : PySem.W.keepIn K (.ref fm15) = true)
    (am16 : PySem.W.nsIn K mainGlobals "with_place" = some (some (.ref fm16)))
    (lm16 : K.lookup fm16 = some ⟨ocm16, odm16, .func (PySem.W.fnOf "with_place" "with_place" (defArgs sWith) (defBody sWith) (defScope sWith) .none kVm16 dcm16 pmm16 anm16 cdm16 ctm16), slm16⟩)
    (cm16 : PySem.W.codeIn K cdm16 "with_place" = true)
    (km16 : PySem.W.keepIn K (.ref fm16) = true)
    (am17 : PySem.W.nsIn K mainGlobals "seal_on" = some (some (.ref fm17)))
    (lm17 : K.lookup fm17 = some ⟨ocm17, odm17, .func (PySem.W.fnOf "seal_on" "seal_on" (defArgs sOn) (defBody sOn) (defScope sOn) .none kVm17 dcm17 pmm17 anm17 cdm17 ctm17), slm17⟩)
    (cm17 : PySem.W.codeIn K cdm17 "seal_on" = true)
    (km17 : PySem.W.keepIn K (.ref fm17) = true)
    (am18 : PySem.W.nsIn K mainGlobals "loads_at" = some (some (.ref fm18)))
    (lm18 : K.lookup fm18 = some ⟨ocm18, odm18, .func (PySem.W.fnOf "loads_at" "loads_at" (defArgs sLoads) (defBody sLoads) (defScope sLoads) .none kVm18 dcm18 pmm18 anm18 cdm18 ctm18), slm18⟩)
    (cm18 : PySem.W.codeIn K cdm18 "loads_at" = true)
    (km18 : PySem.W.keepIn K (.ref fm18) = true)
    (am19 : PySem.W.nsIn K mainGlobals "need_held" = some (some (.ref fm19)))
    (lm19 : K.lookup fm19 = some ⟨ocm19, odm19, .func (PySem.W.fnOf "need_held" "need_held" (defArgs sHeld) (defBody sHeld) (defScope sHeld) .none kVm19 dcm19 pmm19 anm19 cdm19 ctm19), slm19⟩)
    (cm19 : PySem.W.codeIn K cdm19 "need_held" = true)
    (km19 : PySem.W.keepIn K (.ref fm19) = true)
    (am20 : PySem.W.nsIn K mainGlobals "need_bare" = some (some (.ref fm20)))
    (lm20 : K.lookup fm20 = some ⟨ocm20, odm20, .func (PySem.W.fnOf "need_bare" "need_bare" (defArgs sBare) (defBody sBare) (defScope sBare) .none kVm20 dcm20 pmm20 anm20 cdm20 ctm20), slm20⟩)
    (cm20 : PySem.W.codeIn K cdm20 "need_bare" = true)
    (km20 : PySem.W.keepIn K (.ref fm20) = true)
    (am21 : PySem.W.nsIn K mainGlobals "state_behind_break" = some (some (.ref fm21)))
    (lm21 : K.lookup fm21 = some ⟨ocm21, odm21, .func (PySem.W.fnOf "state_behind_break" "state_behind_break" (defArgs sBreak) (defBody sBreak) (defScope sBreak) .none kVm21 dcm21 pmm21 anm21 cdm21 ctm21), slm21⟩)
    (cm21 : PySem.W.codeIn K cdm21 "state_behind_break" = true)
    (km21 : PySem.W.keepIn K (.ref fm21) = true)
    (am22 : PySem.W.nsIn K mainGlobals "state_behind" = some (some (.ref fm22)))
    (lm22 : K.lookup fm22 = some ⟨ocm22, odm22, .func (PySem.W.fnOf "state_behind" "state_behind" (defArgs sBehind) (defBody sBehind) (defScope sBehind) .none kVm22 dcm22 pmm22 anm22 cdm22 ctm22), slm22⟩)
    (cm22 : PySem.W.codeIn K cdm22 "state_behind" = true)
    (km22 : PySem.W.keepIn K (.ref fm22) = true)
    (am23 : PySem.W.nsIn K mainGlobals "is_true" = some (some (.ref fm23)))
    (lm23 : K.lookup fm23 = some ⟨ocm23, odm23, .func (PySem.W.fnOf "is_true" "is_true" (defArgs sTrue) (defBody sTrue) (defScope sTrue) .none kVm23 dcm23 pmm23 anm23 cdm23 ctm23), slm23⟩)
    (cm23 : PySem.W.codeIn K cdm23 "is_true" = true)
    (km23 : PySem.W.keepIn K (.ref fm23) = true)
    (am24 : PySem.W.nsIn K mainGlobals "state_behind_all" = some (some (.ref fm24)))
    (lm24 : K.lookup fm24 = some ⟨ocm24, odm24, .func (PySem.W.fnOf "state_behind_all" "state_behind_all" (defArgs sAll) (defBody sAll) (defScope sAll) .none kVm24 dcm24 pmm24 anm24 cdm24 ctm24), slm24⟩)
    (cm24 : PySem.W.codeIn K cdm24 "state_behind_all" = true)
    (km24 : PySem.W.keepIn K (.ref fm24) = true)
    (am25 : PySem.W.nsIn K mainGlobals "need_round" = some (some (.ref fm25)))
    (lm25 : K.lookup fm25 = some ⟨ocm25, odm25, .func (PySem.W.fnOf "need_round" "need_round" (defArgs sNRd) (defBody sNRd) (defScope sNRd) .none kVm25 dcm25 pmm25 anm25 cdm25 ctm25), slm25⟩)
    (cm25 : PySem.W.codeIn K cdm25 "need_round" = true)
    (km25 : PySem.W.keepIn K (.ref fm25) = true)
    (am26 : PySem.W.nsIn K mainGlobals "need_count" = some (some (.ref fm26)))
    (lm26 : K.lookup fm26 = some ⟨ocm26, odm26, .func (PySem.W.fnOf "need_count" "need_count" (defArgs sNCt) (defBody sNCt) (defScope sNCt) .none kVm26 dcm26 pmm26 anm26 cdm26 ctm26), slm26⟩)
    (cm26 : PySem.W.codeIn K cdm26 "need_count" = true)
    (km26 : PySem.W.keepIn K (.ref fm26) = true)
    (am27 : PySem.W.nsIn K mainGlobals "rounds" = some (some (.ref fm27)))
    (lm27 : K.lookup fm27 = some ⟨ocm27, odm27, .func (PySem.W.fnOf "rounds" "rounds" (defArgs sRnd) (defBody sRnd) (defScope sRnd) .none kVm27 dcm27 pmm27 anm27 cdm27 ctm27), slm27⟩)
    (cm27 : PySem.W.codeIn K cdm27 "rounds" = true)
    (km27 : PySem.W.keepIn K (.ref fm27) = true)
    (am28 : PySem.W.nsIn K mainGlobals "true_rounds" = some (some (.ref fm28)))
    (lm28 : K.lookup fm28 = some ⟨ocm28, odm28, .func (PySem.W.fnOf "true_rounds" "true_rounds" (defArgs sTrd) (defBody sTrd) (defScope sTrd) .none kVm28 dcm28 pmm28 anm28 cdm28 ctm28), slm28⟩)
    (cm28 : PySem.W.codeIn K cdm28 "true_rounds" = true)
    (km28 : PySem.W.keepIn K (.ref fm28) = true)
    (am29 : PySem.W.nsIn K mainGlobals "first_round" = some (some (.ref fm29)))
    (lm29 : K.lookup fm29 = some ⟨ocm29, odm29, .func (PySem.W.fnOf "first_round" "first_round" (defArgs sFr) (defBody sFr) (defScope sFr) .none kVm29 dcm29 pmm29 anm29 cdm29 ctm29), slm29⟩)
    (cm29 : PySem.W.codeIn K cdm29 "first_round" = true)
    (km29 : PySem.W.keepIn K (.ref fm29) = true)
    (ah0 : PySem.W.findIn K (.ref C) "__init__" = some (some (.ref fh0)))
    (lh0 : K.lookup fh0 = some ⟨och0, odh0, .func (PySem.W.fnOf "__init__" "House.__init__" (defArgs sInit) (defBody sInit) (defScope sInit) .none kVh0 dch0 pmh0 anh0 cdh0 cth0), slh0⟩)
    (ch0 : PySem.W.codeIn K cdh0 "House.__init__" = true)
    (kh0 : PySem.W.keepIn K (.ref fh0) = true)
    (ih0 : PySem.W.isFn K (.ref fh0) = true)
    (ah1 : PySem.W.findIn K (.ref C) "__contains__" = some (some (.ref fh1)))
    (lh1 : K.lookup fh1 = some ⟨och1, odh1, .func (PySem.W.fnOf "__contains__" "House.__contains__" (defArgs sHas) (defBody sHas) (defScope sHas) .none kVh1 dch1 pmh1 anh1 cdh1 cth1), slh1⟩)
    (ch1 : PySem.W.codeIn K cdh1 "House.__contains__" = true)
    (kh1 : PySem.W.keepIn K (.ref fh1) = true)
    (ih1 : PySem.W.isFn K (.ref fh1) = true)
    (av0 : PySem.W.findIn K (.ref CW) "__init__" = some (some (.ref fv0)))
    (lv0 : K.lookup fv0 = some ⟨ocv0, odv0, .func (PySem.W.fnOf "__init__" "World.__init__" (defArgs sWInit) (defBody sWInit) (defScope sWInit) .none kVv0 dcv0 pmv0 anv0 cdv0 ctv0), slv0⟩)
    (cv0 : PySem.W.codeIn K cdv0 "World.__init__" = true)
    (kv0 : PySem.W.keepIn K (.ref fv0) = true)
    (iv0 : PySem.W.isFn K (.ref fv0) = true)
    (ar0 : PySem.W.findIn K (.ref CR) "__init__" = some (some (.ref fr0)))
    (lr0 : K.lookup fr0 = some ⟨ocr0, odr0, .func (PySem.W.fnOf "__init__" "Trace.__init__" (defArgs sTInit) (defBody sTInit) (defScope sTInit) .none kVr0 dcr0 pmr0 anr0 cdr0 ctr0), slr0⟩)
    (cr0 : PySem.W.codeIn K cdr0 "Trace.__init__" = true)
    (kr0 : PySem.W.keepIn K (.ref fr0) = true)
    (ir0 : PySem.W.isFn K (.ref fr0) = true)
    (ar1 : PySem.W.findIn K (.ref CR) "end" = some (some (.ref fr1)))
    (lr1 : K.lookup fr1 = some ⟨ocr1, odr1, .func (PySem.W.fnOf "end" "Trace.end" (defArgs sTEnd) (defBody sTEnd) (defScope sTEnd) .none kVr1 dcr1 pmr1 anr1 cdr1 ctr1), slr1⟩)
    (cr1 : PySem.W.codeIn K cdr1 "Trace.end" = true)
    (kr1 : PySem.W.keepIn K (.ref fr1) = true)
    (ir1 : PySem.W.isFn K (.ref fr1) = true)
    (ar2 : PySem.W.findIn K (.ref CR) "how_often" = some (some (.ref fr2)))
    (lr2 : K.lookup fr2 = some ⟨ocr2, odr2, .func (PySem.W.fnOf "how_often" "Trace.how_often" (defArgs sTHow) (defBody sTHow) (defScope sTHow) .none kVr2 dcr2 pmr2 anr2 cdr2 ctr2), slr2⟩)
    (cr2 : PySem.W.codeIn K cdr2 "Trace.how_often" = true)
    (kr2 : PySem.W.keepIn K (.ref fr2) = true)
    (ir2 : PySem.W.isFn K (.ref fr2) = true)
    (nInvalidNumber : PySem.W.nsIn K mainGlobals "InvalidNumber" = some (some (.ref CInvalidNumber)))
    (eexInvalidNumber : PySem.W.excIn K CInvalidNumber [.type "ValueError", .type "Exception", .type "BaseException", .type "object"] "ValueError.__new__" = true)
    (ekpInvalidNumber : PySem.W.keepIn K (.ref CInvalidNumber) = true)
    (esbInvalidNumber : PySem.W.subIn K (.ref CInvalidNumber) (.type "BaseException") = some true)
    (etyInvalidNumber : PySem.W.typeIn K (.ref CInvalidNumber) = some (.type "type"))
    (nInvalidRound : PySem.W.nsIn K mainGlobals "InvalidRound" = some (some (.ref CInvalidRound)))
    (xLInvalidRound : K.lookup CInvalidRound = some (excClassObj nmInvalidRound qInvalidRound CInvalidRound NInvalidRound bsInvalidRound bmInvalidRound true snInvalidRound subInvalidRound abInvalidRound colInvalidRound ddInvalidRound g0InvalidRound g1InvalidRound g2InvalidRound g3InvalidRound g5InvalidRound "ValueError.__new__"))
    (xvInvalidRound : PySem.HandSPX.refsVE bmInvalidRound = true)
    (xaInvalidRound : PySem.W.alongIn K "__init__" ((((Value.ref CInvalidRound :: bmInvalidRound).dropWhile (· != .ref CInvalidRound)).drop 1)) = some (some (.builtin "ValueError.__init__")))
    (xsaInvalidRound : PySem.W.findIn K (.ref CInvalidRound) "__setattr__" = some (some (.builtin "object.__setattr__")))
    (xexInvalidRound : PySem.W.subIn K (.ref CInvalidRound) (.type "BaseException") = some true)
    (xtyInvalidRound : PySem.W.typeIn K (.ref CInvalidRound) = some (.type "type"))
    (xkcInvalidRound : PySem.W.keepIn K (.ref CInvalidRound) = true)
    (xveInvalidRound : PySem.W.subIn K (.ref CInvalidRound) (.type "ValueError") = some true)
    (xseInvalidRound : PySem.W.mroIn K CInvalidRound (.ref CInvalidRound) = some true)
    (xnPInvalidRound : PySem.W.findIn K (.ref CInvalidRound) "part" = some none)
    (xnIInvalidRound : PySem.W.findIn K (.ref CInvalidRound) "index" = some none)
    (xiInvalidRound : PySem.W.findIn K (.ref CInvalidRound) "__init__" = some (some (.ref fIInvalidRound)))
    (xitInvalidRound : PySem.W.typeIn K (.ref fIInvalidRound) = some (.type "function"))
    (xilInvalidRound : K.lookup fIInvalidRound = some ⟨ocIInvalidRound, odIInvalidRound, .func (PySem.W.ksFn "__init__" "InvalidRound.__init__" (defArgs sIRd) (defBody sIRd) (defScope sIRd) .none kVIInvalidRound dcIInvalidRound pmIInvalidRound anIInvalidRound (.ref cdaInvalidRound) ctIInvalidRound ccInvalidRound), slIInvalidRound⟩)
    (xicInvalidRound : PySem.W.codeIn K (.ref cdaInvalidRound) "InvalidRound.__init__" = true)
    (xclInvalidRound : K.lookup cdaInvalidRound = some ⟨cclInvalidRound, cddInvalidRound, .fields vsCInvalidRound, ccsInvalidRound⟩)
    (xcfInvalidRound : vsCInvalidRound[2]? = some (.str filInvalidRound tfInvalidRound))
    (xffInvalidRound : ((l.prog.main.file : Str) == filInvalidRound) = true)
    (xccInvalidRound : K.lookup ccInvalidRound = some ⟨clInvalidRound, cldInvalidRound, .cell (some (.ref CInvalidRound)), cslInvalidRound⟩)
    (ewsuUnknownHand : PySem.W.subIn K (.ref CUnknownHand) (.ref CT) = some true)
    (ewsuUnknownItem : PySem.W.subIn K (.ref CUnknownItem) (.ref CT) = some true)
    (ewsuUnknownBox : PySem.W.subIn K (.ref CUnknownBox) (.ref CT) = some true)
    (ewsuUnknownSeal : PySem.W.subIn K (.ref CUnknownSeal) (.ref CT) = some true)
    (ewsuInsideItself : PySem.W.subIn K (.ref CInsideItself) (.ref CT) = some true)
    (ewsuInvalidNumber : PySem.W.subIn K (.ref CInvalidNumber) (.ref CT) = some true)
    (ewsuInvalidRound : PySem.W.subIn K (.ref CInvalidRound) (.ref CT) = some true)
    (egaInvalidRound : PySem.W.findIn K (.ref CInvalidRound) "__getattribute__" = some (some (.builtin "BaseException.__getattribute__")))
    (eggInvalidRound : PySem.W.findIn K (.ref CInvalidRound) "__getattr__" = some none)
    (ehdInvalidRound : PySem.W.hasDictIn K CInvalidRound = true)
    (ehaInvalidRound : PySem.W.findIn K (.ref CInvalidRound) "__class__" = some (some (.builtin "object.__class__")))
    (ehmInvalidRound : PySem.W.mroIn K CInvalidRound (.type "object") = some true)
    (qInvalidRound_InvalidRound : PySem.W.kitOne K (.ref CInvalidRound) (.ref CInvalidRound) = some true)
    (qInvalidRound_InvalidNumber : PySem.W.kitOne K (.ref CInvalidRound) (.ref CInvalidNumber) = some false)
    (qInvalidRound_UnknownBox : PySem.W.kitOne K (.ref CInvalidRound) (.ref CUnknownBox) = some false)
    (egaInvalidNumber : PySem.W.findIn K (.ref CInvalidNumber) "__getattribute__" = some (some (.builtin "BaseException.__getattribute__")))
    (eggInvalidNumber : PySem.W.findIn K (.ref CInvalidNumber) "__getattr__" = some none)
    (ehdInvalidNumber : PySem.W.hasDictIn K CInvalidNumber = true)
    (ehaInvalidNumber : PySem.W.findIn K (.ref CInvalidNumber) "__class__" = some (some (.builtin "object.__class__")))
    (ehmInvalidNumber : PySem.W.mroIn K CInvalidNumber (.type "object") = some true)
    (enIInvalidNumber : PySem.W.findIn K (.ref CInvalidNumber) "index" = some none)
    (qInvalidNumber_InvalidRound : PySem.W.kitOne K (.ref CInvalidNumber) (.ref CInvalidRound) = some false)
    (qInvalidNumber_InvalidNumber : PySem.W.kitOne K (.ref CInvalidNumber) (.ref CInvalidNumber) = some true)
    (qInvalidNumber_UnknownBox : PySem.W.kitOne K (.ref CInvalidNumber) (.ref CUnknownBox) = some false)
    (egaUnknownBox : PySem.W.findIn K (.ref CUnknownBox) "__getattribute__" = some (some (.builtin "BaseException.__getattribute__")))
    (eggUnknownBox : PySem.W.findIn K (.ref CUnknownBox) "__getattr__" = some none)
    (ehdUnknownBox : PySem.W.hasDictIn K CUnknownBox = true)
    (ehaUnknownBox : PySem.W.findIn K (.ref CUnknownBox) "__class__" = some (some (.builtin "object.__class__")))
    (ehmUnknownBox : PySem.W.mroIn K CUnknownBox (.type "object") = some true)
    (enIUnknownBox : PySem.W.findIn K (.ref CUnknownBox) "index" = some none)
    (qUnknownBox_InvalidRound : PySem.W.kitOne K (.ref CUnknownBox) (.ref CInvalidRound) = some false)
    (qUnknownBox_InvalidNumber : PySem.W.kitOne K (.ref CUnknownBox) (.ref CInvalidNumber) = some false)
    (qUnknownBox_UnknownBox : PySem.W.kitOne K (.ref CUnknownBox) (.ref CUnknownBox) = some true)
    (am30 : PySem.W.nsIn K mainGlobals "_law_mix" = some (some (.ref fm30)))
    (lm30 : K.lookup fm30 = some ⟨ocm30, odm30, .func (PySem.W.fnOf "_law_mix" "_law_mix" (defArgs sMix) (defBody sMix) (defScope sMix) .none kVm30 dcm30 pmm30 anm30 cdm30 ctm30), slm30⟩)
    (cm30 : PySem.W.codeIn K cdm30 "_law_mix" = true)
    (km30 : PySem.W.keepIn K (.ref fm30) = true)
    (am31 : PySem.W.nsIn K mainGlobals "_law_next" = some (some (.ref fm31)))
    (lm31 : K.lookup fm31 = some ⟨ocm31, odm31, .func (PySem.W.fnOf "_law_next" "_law_next" (defArgs sNx) (defBody sNx) (defScope sNx) .none kVm31 dcm31 pmm31 anm31 cdm31 ctm31), slm31⟩)
    (cm31 : PySem.W.codeIn K cdm31 "_law_next" = true)
    (km31 : PySem.W.keepIn K (.ref fm31) = true)
    (am32 : PySem.W.nsIn K mainGlobals "_law_items" = some (some (.ref fm32)))
    (lm32 : K.lookup fm32 = some ⟨ocm32, odm32, .func (PySem.W.fnOf "_law_items" "_law_items" (defArgs sItm) (defBody sItm) (defScope sItm) .none kVm32 dcm32 pmm32 anm32 cdm32 ctm32), slm32⟩)
    (cm32 : PySem.W.codeIn K cdm32 "_law_items" = true)
    (km32 : PySem.W.keepIn K (.ref fm32) = true)
    (am33 : PySem.W.nsIn K mainGlobals "_law_drawn" = some (some (.ref fm33)))
    (lm33 : K.lookup fm33 = some ⟨ocm33, odm33, .func (PySem.W.fnOf "_law_drawn" "_law_drawn" (defArgs sDrn) (defBody sDrn) (defScope sDrn) .none kVm33 dcm33 pmm33 anm33 cdm33 ctm33), slm33⟩)
    (cm33 : PySem.W.codeIn K cdm33 "_law_drawn" = true)
    (km33 : PySem.W.keepIn K (.ref fm33) = true)
    (am34 : PySem.W.nsIn K mainGlobals "_law_house" = some (some (.ref fm34)))
    (lm34 : K.lookup fm34 = some ⟨ocm34, odm34, .func (PySem.W.fnOf "_law_house" "_law_house" (defArgs sHsM) (defBody sHsM) (defScope sHsM) .none kVm34 dcm34 pmm34 anm34 cdm34 ctm34), slm34⟩)
    (cm34 : PySem.W.codeIn K cdm34 "_law_house" = true)
    (km34 : PySem.W.keepIn K (.ref fm34) = true)
    (am35 : PySem.W.nsIn K mainGlobals "_law_known" = some (some (.ref fm35)))
    (lm35 : K.lookup fm35 = some ⟨ocm35, odm35, .func (PySem.W.fnOf "_law_known" "_law_known" (defArgs sKno) (defBody sKno) (defScope sKno) .none kVm35 dcm35 pmm35 anm35 cdm35 ctm35), slm35⟩)
    (cm35 : PySem.W.codeIn K cdm35 "_law_known" = true)
    (km35 : PySem.W.keepIn K (.ref fm35) = true)
    (am36 : PySem.W.nsIn K mainGlobals "_law_alike" = some (some (.ref fm36)))
    (lm36 : K.lookup fm36 = some ⟨ocm36, odm36, .func (PySem.W.fnOf "_law_alike" "_law_alike" (defArgs sAlk) (defBody sAlk) (defScope sAlk) .none kVm36 dcm36 pmm36 anm36 cdm36 ctm36), slm36⟩)
    (cm36 : PySem.W.codeIn K cdm36 "_law_alike" = true)
    (km36 : PySem.W.keepIn K (.ref fm36) = true)
    (am37 : PySem.W.nsIn K mainGlobals "_law_fail" = some (some (.ref fm37)))
    (lm37 : K.lookup fm37 = some ⟨ocm37, odm37, .func (PySem.W.fnOf "_law_fail" "_law_fail" (defArgs sFail) (defBody sFail) (defScope sFail) .none kVm37 dcm37 pmm37 anm37 cdm37 ctm37), slm37⟩)
    (cm37 : PySem.W.codeIn K cdm37 "_law_fail" = true)
    (km37 : PySem.W.keepIn K (.ref fm37) = true)
    (zisinstance : PySem.W.nsIn K mainGlobals "isinstance" = some none)
    (zint : PySem.W.nsIn K mainGlobals "int" = some none)
    (zbool : PySem.W.nsIn K mainGlobals "bool" = some none)
    (zlen : PySem.W.nsIn K mainGlobals "len" = some none)
    (zenumerate : PySem.W.nsIn K mainGlobals "enumerate" = some none)
    (ztuple : PySem.W.nsIn K mainGlobals "tuple" = some none)
    (zlist : PySem.W.nsIn K mainGlobals "list" = some none)
    (zrange : PySem.W.nsIn K mainGlobals "range" = some none)
    (zstr : PySem.W.nsIn K mainGlobals "str" = some none)
    (zsuper : PySem.W.nsIn K mainGlobals "super" = some none)
    (zsorted : PySem.W.nsIn K mainGlobals "sorted" = some none)
    (zmax : PySem.W.nsIn K mainGlobals "max" = some none)
    (zdict : PySem.W.nsIn K mainGlobals "dict" = some none)
    (zsum : PySem.W.nsIn K mainGlobals "sum" = some none)
    (zdivmod : PySem.W.nsIn K mainGlobals "divmod" = some none)
    (aL : PySem.W.nsIn K mainGlobals "law" = some (some (.ref fL)))
    (lL : K.lookup fL = some ⟨ocL, odL, .func (PySem.W.fnOf "law" "law" (defArgs sL41) (defBody sL41) (defScope sL41) .none kVL dcL pmL anL (.ref cd) ctL), slL⟩)
    (cL : PySem.W.codeIn K (.ref cd) "law" = true)
    (hcd : PySem.W.codeHdIn K cd tb = true)
    (ntb : K.lookup tb = none)
    (hT : h.get? tb = some { cls := .none, data := .fields #[] }) : LamX.LawAtS l w K CX0 13 63 "_law_script" mg fa h := by
  have e := hfa.symm.trans (PySem.W.mg_of X G aL)
  cases e
  have Ih : HouseI K C := ⟨hha, chn, cht, hhm, hkk⟩
  have clh : Cls K C := ⟨hpg, hhd, hpo, hsa⟩
  have gh := PySem.W.mg_of X G hC
  have clv : Cls K CW := ⟨vpg, vhd, vpo, vsa⟩
  have gv := PySem.W.mg_of X G vC
  have clr : Cls K CR := ⟨rpg, rhd, rpo, rsa⟩
  have gr := PySem.W.mg_of X G rC
  have oexInvalidHouse : OexC K CInvalidHouse := ⟨⟨nmInvalidHouse, qInvalidHouse, NInvalidHouse, bsInvalidHouse, bmInvalidHouse, snInvalidHouse, subInvalidHouse, abInvalidHouse, colInvalidHouse, ddInvalidHouse, g0InvalidHouse, g1InvalidHouse, g2InvalidHouse, g3InvalidHouse, g5InvalidHouse, xLInvalidHouse, xvInvalidHouse⟩, xsaInvalidHouse, xexInvalidHouse, xtyInvalidHouse, xkcInvalidHouse⟩
  have supInvalidHouse : SupC l.prog K mg CInvalidHouse := ⟨oexInvalidHouse, ⟨nmInvalidHouse, qInvalidHouse, NInvalidHouse, bsInvalidHouse, bmInvalidHouse, snInvalidHouse, subInvalidHouse, abInvalidHouse, colInvalidHouse, ddInvalidHouse, g0InvalidHouse, g1InvalidHouse, g2InvalidHouse, g3InvalidHouse, g5InvalidHouse, xLInvalidHouse, xvInvalidHouse, xaInvalidHouse⟩, xtp, PySem.W.mg_none_of X G zsuper, xveInvalidHouse, xseInvalidHouse, xtop⟩
  have bIInvalidHouse : Binds K (PySem.W.ksFn "__init__" "InvalidHouse.__init__" (defArgs sIH) (defBody sIH) (defScope sIH) .none kVIInvalidHouse dcIInvalidHouse pmIInvalidHouse anIInvalidHouse (.ref cdaInvalidHouse) ctIInvalidHouse ccInvalidHouse) (["self", "part", "index"] : List Str) [] := Binds.all fun us hl => match us, hl with | [_, _, _], _ => rfl
  have TInvalidHouse : ExcI l.prog K mg "InvalidHouse" "InvalidHouse.__init__" sIH CInvalidHouse fIInvalidHouse (PySem.W.ksFn "__init__" "InvalidHouse.__init__" (defArgs sIH) (defBody sIH) (defScope sIH) .none kVIInvalidHouse dcIInvalidHouse pmIInvalidHouse anIInvalidHouse (.ref cdaInvalidHouse) ctIInvalidHouse ccInvalidHouse) :=
    ⟨supInvalidHouse, xiInvalidHouse, xitInvalidHouse, PySem.W.mg_of X G nInvalidHouse, ⟨ocIInvalidHouse, odIInvalidHouse, kVIInvalidHouse, dcIInvalidHouse, pmIInvalidHouse, anIInvalidHouse, ctIInvalidHouse, slIInvalidHouse, ccInvalidHouse, cdaInvalidHouse, rfl, xilInvalidHouse, xicInvalidHouse, ⟨cclInvalidHouse, cddInvalidHouse, vsCInvalidHouse, ccsInvalidHouse, filInvalidHouse, tfInvalidHouse, xclInvalidHouse, xcfInvalidHouse, xffInvalidHouse⟩, ⟨_, cldInvalidHouse, cslInvalidHouse, xccInvalidHouse⟩⟩, bIInvalidHouse⟩
  have PUnknownHand : PErr K mg "UnknownHand" CUnknownHand := ⟨eexUnknownHand, PySem.W.mg_of X G nUnknownHand, ekpUnknownHand, esbUnknownHand, etyUnknownHand⟩
  have PUnknownItem : PErr K mg "UnknownItem" CUnknownItem := ⟨eexUnknownItem, PySem.W.mg_of X G nUnknownItem, ekpUnknownItem, esbUnknownItem, etyUnknownItem⟩
  have PUnknownBox : PErr K mg "UnknownBox" CUnknownBox := ⟨eexUnknownBox, PySem.W.mg_of X G nUnknownBox, ekpUnknownBox, esbUnknownBox, etyUnknownBox⟩
  have PUnknownSeal : PErr K mg "UnknownSeal" CUnknownSeal := ⟨eexUnknownSeal, PySem.W.mg_of X G nUnknownSeal, ekpUnknownSeal, esbUnknownSeal, etyUnknownSeal⟩
  have PInsideItself : PErr K mg "InsideItself" CInsideItself := ⟨eexInsideItself, PySem.W.mg_of X G nInsideItself, ekpInsideItself, esbInsideItself, etyInsideItself⟩
  have PNotHeld : PErr K mg "NotHeld" CNotHeld := ⟨eexNotHeld, PySem.W.mg_of X G nNotHeld, ekpNotHeld, esbNotHeld, etyNotHeld⟩
  have PIsSealed : PErr K mg "IsSealed" CIsSealed := ⟨eexIsSealed, PySem.W.mg_of X G nIsSealed, ekpIsSealed, esbIsSealed, etyIsSealed⟩
  have PNotSealed : PErr K mg "NotSealed" CNotSealed := ⟨eexNotSealed, PySem.W.mg_of X G nNotSealed, ekpNotSealed, esbNotSealed, etyNotSealed⟩
  have PNotInside : PErr K mg "NotInside" CNotInside := ⟨eexNotInside, PySem.W.mg_of X G nNotInside, ekpNotInside, esbNotInside, etyNotInside⟩
  have v_MOST_HANDS := PySem.W.mg_of X G j_MOST_HANDS
  have v_MOST_BOXES := PySem.W.mg_of X G j_MOST_BOXES
  have v_MOST_THINGS := PySem.W.mg_of X G j_MOST_THINGS
  have v_MOST_SEALS := PySem.W.mg_of X G j_MOST_SEALS
  have v_MOST_DEEDS := PySem.W.mg_of X G j_MOST_DEEDS
  have v_MOST_ROUNDS := PySem.W.mg_of X G j_MOST_ROUNDS
  have Fis_number := fun_mk (st := sNum) lm0 cm0 km0
  have bis_number := Fis_number.binds (ps := ["value", "limit"]) fun _ _ _ _ _ _ us hl => match us, hl with | [_, _], _ => rfl
  have gis_number := PySem.W.mg_of X G am0
  have Fhow_many := fun_mk (st := sMany) lm1 cm1 km1
  have bhow_many := Fhow_many.binds (ps := ["house", "word"]) fun _ _ _ _ _ _ us hl => match us, hl with | [_, _], _ => rfl
  have ghow_many := PySem.W.mg_of X G am1
  have Fis_place := fun_mk (st := sIsPl) lm2 cm2 km2
  have bis_place := Fis_place.binds (ps := ["place", "hands", "boxes"]) fun _ _ _ _ _ _ us hl => match us, hl with | [_, _, _], _ => rfl
  have gis_place := PySem.W.mg_of X G am2
  have Fneed_boxes := fun_mk (st := sBoxes) lm3 cm3 km3
  have bneed_boxes := Fneed_boxes.binds (ps := ["hands", "boxes"]) fun _ _ _ _ _ _ us hl => match us, hl with | [_, _], _ => rfl
  have gneed_boxes := PySem.W.mg_of X G am3
  have Fneed_house := fun_mk (st := sNeed) lm4 cm4 km4
  have bneed_house := Fneed_house.binds (ps := ["hands", "boxes", "things", "seals"]) fun _ _ _ _ _ _ us hl => match us, hl with | [_, _, _, _], _ => rfl
  have gneed_house := PySem.W.mg_of X G am4
  have Fneed_hand := fun_mk (st := sNHand) lm5 cm5 km5
  have bneed_hand := Fneed_hand.binds (ps := ["house", "hand"]) fun _ _ _ _ _ _ us hl => match us, hl with | [_, _], _ => rfl
  have gneed_hand := PySem.W.mg_of X G am5
  have Fneed_item := fun_mk (st := sNItem) lm6 cm6 km6
  have bneed_item := Fneed_item.binds (ps := ["house", "item"]) fun _ _ _ _ _ _ us hl => match us, hl with | [_, _], _ => rfl
  have gneed_item := PySem.W.mg_of X G am6
  have Fneed_load := fun_mk (st := sNLoad) lm7 cm7 km7
  have bneed_load := Fneed_load.binds (ps := ["house", "item"]) fun _ _ _ _ _ _ us hl => match us, hl with | [_, _], _ => rfl
  have gneed_load := PySem.W.mg_of X G am7
  have Fneed_box := fun_mk (st := sNBox) lm8 cm8 km8
  have bneed_box := Fneed_box.binds (ps := ["house", "box"]) fun _ _ _ _ _ _ us hl => match us, hl with | [_, _], _ => rfl
  have gneed_box := PySem.W.mg_of X G am8
  have Fneed_seal := fun_mk (st := sNSeal) lm9 cm9 km9
  have bneed_seal := Fneed_seal.binds (ps := ["house", "seal"]) fun _ _ _ _ _ _ us hl => match us, hl with | [_, _], _ => rfl
  have gneed_seal := PySem.W.mg_of X G am9
  have Fneed_place := fun_mk (st := sNPlace) lm10 cm10 km10
  have bneed_place := Fneed_place.binds (ps := ["house", "place"]) fun _ _ _ _ _ _ us hl => match us, hl with | [_, _], _ => rfl
  have gneed_place := PySem.W.mg_of X G am10
  have Fneed_sight := fun_mk (st := sNSight) lm11 cm11 km11
  have bneed_sight := Fneed_sight.binds (ps := ["house", "sight"]) fun _ _ _ _ _ _ us hl => match us, hl with | [_, _], _ => rfl
  have gneed_sight := PySem.W.mg_of X G am11
  have Fneed_loads := fun_mk (st := sNLoads) lm12 cm12 km12
  have bneed_loads := Fneed_loads.binds (ps := ["house", "items"]) fun _ _ _ _ _ _ us hl => match us, hl with | [_, _], _ => rfl
  have gneed_loads := PySem.W.mg_of X G am12
  have Fneed_move := fun_mk (st := sNMove) lm13 cm13 km13
  have bneed_move := Fneed_move.binds (ps := ["house", "item", "box"]) fun _ _ _ _ _ _ us hl => match us, hl with | [_, _, _], _ => rfl
  have gneed_move := PySem.W.mg_of X G am13
  have Fneed_deed := fun_mk (st := sNDeed) lm14 cm14 km14
  have bneed_deed := Fneed_deed.binds (ps := ["house", "deed"]) fun _ _ _ _ _ _ us hl => match us, hl with | [_, _], _ => rfl
  have gneed_deed := PySem.W.mg_of X G am14
  have Fplace_in := fun_mk (st := sPlace) lm15 cm15 km15
  have bplace_in := Fplace_in.binds (ps := ["state", "item"]) fun _ _ _ _ _ _ us hl => match us, hl with | [_, _], _ => rfl
  have gplace_in := PySem.W.mg_of X G am15
  have Fwith_place := fun_mk (st := sWith) lm16 cm16 km16
  have bwith_place := Fwith_place.binds (ps := ["state", "item", "place"]) fun _ _ _ _ _ _ us hl => match us, hl with | [_, _, _], _ => rfl
  have gwith_place := PySem.W.mg_of X G am16
  have Fseal_on := fun_mk (st := sOn) lm17 cm17 km17
  have bseal_on := Fseal_on.binds (ps := ["state", "box"]) fun _ _ _ _ _ _ us hl => match us, hl with | [_, _], _ => rfl
  have gseal_on := PySem.W.mg_of X G am17
  have Floads_at := fun_mk (st := sLoads) lm18 cm18 km18
  have bloads_at := Floads_at.binds (ps := ["state", "place"]) fun _ _ _ _ _ _ us hl => match us, hl with | [_, _], _ => rfl
  have gloads_at := PySem.W.mg_of X G am18
  have Fneed_held := fun_mk (st := sHeld) lm19 cm19 km19
  have bneed_held := Fneed_held.binds (ps := ["state", "hand", "item"]) fun _ _ _ _ _ _ us hl => match us, hl with | [_, _, _], _ => rfl
  have gneed_held := PySem.W.mg_of X G am19
  have Fneed_bare := fun_mk (st := sBare) lm20 cm20 km20
  have bneed_bare := Fneed_bare.binds (ps := ["state", "hand", "box"]) fun _ _ _ _ _ _ us hl => match us, hl with | [_, _, _], _ => rfl
  have gneed_bare := PySem.W.mg_of X G am20
  have Fstate_behind_break := fun_mk (st := sBreak) lm21 cm21 km21
  have bstate_behind_break := Fstate_behind_break.binds (ps := ["state", "hand", "box"]) fun _ _ _ _ _ _ us hl => match us, hl with | [_, _, _], _ => rfl
  have gstate_behind_break := PySem.W.mg_of X G am21
  have Fstate_behind := fun_mk (st := sBehind) lm22 cm22 km22
  have bstate_behind := Fstate_behind.binds (ps := ["state", "deed"]) fun _ _ _ _ _ _ us hl => match us, hl with | [_, _], _ => rfl
  have gstate_behind := PySem.W.mg_of X G am22
  have Fis_true := fun_mk (st := sTrue) lm23 cm23 km23
  have bis_true := Fis_true.binds (ps := ["state", "sight"]) fun _ _ _ _ _ _ us hl => match us, hl with | [_, _], _ => rfl
  have gis_true := PySem.W.mg_of X G am23
  have Fstate_behind_all := fun_mk (st := sAll) lm24 cm24 km24
  have bstate_behind_all := Fstate_behind_all.binds (ps := ["state", "deeds"]) fun _ _ _ _ _ _ us hl => match us, hl with | [_, _], _ => rfl
  have gstate_behind_all := PySem.W.mg_of X G am24
  have Fneed_round := fun_mk (st := sNRd) lm25 cm25 km25
  have bneed_round := Fneed_round.binds (ps := ["house", "deeds"]) fun _ _ _ _ _ _ us hl => match us, hl with | [_, _], _ => rfl
  have gneed_round := PySem.W.mg_of X G am25
  have Fneed_count := fun_mk (st := sNCt) lm26 cm26 km26
  have bneed_count := Fneed_count.binds (ps := ["count"]) fun _ _ _ _ _ _ us hl => match us, hl with | [_], _ => rfl
  have gneed_count := PySem.W.mg_of X G am26
  have Frounds := fun_mk (st := sRnd) lm27 cm27 km27
  have brounds := Frounds.binds (ps := ["world", "deeds", "count"]) fun _ _ _ _ _ _ us hl => match us, hl with | [_, _, _], _ => rfl
  have grounds := PySem.W.mg_of X G am27
  have Ftrue_rounds := fun_mk (st := sTrd) lm28 cm28 km28
  have btrue_rounds := Ftrue_rounds.binds (ps := ["world", "deeds", "sight", "count"]) fun _ _ _ _ _ _ us hl => match us, hl with | [_, _, _, _], _ => rfl
  have gtrue_rounds := PySem.W.mg_of X G am28
  have Ffirst_round := fun_mk (st := sFr) lm29 cm29 km29
  have bfirst_round := Ffirst_round.binds (ps := ["world", "deeds", "sight"]) fun _ _ _ _ _ _ us hl => match us, hl with | [_, _, _], _ => rfl
  have gfirst_round := PySem.W.mg_of X G am29
  have Fh0 := fun_mk (st := sInit) lh0 ch0 kh0
  have bh0 := Fh0.binds (ps := ["self", "hands", "boxes", "things", "seals"]) fun _ _ _ _ _ _ us hl => match us, hl with | [_, _, _, _, _], _ => rfl
  have Fh1 := fun_mk (st := sHas) lh1 ch1 kh1
  have bh1 := Fh1.binds (ps := ["self", "item"]) fun _ _ _ _ _ _ us hl => match us, hl with | [_, _], _ => rfl
  have Fv0 := fun_mk (st := sWInit) lv0 cv0 kv0
  have bv0 := Fv0.binds (ps := ["self", "house"]) fun _ _ _ _ _ _ us hl => match us, hl with | [_, _], _ => rfl
  have Fr0 := fun_mk (st := sTInit) lr0 cr0 kr0
  have br0 := Fr0.binds (ps := ["self", "state", "deeds", "count"]) fun _ _ _ _ _ _ us hl => match us, hl with | [_, _, _, _], _ => rfl
  have Fr1 := fun_mk (st := sTEnd) lr1 cr1 kr1
  have br1 := Fr1.binds (ps := ["self", "count"]) fun _ _ _ _ _ _ us hl => match us, hl with | [_, _], _ => rfl
  have Fr2 := fun_mk (st := sTHow) lr2 cr2 kr2
  have br2 := Fr2.binds (ps := ["self", "sight", "count"]) fun _ _ _ _ _ _ us hl => match us, hl with | [_, _, _], _ => rfl
  have Mh : Mk K _ fh0 := ⟨hmk, ah0, ih0, hkc⟩
  have Mv : Mk K _ fv0 := ⟨vmk, av0, iv0, vkc⟩
  have Mr : Mk K _ fr0 := ⟨rmk, ar0, ir0, rkc⟩
  have PInvalidNumber : PErr K mg "InvalidNumber" CInvalidNumber := ⟨eexInvalidNumber, PySem.W.mg_of X G nInvalidNumber, ekpInvalidNumber, esbInvalidNumber, etyInvalidNumber⟩
  have oexInvalidRound : OexC K CInvalidRound := ⟨⟨nmInvalidRound, qInvalidRound, NInvalidRound, bsInvalidRound, bmInvalidRound, snInvalidRound, subInvalidRound, abInvalidRound, colInvalidRound, ddInvalidRound, g0InvalidRound, g1InvalidRound, g2InvalidRound, g3InvalidRound, g5InvalidRound, xLInvalidRound, xvInvalidRound⟩, xsaInvalidRound, xexInvalidRound, xtyInvalidRound, xkcInvalidRound⟩
  have supInvalidRound : SupC l.prog K mg CInvalidRound := ⟨oexInvalidRound, ⟨nmInvalidRound, qInvalidRound, NInvalidRound, bsInvalidRound, bmInvalidRound, snInvalidRound, subInvalidRound, abInvalidRound, colInvalidRound, ddInvalidRound, g0InvalidRound, g1InvalidRound, g2InvalidRound, g3InvalidRound, g5InvalidRound, xLInvalidRound, xvInvalidRound, xaInvalidRound⟩, xtp, PySem.W.mg_none_of X G zsuper, xveInvalidRound, xseInvalidRound, xtop⟩
  have bIInvalidRound : Binds K (PySem.W.ksFn "__init__" "InvalidRound.__init__" (defArgs sIRd) (defBody sIRd) (defScope sIRd) .none kVIInvalidRound dcIInvalidRound pmIInvalidRound anIInvalidRound (.ref cdaInvalidRound) ctIInvalidRound ccInvalidRound) (["self", "index"] : List Str) [] := Binds.all fun us hl => match us, hl with | [_, _], _ => rfl
  have TInvalidRound : ExcX l.prog K mg "InvalidRound" "InvalidRound.__init__" sIRd CInvalidRound fIInvalidRound (PySem.W.ksFn "__init__" "InvalidRound.__init__" (defArgs sIRd) (defBody sIRd) (defScope sIRd) .none kVIInvalidRound dcIInvalidRound pmIInvalidRound anIInvalidRound (.ref cdaInvalidRound) ctIInvalidRound ccInvalidRound) :=
    ⟨supInvalidRound, xiInvalidRound, xitInvalidRound, PySem.W.mg_of X G nInvalidRound, ⟨ocIInvalidRound, odIInvalidRound, kVIInvalidRound, dcIInvalidRound, pmIInvalidRound, anIInvalidRound, ctIInvalidRound, slIInvalidRound, ccInvalidRound, cdaInvalidRound, rfl, xilInvalidRound, xicInvalidRound, ⟨cclInvalidRound, cddInvalidRound, vsCInvalidRound, ccsInvalidRound, filInvalidRound, tfInvalidRound, xclInvalidRound, xcfInvalidRound, xffInvalidRound⟩, ⟨_, cldInvalidRound, cslInvalidRound, xccInvalidRound⟩⟩, bIInvalidRound⟩
  have F_law_mix := fun_mk (st := sMix) lm30 cm30 km30
  have b_law_mix := F_law_mix.binds (ps := ["_law_script", "_law_seed"]) fun _ _ _ _ _ _ us hl => match us, hl with | [_, _], _ => rfl
  have g_law_mix := PySem.W.mg_of X G am30
  have F_law_next := fun_mk (st := sNx) lm31 cm31 km31
  have b_law_next := F_law_next.binds (ps := ["_law_h", "_law_limit"]) fun _ _ _ _ _ _ us hl => match us, hl with | [_, _], _ => rfl
  have g_law_next := PySem.W.mg_of X G am31
  have F_law_items := fun_mk (st := sItm) lm32 cm32 km32
  have b_law_items := F_law_items.binds (ps := ["_law_house_here"]) fun _ _ _ _ _ _ us hl => match us, hl with | [_], _ => rfl
  have g_law_items := PySem.W.mg_of X G am32
  have F_law_drawn := fun_mk (st := sDrn) lm33 cm33 km33
  have b_law_drawn := F_law_drawn.binds (ps := ["_law_h", "_law_most"]) fun _ _ _ _ _ _ us hl => match us, hl with | [_, _], _ => rfl
  have g_law_drawn := PySem.W.mg_of X G am33
  have F_law_house := fun_mk (st := sHsM) lm34 cm34 km34
  have b_law_house := F_law_house.binds (ps := ["_law_drawn_here"]) fun _ _ _ _ _ _ us hl => match us, hl with | [_], _ => rfl
  have g_law_house := PySem.W.mg_of X G am34
  have F_law_known := fun_mk (st := sKno) lm35 cm35 km35
  have b_law_known := F_law_known.binds (ps := ["_law_drawn_here", "_law_hands"]) fun _ _ _ _ _ _ us hl => match us, hl with | [_, _], _ => rfl
  have g_law_known := PySem.W.mg_of X G am35
  have F_law_alike := fun_mk (st := sAlk) lm36 cm36 km36
  have b_law_alike := F_law_alike.binds (ps := ["_law_found", "_law_due"]) fun _ _ _ _ _ _ us hl => match us, hl with | [_, _], _ => rfl
  have g_law_alike := PySem.W.mg_of X G am36
  have F_law_fail := fun_mk (st := sFail) lm37 cm37 km37
  have b_law_fail := F_law_fail.binds (ps := ["_law_work"]) fun _ _ _ _ _ _ us hl => match us, hl with | [_], _ => rfl
  have g_law_fail := PySem.W.mg_of X G am37
  have z_isinstance := PySem.W.mg_none_of X G zisinstance
  have z_int := PySem.W.mg_none_of X G zint
  have z_bool := PySem.W.mg_none_of X G zbool
  have z_len := PySem.W.mg_none_of X G zlen
  have z_enumerate := PySem.W.mg_none_of X G zenumerate
  have z_tuple := PySem.W.mg_none_of X G ztuple
  have z_list := PySem.W.mg_none_of X G zlist
  have z_range := PySem.W.mg_none_of X G zrange
  have z_str := PySem.W.mg_none_of X G zstr
  have z_super := PySem.W.mg_none_of X G zsuper
  have z_sorted := PySem.W.mg_none_of X G zsorted
  have z_max := PySem.W.mg_none_of X G zmax
  have z_dict := PySem.W.mg_none_of X G zdict
  have z_sum := PySem.W.mg_none_of X G zsum
  have z_divmod := PySem.W.mg_none_of X G zdivmod
  obtain ⟨ce, hce⟩ : ∃ ce, ce = ce9 CUnknownHand CUnknownItem CUnknownBox CUnknownSeal CInsideItself CNotHeld CIsSealed CNotSealed CNotInside := ⟨_, rfl⟩
  have vUnknownHand : ce "UnknownHand" = CUnknownHand := by rw [hce]; exact ce9_UnknownHand CUnknownHand CUnknownItem CUnknownBox CUnknownSeal CInsideItself CNotHeld CIsSealed CNotSealed CNotInside
  have vUnknownItem : ce "UnknownItem" = CUnknownItem := by rw [hce]; exact ce9_UnknownItem CUnknownHand CUnknownItem CUnknownBox CUnknownSeal CInsideItself CNotHeld CIsSealed CNotSealed CNotInside
  have vUnknownBox : ce "UnknownBox" = CUnknownBox := by rw [hce]; exact ce9_UnknownBox CUnknownHand CUnknownItem CUnknownBox CUnknownSeal CInsideItself CNotHeld CIsSealed CNotSealed CNotInside
  have vUnknownSeal : ce "UnknownSeal" = CUnknownSeal := by rw [hce]; exact ce9_UnknownSeal CUnknownHand CUnknownItem CUnknownBox CUnknownSeal CInsideItself CNotHeld CIsSealed CNotSealed CNotInside
  have vInsideItself : ce "InsideItself" = CInsideItself := by rw [hce]; exact ce9_InsideItself CUnknownHand CUnknownItem CUnknownBox CUnknownSeal CInsideItself CNotHeld CIsSealed CNotSealed CNotInside
  have vNotHeld : ce "NotHeld" = CNotHeld := by rw [hce]; exact ce9_NotHeld CUnknownHand CUnknownItem CUnknownBox CUnknownSeal CInsideItself CNotHeld CIsSealed CNotSealed CNotInside
  have vIsSealed : ce "IsSealed" = CIsSealed := by rw [hce]; exact ce9_IsSealed CUnknownHand CUnknownItem CUnknownBox CUnknownSeal CInsideItself CNotHeld CIsSealed CNotSealed CNotInside
  have vNotSealed : ce "NotSealed" = CNotSealed := by rw [hce]; exact ce9_NotSealed CUnknownHand CUnknownItem CUnknownBox CUnknownSeal CInsideItself CNotHeld CIsSealed CNotSealed CNotInside
  have vNotInside : ce "NotInside" = CNotInside := by rw [hce]; exact ce9_NotInside CUnknownHand CUnknownItem CUnknownBox CUnknownSeal CInsideItself CNotHeld CIsSealed CNotSealed CNotInside
  clear hce
  have P2UnknownHand : PErr K mg "UnknownHand" (ce "UnknownHand") := by rw [vUnknownHand]; exact PUnknownHand
  have P2UnknownItem : PErr K mg "UnknownItem" (ce "UnknownItem") := by rw [vUnknownItem]; exact PUnknownItem
  have P2UnknownBox : PErr K mg "UnknownBox" (ce "UnknownBox") := by rw [vUnknownBox]; exact PUnknownBox
  have P2UnknownSeal : PErr K mg "UnknownSeal" (ce "UnknownSeal") := by rw [vUnknownSeal]; exact PUnknownSeal
  have P2InsideItself : PErr K mg "InsideItself" (ce "InsideItself") := by rw [vInsideItself]; exact PInsideItself
  have P2NotHeld : PErr K mg "NotHeld" (ce "NotHeld") := by rw [vNotHeld]; exact PNotHeld
  have P2IsSealed : PErr K mg "IsSealed" (ce "IsSealed") := by rw [vIsSealed]; exact PIsSealed
  have P2NotSealed : PErr K mg "NotSealed" (ce "NotSealed") := by rw [vNotSealed]; exact PNotSealed
  have P2NotInside : PErr K mg "NotInside" (ce "NotInside") := by rw [vNotInside]; exact PNotInside
  have wNotHeld : PySem.W.exmOne K (.ref (ce "NotHeld")) (.ref CT) = some true := by rw [vNotHeld]; exact PySem.W.exm_ref wbe wcl wty ewsuNotHeld
  have wIsSealed : PySem.W.exmOne K (.ref (ce "IsSealed")) (.ref CT) = some true := by rw [vIsSealed]; exact PySem.W.exm_ref wbe wcl wty ewsuIsSealed
  have wNotSealed : PySem.W.exmOne K (.ref (ce "NotSealed")) (.ref CT) = some true := by rw [vNotSealed]; exact PySem.W.exm_ref wbe wcl wty ewsuNotSealed
  have wNotInside : PySem.W.exmOne K (.ref (ce "NotInside")) (.ref CT) = some true := by rw [vNotInside]; exact PySem.W.exm_ref wbe wcl wty ewsuNotInside
  have Ct : CaughtB K ce CT := ⟨by
    rintro z (rfl | rfl | rfl | rfl)
    · exact wNotHeld
    · exact wIsSealed
    · exact wNotSealed
    · exact wNotInside⟩
  have B : Bt mg := ⟨z_isinstance, z_int, z_bool, z_len, z_enumerate, z_tuple, z_list, z_range, z_str⟩
  have Zc : Cs mg := ⟨⟨_, v_MOST_HANDS⟩, ⟨_, v_MOST_BOXES⟩, ⟨_, v_MOST_THINGS⟩, ⟨_, v_MOST_SEALS⟩⟩
  have hc : HouseC K C := ⟨clh, hn_hands, hn_boxes, hn_things, hn_seals, hn_state⟩
  have wc : WorldC K CW := ⟨clv, vn_house, vn_state⟩
  have TC : TrC K CR := ⟨clr, rn_states, rn_stop, rn_again⟩
  have gT := PySem.W.mg_of X G aCT
  have PT : PartsF K w mg aP := ⟨fun k => by
    cases k
    · exact ⟨esP, nP_, _, pL, pK, p0, ⟨tp0, rfl⟩⟩
    · exact ⟨esP, nP_, _, pL, pK, p1, ⟨tp1, rfl⟩⟩
    · exact ⟨esP, nP_, _, pL, pK, p2, ⟨tp2, rfl⟩⟩, PySem.W.mg_of X G pA⟩
  have wUnknownHand : PySem.W.exmOne K (.ref (ce "UnknownHand")) (.ref CT) = some true := by rw [vUnknownHand]; exact PySem.W.exm_ref wbe wcl wty ewsuUnknownHand
  have wUnknownItem : PySem.W.exmOne K (.ref (ce "UnknownItem")) (.ref CT) = some true := by rw [vUnknownItem]; exact PySem.W.exm_ref wbe wcl wty ewsuUnknownItem
  have wUnknownBox : PySem.W.exmOne K (.ref (ce "UnknownBox")) (.ref CT) = some true := by rw [vUnknownBox]; exact PySem.W.exm_ref wbe wcl wty ewsuUnknownBox
  have wUnknownSeal : PySem.W.exmOne K (.ref (ce "UnknownSeal")) (.ref CT) = some true := by rw [vUnknownSeal]; exact PySem.W.exm_ref wbe wcl wty ewsuUnknownSeal
  have wInsideItself : PySem.W.exmOne K (.ref (ce "InsideItself")) (.ref CT) = some true := by rw [vInsideItself]; exact PySem.W.exm_ref wbe wcl wty ewsuInsideItself
  have CtD : Caught K ce CInvalidRound CT := ⟨PySem.W.exm_ref wbe wcl wty ewsuInvalidRound, by
    rintro z (rfl | rfl | rfl | rfl | rfl)
    · exact wUnknownHand
    · exact wUnknownItem
    · exact wUnknownBox
    · exact wUnknownSeal
    · exact wInsideItself⟩
  have FR0 : FailC K mg CInvalidRound CT true false false := ⟨⟨egaInvalidRound, eggInvalidRound, xexInvalidRound, ehdInvalidRound, ehaInvalidRound, chn, cht, ehmInvalidRound⟩, ⟨egaInvalidRound, eggInvalidRound, xexInvalidRound, ehdInvalidRound⟩, xnIInvalidRound, PySem.W.exm_ref wbe wcl wty ewsuInvalidRound, ⟨_, PySem.W.mg_of X G nInvalidRound, qInvalidRound_InvalidRound⟩, ⟨_, PySem.W.mg_of X G nInvalidNumber, qInvalidRound_InvalidNumber⟩, ⟨_, PySem.W.mg_of X G nUnknownBox, qInvalidRound_UnknownBox⟩⟩
  have FN0 : FailC K mg CInvalidNumber CT false true false := ⟨⟨egaInvalidNumber, eggInvalidNumber, esbInvalidNumber, ehdInvalidNumber, ehaInvalidNumber, chn, cht, ehmInvalidNumber⟩, ⟨egaInvalidNumber, eggInvalidNumber, esbInvalidNumber, ehdInvalidNumber⟩, enIInvalidNumber, PySem.W.exm_ref wbe wcl wty ewsuInvalidNumber, ⟨_, PySem.W.mg_of X G nInvalidRound, qInvalidNumber_InvalidRound⟩, ⟨_, PySem.W.mg_of X G nInvalidNumber, qInvalidNumber_InvalidNumber⟩, ⟨_, PySem.W.mg_of X G nUnknownBox, qInvalidNumber_UnknownBox⟩⟩
  have FB0 : FailC K mg CUnknownBox CT false false true := ⟨⟨egaUnknownBox, eggUnknownBox, esbUnknownBox, ehdUnknownBox, ehaUnknownBox, chn, cht, ehmUnknownBox⟩, ⟨egaUnknownBox, eggUnknownBox, esbUnknownBox, ehdUnknownBox⟩, enIUnknownBox, PySem.W.exm_ref wbe wcl wty ewsuUnknownBox, ⟨_, PySem.W.mg_of X G nInvalidRound, qUnknownBox_InvalidRound⟩, ⟨_, PySem.W.mg_of X G nInvalidNumber, qUnknownBox_InvalidNumber⟩, ⟨_, PySem.W.mg_of X G nUnknownBox, qUnknownBox_UnknownBox⟩⟩
  refine ⟨PySem.W.fnOf "law" "law" (defArgs sL41) (defBody sL41) (defScope sL41) .none kVL dcL pmL anL (.ref cd) ctL, [(cd, tb)], spL41 K tb, fun p hp => by rw [List.mem_singleton.mp hp]; exact hT, fun p hp => by rw [List.mem_singleton.mp hp]; exact ntb, fun p hp => by rw [List.mem_singleton.mp hp]; exact PySem.W.codeHd_of_K X hcd, fun s v => .of_eq rfl, fun H a ns hl _ hTb hS => ⟨a, ns, rfl, hTb (cd, tb) List.mem_cons_self, hS, hl, fun _ => rfl⟩, fun base hb hg hTB => ?_⟩
  have TB : LamX.TabB base mg cd tb := hTB (cd, tb) List.mem_cons_self
  have GN : FnOk l.prog w K mg base CX0 1 fm0 (PySem.W.fnOf "is_number" "is_number" (defArgs sNum) (defBody sNum) (defScope sNum) .none kVm0 dcm0 pmm0 anm0 cdm0 ctm0) ["value", "limit"] (spNum) := ok_num Fis_number B
  have GM : FnOk l.prog w K mg base CX0 1 fm1 (PySem.W.fnOf "how_many" "how_many" (defArgs sMany) (defBody sMany) (defScope sMany) .none kVm1 dcm1 pmm1 anm1 cdm1 ctm1) ["house", "word"] (spMany K C) := ok_many Fhow_many B hc
  have GP : FnOk l.prog w K mg base CX0 2 fm2 (PySem.W.fnOf "is_place" "is_place" (defArgs sIsPl) (defBody sIsPl) (defScope sIsPl) .none kVm2 dcm2 pmm2 anm2 cdm2 ctm2) ["place", "hands", "boxes"] (spIsPl K) := ok_ispl Fis_place Fis_number B gis_number bis_number
  have GI0 : FnOk l.prog w K mg base CX0 1 fIInvalidHouse _ ["self", "part", "index"] (spIH CInvalidHouse) := ok_ih TInvalidHouse xnPInvalidHouse xnIInvalidHouse
  have GB := ok_boxes (P := l.prog) (w := w) (mg := mg) (base := base) Fneed_boxes B Zc GP gis_place Fis_place.kp bis_place TInvalidHouse GI0
  have GNH := ok_need (P := l.prog) (w := w) (mg := mg) (base := base) Fneed_house B Zc GP gis_place Fis_place.kp bis_place GN gis_number Fis_number.kp bis_number GB gneed_boxes Fneed_boxes.kp bneed_boxes TInvalidHouse GI0
  have GH := ok_house (P := l.prog) (w := w) (mg := mg) (base := base) Fh0 B hc GNH gneed_house Fneed_house.kp bneed_house
  have GHa := ok_has (P := l.prog) (w := w) (mg := mg) (base := base) Fh1 B GM ghow_many Fhow_many.kp bhow_many GN gis_number Fis_number.kp bis_number
  have NF : NumF l.prog w K mg base fm0 _ := ⟨GN, gis_number, Fis_number.kp, bis_number⟩
  have HF : HasF l.prog w K mg base C fh1 _ := ⟨GHa, ah1, ih1, bh1⟩
  have G1 := ok_nhand (P := l.prog) (w := w) (mg := mg) (base := base) Fneed_hand hc NF P2UnknownHand
  have G2 := ok_nitem (P := l.prog) (w := w) (mg := mg) (base := base) Fneed_item HF P2UnknownItem
  have G3 := ok_nload (P := l.prog) (w := w) (mg := mg) (base := base) Fneed_load HF P2UnknownItem
  have G4 := ok_nbox (P := l.prog) (w := w) (mg := mg) (base := base) Fneed_box B hc NF P2UnknownBox
  have G5 := ok_nseal (P := l.prog) (w := w) (mg := mg) (base := base) Fneed_seal B hc NF P2UnknownSeal
  have Q3 : NLoadF l.prog w K mg base C (ce "UnknownItem") fm7 _ := ⟨G3, gneed_load, Fneed_load.kp, bneed_load⟩
  have Q4 : NBoxF l.prog w K mg base C (ce "UnknownBox") fm8 _ := ⟨G4, gneed_box, Fneed_box.kp, bneed_box⟩
  have Q2 : NItemF l.prog w K mg base C (ce "UnknownItem") fm6 _ := ⟨G2, gneed_item, Fneed_item.kp, bneed_item⟩
  have Q1 : NHandF l.prog w K mg base C (ce "UnknownHand") fm5 _ := ⟨G1, gneed_hand, Fneed_hand.kp, bneed_hand⟩
  have Q5 : NSealF l.prog w K mg base C (ce "UnknownSeal") fm9 _ := ⟨G5, gneed_seal, Fneed_seal.kp, bneed_seal⟩
  have GPc := ok_nplace (P := l.prog) (w := w) (mg := mg) (base := base) Fneed_place Q1 Q4
  have OPc : OnceX l.prog w K mg base "need_place" 3 ["house", "place"] (spNPlace K C ce) fm10 _ := ⟨GPc, gneed_place, Fneed_place.kp, bneed_place⟩
  have GLs := ok_nloads (P := l.prog) (w := w) (mg := mg) (base := base) Fneed_loads B Q3 P2UnknownItem
  have OLs : OnceX l.prog w K mg base "need_loads" 4 ["house", "items"] (spNLoads K C (ce "UnknownItem")) fm12 _ := ⟨GLs, gneed_loads, Fneed_loads.kp, bneed_loads⟩
  have GMv0 := ok_nmove (P := l.prog) (w := w) (mg := mg) (base := base) Fneed_move Q3 Q4 P2InsideItself
  have QM : NMoveF l.prog w K mg base C ce fm13 _ := ⟨GMv0, gneed_move, Fneed_move.kp, bneed_move⟩
  have GDd := ok_ndeed (P := l.prog) (w := w) (mg := mg) (base := base) Fneed_deed Q2 Q1 QM Q4 Q5 P2UnknownHand
  have ODd : OnceY l.prog w K mg base "need_deed" 5 ["house", "deed"] (spNDeed K C ce) fm14 _ := ⟨(weakN GDd), gneed_deed, Fneed_deed.kp, bneed_deed⟩
  have GSi := ok_nsight (P := l.prog) (w := w) (mg := mg) (base := base) Fneed_sight gneed_sight bneed_sight Q2 OPc Q4 OLs Q5 3
  have OSi : OnceY l.prog w K mg base "need_sight" 7 ["house", "sight"] (spNSight K C ce 3) fm11 _ := ⟨(weakN GSi), gneed_sight, Fneed_sight.kp, bneed_sight⟩
  have GPi : FnOk l.prog w K mg base CX0 1 fm15 (PySem.W.fnOf "place_in" "place_in" (defArgs sPlace) (defBody sPlace) (defScope sPlace) .none kVm15 dcm15 pmm15 anm15 cdm15 ctm15) ["state", "item"] (spWhere K) := ok_place Fplace_in PT
  have GWi : FnOk l.prog w K mg base CX0 1 fm16 (PySem.W.fnOf "with_place" "with_place" (defArgs sWith) (defBody sWith) (defScope sWith) .none kVm16 dcm16 pmm16 anm16 cdm16 ctm16) ["state", "item", "place"] (spWith K) := ok_with Fwith_place PT
  have GOn : FnOk l.prog w K mg base CX0 1 fm17 (PySem.W.fnOf "seal_on" "seal_on" (defArgs sOn) (defBody sOn) (defScope sOn) .none kVm17 dcm17 pmm17 anm17 cdm17 ctm17) ["state", "box"] (spOn K) := ok_on Fseal_on B
  have QPl : PlF l.prog w K mg base fm15 _ := ⟨GPi, gplace_in, Fplace_in.kp, bplace_in⟩
  have QWi : WithF l.prog w K mg base fm16 _ := ⟨GWi, gwith_place, Fwith_place.kp, bwith_place⟩
  have QOn : OnF l.prog w K mg base fm17 _ := ⟨GOn, gseal_on, Fseal_on.kp, bseal_on⟩
  have GOLd : FnOk l.prog w K mg base CX0 1 fm18 (PySem.W.fnOf "loads_at" "loads_at" (defArgs sLoads) (defBody sLoads) (defScope sLoads) .none kVm18 dcm18 pmm18 anm18 cdm18 ctm18) ["state", "place"] (spLoads K) := ok_loads Floads_at B
  have OLd : OnceF l.prog w K mg base "loads_at" 1 ["state", "place"] (spLoads K) fm18 _ := ⟨GOLd, gloads_at, Floads_at.kp, bloads_at⟩
  have GHd := ok_held (P := l.prog) (w := w) (mg := mg) (base := base) Fneed_held QPl P2NotHeld
  have QHd : HeldF l.prog w K mg base (ce "NotHeld") fm19 _ := ⟨GHd, gneed_held, Fneed_held.kp, bneed_held⟩
  have GBr := ok_bare (P := l.prog) (w := w) (mg := mg) (base := base) Fneed_bare QHd QOn P2IsSealed
  have QBr : BareF l.prog w K mg base (ce "NotHeld") (ce "IsSealed") fm20 _ := ⟨GBr, gneed_bare, Fneed_bare.kp, bneed_bare⟩
  have GBk := ok_break (P := l.prog) (w := w) (mg := mg) (base := base) Fstate_behind_break QHd QOn QWi P2NotSealed
  have QBk : BreakF l.prog w K mg base (ce "NotHeld") (ce "NotSealed") fm21 _ := ⟨GBk, gstate_behind_break, Fstate_behind_break.kp, bstate_behind_break⟩
  have GSb := ok_behind (P := l.prog) (w := w) (mg := mg) (base := base) Fstate_behind QHd QBr QWi QPl QBk P2NotInside
  have OSb : OnceY l.prog w K mg base "state_behind" 4 ["state", "deed"] (spBehind K ce) fm22 _ := ⟨GSb, gstate_behind, Fstate_behind.kp, bstate_behind⟩
  have GTr0 := ok_true (P := l.prog) (w := w) (mg := mg) (base := base) Fis_true B gis_true bis_true QPl QOn OLd 3
  have OTr0 : OnceF l.prog w K mg base "is_true" 4 ["state", "sight"] (spIs K 3) fm23 _ := ⟨GTr0, gis_true, Fis_true.kp, bis_true⟩
  have GSa := ok_all (P := l.prog) (w := w) (mg := mg) (base := base) Fstate_behind_all B gT Ct OSb
  have OSa : OnceF l.prog w K mg base "state_behind_all" 5 ["state", "deeds"] (spAll K) fm24 _ := ⟨GSa, gstate_behind_all, Fstate_behind_all.kp, bstate_behind_all⟩
  have Gr0 := ok_tinit (P := l.prog) (w := w) (mg := mg) (base := base) Fr0 B TC OSa
  have MT : MkT l.prog w K mg base CR fr0 _ := ⟨Mr, Gr0, gr, br0⟩
  have Gr1 := ok_tend (P := l.prog) (w := w) (mg := mg) (base := base) Fr1 B TC
  have ME : MethT l.prog w K mg base CR "end" 1 ["self", "count"] (spTEnd K CR) fr1 _ := ⟨⟨ar1, ir1, kr1⟩, Gr1, br1, ⟨ar1, ir1, kr1⟩⟩
  have Gr2 := ok_thow (P := l.prog) (w := w) (mg := mg) (base := base) Fr2 B TC z_sum z_divmod OTr0
  have MH : MethT l.prog w K mg base CR "how_often" 5 ["self", "sight", "count"] (spTHow K CR 3) fr2 _ := ⟨⟨ar2, ir2, kr2⟩, Gr2, br2, ⟨ar2, ir2, kr2⟩⟩
  have ODx : OnceX l.prog w K mg base "need_deed" 5 ["house", "deed"] (spNDeed K C ce) fm14 _ := ⟨GDd, gneed_deed, Fneed_deed.kp, bneed_deed⟩
  have GNr := ok_nrdX (P := l.prog) (w := w) (mg := mg) (base := base) Fneed_round B ODx v_MOST_DEEDS gT CtD TInvalidRound xnIInvalidRound
  have ONr : OnceY l.prog w K mg base "need_round" 6 ["house", "deeds"] (spNRdX K C CInvalidRound) fm25 _ := ⟨GNr, gneed_round, Fneed_round.kp, bneed_round⟩
  have ONu : OnceF l.prog w K mg base "is_number" 1 ["value", "limit"] spNum fm0 _ := ⟨GN, gis_number, Fis_number.kp, bis_number⟩
  have GNc := ok_nctX (P := l.prog) (w := w) (mg := mg) (base := base) Fneed_count ONu v_MOST_ROUNDS PInvalidNumber
  have ONc : OnceY l.prog w K mg base "need_count" 2 ["count"] (spNCtX CInvalidNumber) fm26 _ := ⟨(weakN GNc), gneed_count, Fneed_count.kp, bneed_count⟩
  have GRn := ok_rndX (P := l.prog) (w := w) (mg := mg) (base := base) Frounds wc TC ONr ONc MT ME
  have ORn : OnceY l.prog w K mg base "rounds" 8 ["world", "deeds", "count"] (spRndX K C CW CInvalidRound CInvalidNumber) fm27 _ := ⟨GRn, grounds, Frounds.kp, brounds⟩
  have GTn := ok_trdX (P := l.prog) (w := w) (mg := mg) (base := base) Ftrue_rounds wc TC ONr ONc OSi MT MH
  have OTn : OnceY l.prog w K mg base "true_rounds" 8 ["world", "deeds", "sight", "count"] (spTrdX K C CW CInvalidRound CInvalidNumber ce 3) fm28 _ := ⟨GTn, gtrue_rounds, Ftrue_rounds.kp, btrue_rounds⟩
  have GFr := ok_frX (P := l.prog) (w := w) (mg := mg) (base := base) Ffirst_round B wc ONr OSi TC v_MOST_ROUNDS MT OTr0
  have OFr : OnceY l.prog w K mg base "first_round" 8 ["world", "deeds", "sight"] (spFrX K C CW CInvalidRound ce 3) fm29 _ := ⟨GFr, gfirst_round, Ffirst_round.kp, bfirst_round⟩
  have GW0 : FnOk l.prog w K mg base CX0 1 fv0 _ ["self", "house"] (spWInit K C CW) := ok_winit Fv0 hc wc
  have WM : WMk l.prog w K mg base C CW fv0 _ := ⟨Mv, GW0, gv, bv0⟩
  have GOMi : FnOk l.prog w K mg base CX0 1 fm30 (PySem.W.fnOf "_law_mix" "_law_mix" (defArgs sMix) (defBody sMix) (defScope sMix) .none kVm30 dcm30 pmm30 anm30 cdm30 ctm30) ["_law_script", "_law_seed"] (spMix K) := ok_mix F_law_mix B
  have OMi : OnceF l.prog w K mg base "_law_mix" 1 ["_law_script", "_law_seed"] (spMix K) fm30 _ := ⟨GOMi, g_law_mix, F_law_mix.kp, b_law_mix⟩
  have GONx : FnOk l.prog w K mg base CX0 1 fm31 (PySem.W.fnOf "_law_next" "_law_next" (defArgs sNx) (defBody sNx) (defScope sNx) .none kVm31 dcm31 pmm31 anm31 cdm31 ctm31) ["_law_h", "_law_limit"] (spNx) := ok_nx F_law_next B z_max
  have ONx : OnceF l.prog w K mg base "_law_next" 1 ["_law_h", "_law_limit"] (spNx) fm31 _ := ⟨GONx, g_law_next, F_law_next.kp, b_law_next⟩
  have GDn := ok_drn (P := l.prog) (w := w) (mg := mg) (base := base) F_law_drawn B ONx
  have ODn : OnceF l.prog w K mg base "_law_drawn" 2 ["_law_h", "_law_most"] (spDrn K) fm33 _ := ⟨GDn, g_law_drawn, F_law_drawn.kp, b_law_drawn⟩
  have GHm := ok_hsm (P := l.prog) (w := w) (mg := mg) (base := base) F_law_house Mh GH gh bh0
  have OHm : OnceF l.prog w K mg base "_law_house" 7 ["_law_drawn_here"] (spHsM K C) fm34 _ := ⟨GHm, g_law_house, F_law_house.kp, b_law_house⟩
  have GOIt : FnOk l.prog w K mg base CX0 1 fm32 (PySem.W.fnOf "_law_items" "_law_items" (defArgs sItm) (defBody sItm) (defScope sItm) .none kVm32 dcm32 pmm32 anm32 cdm32 ctm32) ["_law_house_here"] (spItm K) := ok_itm F_law_items B
  have OIt : OnceF l.prog w K mg base "_law_items" 1 ["_law_house_here"] (spItm K) fm32 _ := ⟨GOIt, g_law_items, F_law_items.kp, b_law_items⟩
  have GKn := ok_knN (P := l.prog) (w := w) (mg := mg) (base := base) F_law_known B z_sorted OIt
  have OKn : OnceF l.prog w K mg base "_law_known" 2 ["_law_drawn_here", "_law_hands"] (spKnN K) fm35 _ := ⟨GKn, g_law_known, F_law_known.kp, b_law_known⟩
  have GAl := ok_alD (P := l.prog) (w := w) (mg := mg) (base := base) F_law_alike B z_dict g_law_alike b_law_alike 5
  have OAl : OnceF l.prog w K mg base "_law_alike" 5 ["_law_found", "_law_due"] (spAlD K 5) fm36 _ := ⟨GAl, g_law_alike, F_law_alike.kp, b_law_alike⟩
  have FK : FailK K mg fm37 ocm37 kVm37 dcm37 pmm37 cdm37 ctm37 anm37 odm37 slm37 := ⟨g_law_fail, F_law_fail.kp, lm37, cm37, b_law_fail⟩
  have FB1 : FailC K mg (ce "UnknownBox") CT false false true := by rw [vUnknownBox]; exact FB0
  have LF : LawK l.prog w K mg base C CW CInvalidRound CInvalidNumber CT ce := { MI := ⟨_, _, OMi⟩, NX := ⟨_, _, ONx⟩, DN := ⟨_, _, ODn⟩, HM := ⟨_, _, OHm⟩, KN := ⟨_, _, OKn⟩, AL := ⟨_, _, OAl⟩, RN := ⟨_, _, ORn⟩, TN := ⟨_, _, OTn⟩, FR := ⟨_, _, OFr⟩, FA := ⟨_, _, _, _, _, _, _, _, _, _, FK⟩, WM := ⟨_, _, WM⟩, WC := wc, mW := gT, cR := FR0, cN := FN0, cB := FB1 }
  exact ok_l41 LF B TB lL cL
end Kw

set_option Elab.async false
set_option linter.all false
open PySem PySem.W PyProof.Rows
set_option maxRecDepth 100000 in
set_option maxHeartbeats 0 in
theorem PySem.Challenge.cw_sealwatch_k41_rounds_refused_holds : PySem.Challenge.rw_sealwatch_k41_rounds_refused.Holds := by
  w_on; o_law; k_head; (case hw => w_witness2)
  k_fill
  refine LamX.walk_ofTs (l := PySem.Challenge.rw_sealwatch_k41_rounds_refused) (n := 63) (k := 13) (CX := fun _ => L2.CX0) (x := "_law_script") rfl (by decide) rfl ⟨rfl, by decide, by decide⟩ (fun w h Y => PySem.W.km_in_of Y) ?F (fun _ _ _ _ _ z => z)
  case F =>
    intro w mg fa h Y KX G hmg
    refine' Kw.all_mk (tb := 614) KX G hmg ?chn ?cht ?xtp ?xtop ?hC ?hpg ?hhd ?hpo ?hsa ?hmk ?hkc ?hha ?hhm ?hkk ?hn_hands ?hn_boxes ?hn_things ?hn_seals ?hn_state ?vC ?vpg ?vhd ?vpo ?vsa ?vmk ?vkc ?vn_house ?vn_state ?rC ?rpg ?rhd ?rpo ?rsa ?rmk ?rkc ?rn_states ?rn_stop ?rn_again ?aCT ?wbe ?wcl ?wty ?nInvalidHouse ?xLInvalidHouse ?xvInvalidHouse ?xaInvalidHouse ?xsaInvalidHouse ?xexInvalidHouse ?xtyInvalidHouse ?xkcInvalidHouse ?xveInvalidHouse ?xseInvalidHouse ?xnPInvalidHouse ?xnIInvalidHouse ?xiInvalidHouse ?xitInvalidHouse ?xilInvalidHouse ?xicInvalidHouse ?xclInvalidHouse ?xcfInvalidHouse ?xffInvalidHouse ?xccInvalidHouse ?nUnknownHand ?eexUnknownHand ?ekpUnknownHand ?esbUnknownHand ?etyUnknownHand ?nUnknownItem ?eexUnknownItem ?ekpUnknownItem ?esbUnknownItem ?etyUnknownItem ?nUnknownBox ?eexUnknownBox ?ekpUnknownBox ?esbUnknownBox ?etyUnknownBox ?nUnknownSeal ?eexUnknownSeal ?ekpUnknownSeal ?esbUnknownSeal ?etyUnknownSeal ?nInsideItself ?eexInsideItself ?ekpInsideItself ?esbInsideItself ?etyInsideItself ?nNotHeld ?eexNotHeld ?ekpNotHeld ?esbNotHeld ?etyNotHeld ?nIsSealed ?eexIsSealed ?ekpIsSealed ?esbIsSealed ?etyIsSealed ?nNotSealed ?eexNotSealed ?ekpNotSealed ?esbNotSealed ?etyNotSealed ?nNotInside ?eexNotInside ?ekpNotInside ?esbNotInside ?etyNotInside ?ewsuNotHeld ?ewsuIsSealed ?ewsuNotSealed ?ewsuNotInside ?j_MOST_HANDS ?j_MOST_BOXES ?j_MOST_THINGS ?j_MOST_SEALS ?j_MOST_DEEDS ?j_MOST_ROUNDS ?pA ?pL ?pK ?p0 ?p1 ?p2 ?am0 ?lm0 ?cm0 ?km0 ?am1 ?lm1 ?cm1 ?km1 ?am2 ?lm2 ?cm2 ?km2 ?am3 ?lm3 ?cm3 ?km3 ?am4 ?lm4 ?cm4 ?km4 ?am5 ?lm5 ?cm5 ?km5 ?am6 ?lm6 ?cm6 ?km6 ?am7 ?lm7 ?cm7 ?km7 ?am8 ?lm8 ?cm8 ?km8 ?am9 ?lm9 ?cm9 ?km9 ?am10 ?lm10 ?cm10 ?km10 ?am11 ?lm11 ?cm11 ?km11 ?am12 ?lm12 ?cm12 ?km12 ?am13 ?lm13 ?cm13 ?km13 ?am14 ?lm14 ?cm14 ?km14 ?am15 ?lm15 ?cm15 ?km15 ?am16 ?lm16 ?cm16 ?km16 ?am17 ?lm17 ?cm17 ?km17 ?am18 ?lm18 ?cm18 ?km18 ?am19 ?lm19 ?cm19 ?km19 ?am20 ?lm20 ?cm20 ?km20 ?am21 ?lm21 ?cm21 ?km21 ?am22 ?lm22 ?cm22 ?km22 ?am23 ?lm23 ?cm23 ?km23 ?am24 ?lm24 ?cm24 ?km24 ?am25 ?lm25 ?cm25 ?km25 ?am26 ?lm26 ?cm26 ?km26 ?am27 ?lm27 ?cm27 ?km27 ?am28 ?lm28 ?cm28 ?km28 ?am29 ?lm29 ?cm29 ?km29 ?ah0 ?lh0 ?ch0 ?kh0 ?ih0 ?ah1 ?lh1 ?ch1 ?kh1 ?ih1 ?av0 ?lv0 ?cv0 ?kv0 ?iv0 ?ar0 ?lr0 ?cr0 ?kr0 ?ir0 ?ar1 ?lr1 ?cr1 ?kr1 ?ir1 ?ar2 ?lr2 ?cr2 ?kr2 ?ir2 ?nInvalidNumber ?eexInvalidNumber ?ekpInvalidNumber ?esbInvalidNumber ?etyInvalidNumber ?nInvalidRound ?xLInvalidRound ?xvInvalidRound ?xaInvalidRound ?xsaInvalidRound ?xexInvalidRound ?xtyInvalidRound ?xkcInvalidRound ?xveInvalidRound ?xseInvalidRound ?xnPInvalidRound ?xnIInvalidRound ?xiInvalidRound ?xitInvalidRound ?xilInvalidRound ?xicInvalidRound ?xclInvalidRound ?xcfInvalidRound ?xffInvalidRound ?xccInvalidRound ?ewsuUnknownHand ?ewsuUnknownItem ?ewsuUnknownBox ?ewsuUnknownSeal ?ewsuInsideItself ?ewsuInvalidNumber ?ewsuInvalidRound ?egaInvalidRound ?eggInvalidRound ?ehdInvalidRound ?ehaInvalidRound ?ehmInvalidRound ?qInvalidRound_InvalidRound ?qInvalidRound_InvalidNumber ?qInvalidRound_UnknownBox ?egaInvalidNumber ?eggInvalidNumber ?ehdInvalidNumber ?ehaInvalidNumber ?ehmInvalidNumber ?enIInvalidNumber ?qInvalidNumber_InvalidRound ?qInvalidNumber_InvalidNumber ?qInvalidNumber_UnknownBox ?egaUnknownBox ?eggUnknownBox ?ehdUnknownBox ?ehaUnknownBox ?ehmUnknownBox ?enIUnknownBox ?qUnknownBox_InvalidRound ?qUnknownBox_InvalidNumber ?qUnknownBox_UnknownBox ?am30 ?lm30 ?cm30 ?km30 ?am31 ?lm31 ?cm31 ?km31 ?am32 ?lm32 ?cm32 ?km32 ?am33 ?lm33 ?cm33 ?km33 ?am34 ?lm34 ?cm34 ?km34 ?am35 ?lm35 ?cm35 ?km35 ?am36 ?lm36 ?cm36 ?km36 ?am37 ?lm37 ?cm37 ?km37 ?zisinstance ?zint ?zbool ?zlen ?zenumerate ?ztuple ?zlist ?zrange ?zstr ?zsuper ?zsorted ?zmax ?zdict ?zsum ?zdivmod ?aL ?lL ?cL ?hcd ?ntb ?hT
    (case chn => k_is)
    (case cht => k_is)
    (case xtp => k_is)
    (case xtop => first | rfl | kernel_rfl | decide +kernel)
    (case hC => k_is)
    (case hpg => k_is)
    (case hhd => k_is)
    (case hpo => k_is)
    (case hsa => k_is)
    (case hmk => k_is)
    (case hkc => k_is)
    (case hha => k_is)
    (case hhm => k_is)
    (case hkk => kit_is)
    (case hn_hands => k_is)
    (case hn_boxes => k_is)
    (case hn_things => k_is)
    (case hn_seals => k_is)
    (case hn_state => k_is)
    (case vC => k_is)
    (case vpg => k_is)
    (case vhd => k_is)
    (case vpo => k_is)
    (case vsa => k_is)
    (case vmk => k_is)
    (case vkc => k_is)
    (case vn_house => k_is)
    (case vn_state => k_is)
    (case rC => k_is)
    (case rpg => k_is)
    (case rhd => k_is)
    (case rpo => k_is)
    (case rsa => k_is)
    (case rmk => k_is)
    (case rkc => k_is)
    (case rn_states => k_is)
    (case rn_stop => k_is)
    (case rn_again => k_is)
    (case aCT => k_is)
    (case wbe => k_is)
    (case wcl => k_is)
    (case wty => k_is)
    (case nInvalidHouse => k_is)
    (case xLInvalidHouse => k_is)
    (case xvInvalidHouse => first | rfl | kernel_rfl | decide +kernel)
    (case xaInvalidHouse => first | rfl | kernel_rfl | decide +kernel)
    (case xsaInvalidHouse => k_is)
    (case xexInvalidHouse => k_is)
    (case xtyInvalidHouse => k_is)
    (case xkcInvalidHouse => k_is)
    (case xveInvalidHouse => k_is)
    (case xseInvalidHouse => k_is)
    (case xnPInvalidHouse => k_is)
    (case xnIInvalidHouse => k_is)
    (case xiInvalidHouse => k_is)
    (case xitInvalidHouse => k_is)
    (case xilInvalidHouse => k_is)
    (case xicInvalidHouse => k_is)
    (case xclInvalidHouse => k_is)
    (case xcfInvalidHouse => first | rfl | kernel_rfl | decide +kernel)
    (case xffInvalidHouse => first | rfl | kernel_rfl | decide +kernel)
    (case xccInvalidHouse => k_is)
    (case nUnknownHand => k_is)
    (case eexUnknownHand => first | rfl | kernel_rfl | decide +kernel)
    (case ekpUnknownHand => k_is)
    (case esbUnknownHand => k_is)
    (case etyUnknownHand => k_is)
    (case nUnknownItem => k_is)
    (case eexUnknownItem => first | rfl | kernel_rfl | decide +kernel)
    (case ekpUnknownItem => k_is)
    (case esbUnknownItem => k_is)
    (case etyUnknownItem => k_is)
    (case nUnknownBox => k_is)
    (case eexUnknownBox => first | rfl | kernel_rfl | decide +kernel)
    (case ekpUnknownBox => k_is)
    (case esbUnknownBox => k_is)
    (case etyUnknownBox => k_is)
    (case nUnknownSeal => k_is)
    (case eexUnknownSeal => first | rfl | kernel_rfl | decide +kernel)
    (case ekpUnknownSeal => k_is)
    (case esbUnknownSeal => k_is)
    (case etyUnknownSeal => k_is)
    (case nInsideItself => k_is)
    (case eexInsideItself => first | rfl | kernel_rfl | decide +kernel)
    (case ekpInsideItself => k_is)
    (case esbInsideItself => k_is)
    (case etyInsideItself => k_is)
    (case nNotHeld => k_is)
    (case eexNotHeld => first | rfl | kernel_rfl | decide +kernel)
    (case ekpNotHeld => k_is)
    (case esbNotHeld => k_is)
    (case etyNotHeld => k_is)
    (case nIsSealed => k_is)
    (case eexIsSealed => first | rfl | kernel_rfl | decide +kernel)
    (case ekpIsSealed => k_is)
    (case esbIsSealed => k_is)
    (case etyIsSealed => k_is)
    (case nNotSealed => k_is)
    (case eexNotSealed => first | rfl | kernel_rfl | decide +kernel)
    (case ekpNotSealed => k_is)
    (case esbNotSealed => k_is)
    (case etyNotSealed => k_is)
    (case nNotInside => k_is)
    (case eexNotInside => first | rfl | kernel_rfl | decide +kernel)
    (case ekpNotInside => k_is)
    (case esbNotInside => k_is)
    (case etyNotInside => k_is)
    (case ewsuNotHeld => k_is)
    (case ewsuIsSealed => k_is)
    (case ewsuNotSealed => k_is)
    (case ewsuNotInside => k_is)
    (case j_MOST_HANDS => k_is)
    (case j_MOST_BOXES => k_is)
    (case j_MOST_THINGS => k_is)
    (case j_MOST_SEALS => k_is)
    (case j_MOST_DEEDS => k_is)
    (case j_MOST_ROUNDS => k_is)
    (case pA => k_is)
    (case pL => k_is)
    (case pK => first | exact ⟨⟨_, _, rfl, rfl⟩, ⟨_, _, rfl, rfl⟩, ⟨_, _, rfl, rfl⟩, trivial⟩ | decide +kernel)
    (case p0 => k_is)
    (case p1 => k_is)
    (case p2 => k_is)
    (case am0 => k_is)
    (case lm0 => k_is)
    (case cm0 => k_is)
    (case km0 => k_is)
    (case am1 => k_is)
    (case lm1 => k_is)
    (case cm1 => k_is)
    (case km1 => k_is)
    (case am2 => k_is)
    (case lm2 => k_is)
    (case cm2 => k_is)
    (case km2 => k_is)
    (case am3 => k_is)
    (case lm3 => k_is)
    (case cm3 => k_is)
    (case km3 => k_is)
    (case am4 => k_is)
    (case lm4 => k_is)
    (case cm4 => k_is)
    (case km4 => k_is)
    (case am5 => k_is)
    (case lm5 => k_is)
    (case cm5 => k_is)
    (case km5 => k_is)
    (case am6 => k_is)
    (case lm6 => k_is)
    (case cm6 => k_is)
    (case km6 => k_is)
    (case am7 => k_is)
    (case lm7 => k_is)
    (case cm7 => k_is)
    (case km7 => k_is)
    (case am8 => k_is)
    (case lm8 => k_is)
    (case cm8 => k_is)
    (case km8 => k_is)
    (case am9 => k_is)
    (case lm9 => k_is)
    (case cm9 => k_is)
    (case km9 => k_is)
    (case am10 => k_is)
    (case lm10 => k_is)
    (case cm10 => k_is)
    (case km10 => k_is)
    (case am11 => k_is)
    (case lm11 => k_is)
    (case cm11 => k_is)
    (case km11 => k_is)
    (case am12 => k_is)
    (case lm12 => k_is)
    (case cm12 => k_is)
    (case km12 => k_is)
    (case am13 => k_is)
    (case lm13 => k_is)
    (case cm13 => k_is)
    (case km13 => k_is)
    (case am14 => k_is)
    (case lm14 => k_is)
    (case cm14 => k_is)
    (case km14 => k_is)
    (case am15 => k_is)
    (case lm15 => k_is)
    (case cm15 => k_is)
    (case km15 => k_is)
    (case am16 => k_is)
    (case lm16 => k_is)
    (case cm16 => k_is)
    (case km16 => k_is)
    (case am17 => k_is)
    (case lm17 => k_is)
    (case cm17 => k_is)
    (case km17 => k_is)
    (case am18 => k_is)
    (case lm18 => k_is)
    (case cm18 => k_is)
    (case km18 => k_is)
    (case am19 => k_is)
    (case lm19 => k_is)
    (case cm19 => k_is)
    (case km19 => k_is)
    (case am20 => k_is)
    (case lm20 => k_is)
    (case cm20 => k_is)
    (case km20 => k_is)
    (case am21 => k_is)
    (case lm21 => k_is)
    (case cm21 => k_is)
    (case km21 => k_is)
    (case am22 => k_is)
    (case lm22 => k_is)
    (case cm22 => k_is)
    (case km22 => k_is)
    (case am23 => k_is)
    (case lm23 => k_is)
    (case cm23 => k_is)
    (case km23 => k_is)
    (case am24 => k_is)
    (case lm24 => k_is)
    (case cm24 => k_is)
    (case km24 => k_is)
    (case am25 => k_is)
    (case lm25 => k_is)
    (case cm25 => k_is)
    (case km25 => k_is)
    (case am26 => k_is)
    (case lm26 => k_is)
    (case cm26 => k_is)
    (case km26 => k_is)
    (case am27 => k_is)
    (case lm27 => k_is)
    (case cm27 => k_is)
    (case km27 => k_is)
    (case am28 => k_is)
    (case lm28 => k_is)
    (case cm28 => k_is)
    (case km28 => k_is)
    (case am29 => k_is)
    (case lm29 => k_is)
    (case cm29 => k_is)
    (case km29 => k_is)
    (case ah0 => k_is)
    (case lh0 => k_is)
    (case ch0 => k_is)
    (case kh0 => k_is)
    (case ih0 => k_is)
    (case ah1 => k_is)
    (case lh1 => k_is)
    (case ch1 => k_is)
    (case kh1 => k_is)
    (case ih1 => k_is)
    (case av0 => k_is)
    (case lv0 => k_is)
    (case cv0 => k_is)
    (case kv0 => k_is)
    (case iv0 => k_is)
    (case ar0 => k_is)
    (case lr0 => k_is)
    (case cr0 => k_is)
    (case kr0 => k_is)
    (case ir0 => k_is)
    (case ar1 => k_is)
    (case lr1 => k_is)
    (case cr1 => k_is)
    (case kr1 => k_is)
    (case ir1 => k_is)
    (case ar2 => k_is)
    (case lr2 => k_is)
    (case cr2 => k_is)
    (case kr2 => k_is)
    (case ir2 => k_is)
    (case nInvalidNumber => k_is)
    (case eexInvalidNumber => first | rfl | kernel_rfl | decide +kernel)
    (case ekpInvalidNumber => k_is)
    (case esbInvalidNumber => k_is)
    (case etyInvalidNumber => k_is)
    (case nInvalidRound => k_is)
    (case xLInvalidRound => k_is)
    (case xvInvalidRound => first | rfl | kernel_rfl | decide +kernel)
    (case xaInvalidRound => first | rfl | kernel_rfl | decide +kernel)
    (case xsaInvalidRound => k_is)
    (case xexInvalidRound => k_is)
    (case xtyInvalidRound => k_is)
    (case xkcInvalidRound => k_is)
    (case xveInvalidRound => k_is)
    (case xseInvalidRound => k_is)
    (case xnPInvalidRound => k_is)
    (case xnIInvalidRound => k_is)
    (case xiInvalidRound => k_is)
    (case xitInvalidRound => k_is)
    (case xilInvalidRound => k_is)
    (case xicInvalidRound => k_is)
    (case xclInvalidRound => k_is)
    (case xcfInvalidRound => first | rfl | kernel_rfl | decide +kernel)
    (case xffInvalidRound => first | rfl | kernel_rfl | decide +kernel)
    (case xccInvalidRound => k_is)
    (case ewsuUnknownHand => k_is)
    (case ewsuUnknownItem => k_is)
    (case ewsuUnknownBox => k_is)
    (case ewsuUnknownSeal => k_is)
    (case ewsuInsideItself => k_is)
    (case ewsuInvalidNumber => k_is)
    (case ewsuInvalidRound => k_is)
    (case egaInvalidRound => k_is)
    (case eggInvalidRound => k_is)
    (case ehdInvalidRound => k_is)
    (case ehaInvalidRound => k_is)
    (case ehmInvalidRound => k_is)
    (case qInvalidRound_InvalidRound => kit_is)
    (case qInvalidRound_InvalidNumber => kit_is)
    (case qInvalidRound_UnknownBox => kit_is)
    (case egaInvalidNumber => k_is)
    (case eggInvalidNumber => k_is)
    (case ehdInvalidNumber => k_is)
    (case ehaInvalidNumber => k_is)
    (case ehmInvalidNumber => k_is)
    (case enIInvalidNumber => k_is)
    (case qInvalidNumber_InvalidRound => kit_is)
    (case qInvalidNumber_InvalidNumber => kit_is)
    (case qInvalidNumber_UnknownBox => kit_is)
    (case egaUnknownBox => k_is)
    (case eggUnknownBox => k_is)
    (case ehdUnknownBox => k_is)
    (case ehaUnknownBox => k_is)
    (case ehmUnknownBox => k_is)
    (case enIUnknownBox => k_is)
    (case qUnknownBox_InvalidRound => kit_is)
    (case qUnknownBox_InvalidNumber => kit_is)
    (case qUnknownBox_UnknownBox => kit_is)
    (case am30 => k_is)
    (case lm30 => k_is)
    (case cm30 => k_is)
    (case km30 => k_is)
    (case am31 => k_is)
    (case lm31 => k_is)
    (case cm31 => k_is)
    (case km31 => k_is)
    (case am32 => k_is)
    (case lm32 => k_is)
    (case cm32 => k_is)
    (case km32 => k_is)
    (case am33 => k_is)
    (case lm33 => k_is)
    (case cm33 => k_is)
    (case km33 => k_is)
    (case am34 => k_is)
    (case lm34 => k_is)
    (case cm34 => k_is)
    (case km34 => k_is)
    (case am35 => k_is)
    (case lm35 => k_is)
    (case cm35 => k_is)
    (case km35 => k_is)
    (case am36 => k_is)
    (case lm36 => k_is)
    (case cm36 => k_is)
    (case km36 => k_is)
    (case am37 => k_is)
    (case lm37 => k_is)
    (case cm37 => k_is)
    (case km37 => k_is)
    (case zisinstance => k_is)
    (case zint => k_is)
    (case zbool => k_is)
    (case zlen => k_is)
    (case zenumerate => k_is)
    (case ztuple => k_is)
    (case zlist => k_is)
    (case zrange => k_is)
    (case zstr => k_is)
    (case zsuper => k_is)
    (case zsorted => k_is)
    (case zmax => k_is)
    (case zdict => k_is)
    (case zsum => k_is)
    (case zdivmod => k_is)
    (case aL => k_is)
    (case lL => k_is)
    (case cL => k_is)
    (case hcd => first | rfl | kernel_rfl | decide +kernel)
    (case ntb => first | rfl | kernel_rfl | decide +kernel)
    (case hT => exact PySem.W.km_tabs_of Y 614 (by decide))
#print axioms PySem.Challenge.cw_sealwatch_k41_rounds_refused_holds
