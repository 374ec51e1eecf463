import PyProof.Rows.All
import Wide.All
import OpenK.AllK
import Wide.FinOn
import PyProof.EqAt
import PyProof.EqKinds
import PyProof.TupleCall
import KE.KExcSuper
import HandS.Base
import HandS.Call
import HandS.List
import HandS.Ends
import HandS.Exc
import HandS.ExcInit
import KE.GoesMore
import HandS.Iter
import KE.KIsAll
import KE.KTryMore
import HandS.ExcIs
import HandS.Deep
import HandS.Words
import HandS.Strs
import HandS.ForExc
import HandS.Comp
import HandS.FStr
import HandS.Property
import HandS.IsInst
import HandS.TupAny
import HandS.RaiseMore
import PySem.Challenge.RW_sealwatch_k04_logs_validated
import HandS.StrMore
import HandS.Lambda
import HandS.ExcField
import PyProof.Rows.MatchSeqLen
import HandS.FStrTup
import HandS.Sort
import HandS.TupLe
import PyProof.P3Eq
import KE.KSortTup
import KE.KCallOwn
import HandS.TryOnly
import HandS.Conv
import PyProof.FString5
import HandS.SortRule
import HandS.SortOrd
import HandS.More
import HandS.EndTab
import HandS.ExcCtx
import HandS.Hot
import HandS.HotCalls
import HandS.SuiteRaise
import HandS.RaiseFrom
import HandS.ExcInitHot
import KE.KOpsOwn
import HandS.SetFor
set_option Elab.async false
set_option linter.all false
set_option maxRecDepth 100000
set_option maxHeartbeats 4000000
/-! An own exception class (over own classes over ValueError) whose `__init__` begins with `super().__init__(text)` and then stores fields: its promise (FnOk), so that pmk_oex serves it. -/
namespace Kw
open PySem PySem.Spec PyProof.Rows L2

/-- the scope of such an __init__: parameters alone, the class's cell, the name super -/
structure SupScope (N : List Str) (sc : Scope) : Prop where
  kind : sc.kind = .function
  co : sc.isCoroutine = false
  gen : sc.isGenerator = false
  nd : N.Nodup
  par : ∀ x ∈ N, sc.names.lookup x = some .local
  nocell : ∀ y ∈ sc.names, y.2 ≠ .cell
  onlyFree : ∀ y, sc.names.lookup y = some .free → y = ("__class__" : Str)
  cls : sc.names.lookup ("__class__" : Str) = some .free
  sup : sc.names.lookup ("super" : Str) = some .globalImplicit

abbrev sEnv (qual : Str) (scope : Scope) (L f : Addr) (cd : Value) (cc : Addr) : Env := PySem.W.ksEnv qual scope L f cd cc

/-- the context of the body -/
def supCx (CX : CXT) (P : Program) (w : World) (K : PySem.W.Frag) (mg : Str → Option Value) (base : Heap) (N : List Str) (qual : Str) (scope : Scope) (f : Addr) (cd : Value) (cc : Addr) (A : Around) (outer : List Env) (s : Shared) (H : Hp) (E : XK) : Cx where
  prog := P
  w := w
  K := K
  mg := mg
  base := base
  A := A.deeper (sEnv qual scope s.heap.objs.size f cd cc)
  N := N
  s_0 := s
  H_0 := H
  env := sEnv qual scope s.heap.objs.size f cd cc
  outer := outer
  stack := sEnv qual scope s.heap.objs.size f cd cc :: outer
  ex := []
  calm := true
  fn := fun _ => false
  pn := []
  xe := fun e s' => wpAny (model P w) (A.deeper (sEnv qual scope s.heap.objs.size f cd cc)) (leaving (sEnv qual scope s.heap.objs.size f cd cc) e) (fun _ s'' => CX outer H s E e s'') (fun e' s'' => CX outer H s E e' s'') s'

section
variable {CX : CXT} {P : Program} {w : World} {K : PySem.W.Frag} {mg : Str → Option Value} {base : Heap} {N : List Str} {qual : Str} {scope : Scope} {f cc : Addr} {cd : Value} {A : Around} {outer : List Env} {s : Shared} {H : Hp} {E : XK}
theorem sup_start {us : List Value} {vs : List V} {h1 : Heap} {tk : Nat} {D : Addr} {ccl : Value} {ccd : Option Addr} {ccs : Array (Option Value)} (S : SupScope N scope) (hd : A.handled = none) (e0 : Env0 P w K mg base A outer s H) (hl : vs.length = N.length) (r : Vals vs us)
    (hcell : K.lookup cc = some ⟨ccl, ccd, .cell (some (.ref D)), ccs⟩)
    (hns : h1.Ns s.heap.objs.size (fun x => (N.zip us).reverse.lookup x)) (hk : ∀ b o, s.heap.get? b = some o → h1.get? b = some o) :
    Inv (supCx CX P w K mg base N qual scope f cd cc A outer s H E) [] (vs.map some) H { s with heap := h1, toks := tk } := by
  have noA : ∀ b : Addr, b ∉ (supCx CX P w K mg base N qual scope f cd cc A outer s H E).ex := fun b z => absurd (show b ∈ ([] : List Addr) from z) (by simp)
  have KX := e0.mod.kin
  have hcb := KX _ _ hcell
  have cells : ∀ {y c}, (supCx CX P w K mg base N qual scope f cd cc A outer s H E).env.cells.lookup y = some c → y = ("__class__" : Str) ∧ c = cc := fun {y c} h => by
    have h' : List.lookup y [(("__class__" : Str), cc)] = some c := h
    by_cases e : y = ("__class__" : Str)
    · subst e
      have q : List.lookup ("__class__" : Str) [(("__class__" : Str), cc)] = some cc := by simp [List.lookup]
      rw [q] at h'
      exact ⟨rfl, (Option.some.inj h').symm⟩
    · have q : (y == ("__class__" : Str)) = false := by simpa using e
      simp [List.lookup, q] at h'
  refine ⟨⟨e0.mod, S.kind, rfl, rfl, Nat.le_refl _, fun y z c h1 h2 => (cells h1).1.trans (cells h2).1.symm, fun y hy => ?_, fun y c h _ => Bool.noConfusion (show false = true from h), fun _ => hd, Around.frames_deeper e0.frames, .inr ⟨rfl, rfl⟩, fun b z => absurd z (noA b), e0.bs, e0.bsz, fun b _ _ => noA b, fun b z => absurd z (noA b), e0.funs, e0.frf⟩,
    rfl, e0.bare, Un.kept hk, ⟨_, hns, fun i y v h1 h2 h3 => ?_⟩, fun y c h => ?_, e0.hok.fresh (Nat.le_refl _), fun y c h => ?_, fun p hp => absurd (show p ∈ ([] : List (Addr × Obj)) from hp) (by simp), e0.hok.kept hk, ?_⟩
  · have hy : scope.names.lookup y = some .cell ∨ scope.names.lookup y = some .free := hy
    rcases hy with hy | hy
    · exact absurd rfl (S.nocell _ (PySem.mem_of_lookup hy))
    · have e := S.onlyFree y hy
      subst e
      exact ⟨cc, by show List.lookup ("__class__" : Str) [(("__class__" : Str), cc)] = some cc; simp [List.lookup]⟩
  · rw [List.getElem?_map] at h2
    cases e : vs[i]? with
    | none =>
      rw [e] at h2
      cases h2
    | some a =>
      rw [e] at h2
      cases h2
      obtain ⟨u, hu, rv⟩ := r.get e
      have hp : N[i]? = some y := h1
      refine ⟨u, rv, .inl ⟨S.par y (List.mem_of_getElem? hp), ?_⟩⟩
      have hlen := r.length
      -- the place of y in the reversed bindings
      have key : ∀ (N : List Str) (us : List Value) (i : Nat), N.Nodup → N[i]? = some y → us[i]? = some u → (N.zip us).reverse.lookup y = some u := by
        intro N
        induction N with
        | nil => intro us i _ h; simp at h
        | cons n N ih =>
          intro us i nd h1 h2
          cases us with
          | nil => simp at h2
          | cons u0 us =>
            rw [List.zip_cons_cons, List.reverse_cons]
            cases i with
            | zero =>
              simp at h1 h2
              subst h1 h2
              have hn : (N.zip us).reverse.lookup n = none := by
                have hnn := (List.nodup_cons.mp nd).1
                cases q : (N.zip us).reverse.lookup n with
                | none => rfl
                | some z =>
                  have hm := PySem.mem_of_lookup q
                  exact absurd (List.of_mem_zip (List.mem_reverse.mp hm)).1 hnn
              rw [List.lookup_append, hn]
              simp [List.lookup]
            | succ i =>
              have q := ih us i (List.nodup_cons.mp nd).2 (by simpa using h1) (by simpa using h2)
              rw [List.lookup_append, q]
              rfl
      exact key N us i S.nd hp hu
  · obtain ⟨_, rfl⟩ := cells h
    exact ⟨_, _, hk _ _ (e0.bs _ _ hcb).1, rfl⟩
  · obtain ⟨_, rfl⟩ := cells h
    exact (e0.bs _ _ hcb).2
  · show (vs.map some).length = N.length
    rw [List.length_map, hl]
end

/-! ### super().__init__(text) on an exception that is being made -/
/-- what the written part says: the class at C that is made, the class at D in whose body the __init__ stands (here the same) -/
structure SupC (prog : Program) (K : PySem.W.Frag) (mg : Str → Option Value) (C : Addr) : Prop where
  oex : OexC K C
  along : ∃ nm q N bs bm sn sub ab col dd k0 k1 k2 k3 k5, K.lookup C = some (excClassObj nm q C N bs bm true sn sub ab col dd k0 k1 k2 k3 k5 "ValueError.__new__") ∧ PySem.HandSPX.refsVE bm = true ∧
    PySem.W.alongIn K "__init__" ((((Value.ref C :: bm).dropWhile (· != .ref C)).drop 1)) = some (some (.builtin "ValueError.__init__"))
  tp : PySem.W.nsIn K cStatics "thirdparty.any" = some none
  sup : mg "super" = none
  isVE : PySem.W.subIn K (.ref C) (.type "ValueError") = some true
  self : PySem.W.mroIn K C (.ref C) = some true
  htop : (prog.main.scope.names.lookup ("super" : Str)).isSome = false

theorem boot_super : bootBuiltins "super" = some (.type "super") := by first | boot_by_name | rfl | kernel_rfl

section
variable {X : Cx} {pins : List (Addr × Obj)} {σ : L2.St} {H : Hp} {s : Shared} {a C : Addr} {E : Value → Shared → Prop} {A : Around}
/-- the built-in __init__, bound: nothing of it is told -/
theorem bw_ok {us : List Value} {u : Addr} {Q : Value → Shared → Prop} (T : OexC X.K C) (I : Inv X pins σ H s) (e : H a = some (exo a C none)) (hu : s.heap.get? u = some (PySem.W.kxs_mw "ValueError.__init__" a)) (hl : us.length ≤ sizeLine) (h : ∀ s', Inv X pins σ H s' → Q .none s') :
    wpAny (model X.prog X.w) A (call (.ref u) us) Q E s := by
  obtain ⟨nm, q, N, bs, bm, sn, sub, ab, col, dd, k0, k1, k2, k3, k5, hC, hbm⟩ := T.cls
  obtain ⟨t1, ho⟩ := exo_at I.hok e
  have hCk := I.kIn _ _ hC
  obtain ⟨hp, g, d, t, os⟩ := s
  have fin : ∀ h' : Heap, (∀ b o, b ≠ a → hp.get? b = some o → h'.get? b = some o) → h'.get? a = some (PySem.HandSPX.excO C hp.objs.size) → h'.get? hp.objs.size = some (PySem.W.excTup us) → Q .none ⟨h', g, d, t, os⟩ := fun h' k hx _ => by
    have J := I.write (t' := t) (x := a) (e := a) (o := exo a C none) (by rw [e]; exact True.intro) (.inl rfl) k ⟨_, hx⟩ (exo_ok hx)
    have eu : upd H a (exo a C none) = H := by
      funext b
      by_cases hb : b = a
      · rw [hb, upd_same, e]
      · rw [upd_ne hb]
    rw [eu] at J
    exact h _ J
  refine wpAny_call (codeAny_of_tree ?_)
  show wpAny _ A.in1 (callAny (.ref u) ⟨us, []⟩) _ _ _
  simp only [callAny]
  refine wpAny_bind (wpAny_load hu ?_)
  simp only [PySem.W.kxs_mw, show (Value.type "method-wrapper" == Value.type "method" || Value.type "method-wrapper" == Value.type "builtin_function_or_method" || Value.type "method-wrapper" == Value.type "method-wrapper") = true by decide, if_true]
  refine PySem.W.KFB.if_so (by decide) ?_
  refine wpAny_bind (PySem.W.check_bound_init F.excBase_ValueError.toExcCallFacts hCk ho rfl ?_)
  refine wpAny_bind (wpAny_pure (wpAny_pure ?_))
  refine ⟨plainId_quiet F.excBase_ValueError.init.plain _, codeAny_builtin F.excBase_ValueError.initEntry ?_⟩
  exact PySem.W.exc_init_tree (cls := .ref C) (t0 := t1) (dv := none) (c2 := .none) (c3 := .none) (b4 := .bool false) ho hl fin
end

/-! ### the body: super().__init__(e); the rest -/
/-- the reading: e a text, then self is an exception that is being made, then the rest -/
def tSup (C : Addr) (te : TE) (t : TS) : TS := fun D σ H => te σ H fun v H1 => (∃ z, v = .str z) ∧ ∃ a, σ[0]? = some (some (.ref a)) ∧ H1 a = some (exo a C none) ∧ t D σ H1
abbrev supCall (e : Expr) (p0 p1 p2 p3 : Pos) : Expr := .Call (.Attribute (.Call (.Name "super" p0) [] [] p1) "__init__" p2) [e] [] p3
section
variable {CX : CXT} {P : Program} {w : World} {K : PySem.W.Frag} {mg : Str → Option Value} {base : Heap} {k : Nat} {N : List Str} {name qual : Str} {scope : Scope} {params : Arguments} {f cc cda C : Addr} {ar : Arg} {vsC : Array Value} {fileS : Str} {tf : Tok}
  {dV kV doc pm ct oc ccl cl : Value} {an od cdd cld : Option Addr} {osl ccs csl : Array (Option Value)} {e : Expr} {rest : List Stmt} {p0 p1 p2 p3 p4 : Pos} {sp : Sp} {pl : Addr → Sem Bool}
theorem fn_super (T : SupC P K mg C)
    (lk : K.lookup f = some ⟨oc, od, .func (PySem.W.ksFn name qual params (.Expr (supCall e p0 p1 p2 p3) p4 :: rest) scope dV kV doc pm an (.ref cda) ct cc), osl⟩) (hcd : PySem.W.codeIn K (.ref cda) qual = true)
    (hp : (params.posonlyargs ++ params.args).head? = some ar) (hself : N[0]? = some ar.arg)
    (hcode : K.lookup cda = some ⟨ccl, cdd, .fields vsC, ccs⟩) (hvs : vsC[2]? = some (.str fileS tf)) (hfile : ((P.main.file : Str) == fileS) = true)
    (hcell : K.lookup cc = some ⟨cl, cld, .cell (some (.ref C)), csl⟩)
    (S : SupScope N scope) (len : ∀ vs H Q E, sp vs H Q E → vs.length = N.length)
    (hsw : ∀ L, swapsWith (supCall e p0 p1 p2 p3) none p4.line (sEnv qual scope L f (.ref cda) cc) = pure false)
    (hev : ∀ L, eval (supCall e p0 p1 p2 p3) (sEnv qual scope L f (.ref cda) cc) = (do
      let ov ← attributeBase (.Call (.Name "super" p0) [] [] p1) "__init__" (sEnv qual scope L f (.ref cda) cc) (eval (.Call (.Name "super" p0) [] [] p1) (sEnv qual scope L f (.ref cda) cc))
      standAt p2.atName
      let (g, first) ← holding [ov] (getMethod ov "__init__" (pl L))
      callWith p3 g first (backTo p3 (starEach [e] (sEnv qual scope L f (.ref cda) cc))) []))
    (hst : ∀ L, starEach [e] (sEnv qual scope L f (.ref cda) cc) = [(false, eval e (sEnv qual scope L f (.ref cda) cc))])
    (hbody : ∀ (A : Around) (outer : List Env) (s : Shared) (H : Hp) (vs : List V) (Q : VK) (E : XK), Room k (A.deeper (sEnv qual scope s.heap.objs.size f (.ref cda) cc)) → sp vs H Q E →
      ∃ te t, PE (supCx CX P w K mg base N qual scope f (.ref cda) cc A outer s H E) e te ∧ PSs (supCx CX P w K mg base N qual scope f (.ref cda) cc A outer s H E) rest t ∧
        (∃ a, vs[0]? = some (V.ref a) ∧ H a = some (exo a C none)) ∧ tSup C te t { nx := fun _ H' => Q .non H', rt := Q } (vs.map some) H) :
    FnOk P w K mg base CX (k + 1) f (PySem.W.ksFn name qual params (.Expr (supCall e p0 p1 p2 p3) p4 :: rest) scope dV kV doc pm an (.ref cda) ct cc) N sp := by
  refine ⟨len, fun A outer s H args us vs Q E hr e0 hb r hsp => ?_⟩
  have hl := len _ _ _ _ hsp
  have KX : K.In s.heap := e0.mod.kin.keeps fun b o e => (e0.bs b o e).1
  have lim : s.heap.NoLimit := e0.mod.nolimit.keeps fun b o e => (e0.bs b o e).1
  refine PySem.ks_codeAny_call_defAt (binds := N.zip us) hr.depth (KX _ _ lk) rfl lim (PySem.W.codeRec_of KX hcd) rfl hb S.nocell (fun y hy => S.par y.1 (List.of_mem_zip hy).1) (fun h1 hns hk => ?_) S.co S.gen S.kind
  obtain ⟨te, t, pe, pss, ⟨a, hva, hHa⟩, hq⟩ := hbody A outer s H vs Q E (hr.deeper _) hsp
  have I : L2.Inv (supCx CX P w K mg base N qual scope f (.ref cda) cc A outer s H E) [] (vs.map some) H { s with heap := h1, toks := s.toks + (N.zip us).length } := sup_start S hr.hd e0 hl r hcell hns hk
  have fin : ∀ {σ' : L2.St} {H' : Hp} {v : V} {u : Value} {s' : Shared}, L2.Inv (supCx CX P w K mg base N qual scope f (.ref cda) cc A outer s H E) [] σ' H' s' → RelV v u → Q v H' → CE outer P w H s Q u s' :=
    fun {σ' H' v u s'} J rv q => ⟨v, H', J.os, J.bare, J.base, J.hok, rv, q⟩
  show PySem.wpAt _ _ _ (execs _ (sEnv qual scope s.heap.objs.size f (.ref cda) cc)) _ _ _
  refine PySem.ks_wpAt_execs_cons (PySem.ks_wpAt_Expr_any (PySem.ks_wpAt_MethodCall (pl := pl s.heap.objs.size) ?_ (hev _)) I.quiet (hsw _))
  obtain ⟨nm, q, N', bs, bm, sn, sub, ab, col, dd, k0, k1, k2, k3, k5, hC, hbm, hal⟩ := T.along
  have KX1 : K.In h1 := KX.keeps hk
  have hcl : PySem.W.clsIn K C = some { name := nm, bases := bs, mro := .ref C :: bm, ns := N', qualname := q, hasDict := true, slotNames := sn, subclasses := sub, abstract := ab, collection := col, hasDel := false } := by unfold PySem.W.clsIn; rw [hC] <;> rfl
  have e0' : (vs.map some)[0]? = some (some (V.ref a)) := by rw [List.getElem?_map, hva]; rfl
  -- self, a
  obtain ⟨m, hnm, hlm⟩ := id I.loc
  obtain ⟨uS, ruS, lkS⟩ := hlm 0 ar.arg (V.ref a) hself e0' (.inl (S.par _ (List.mem_of_getElem? hself)))
  obtain rfl : uS = Value.ref a := ruS
  have hma : m ar.arg = some (.ref a) := by
    rcases lkS with ⟨_, z⟩ | ⟨z, _⟩
    · exact z
    · have z' : scope.names.lookup ar.arg = some .cell ∨ scope.names.lookup ar.arg = some .free := z
      rw [S.par _ (List.mem_of_getElem? hself)] at z'
      rcases z' with z' | z' <;> cases z'
  obtain ⟨t1, ho⟩ := exo_at I.hok hHa
  obtain ⟨mb, hmb, hmb2⟩ := I.mod.blt
  refine PySem.ks_wpAt_super_base (env := sEnv qual scope s.heap.objs.size f (.ref cda) cc) S.sup S.cls (by decide) rfl (KX1 _ _ lk) rfl hp rfl (KX1 _ _ hcode) rfl hvs hfile T.htop ?_
  refine PySem.W.ks_loadName_global S.kind S.sup (Calls.loadGlobal_builtin (env := sEnv qual scope s.heap.objs.size f (.ref cda) cc) (I.mod.glob.keeps I.bk) T.sup (hmb.keeps I.bk) ((hmb2 _ (by decide +kernel)).trans boot_super) ⟨rfl, ?_⟩)
  refine wpAny_loadName_free S.kind S.cls rfl ⟨_, KX1 _ _ hcell, rfl⟩ ?_
  refine wpAny_loadName_local S.kind (S.par _ (List.mem_of_getElem? hself)) hnm hma ?_
  obtain ⟨oD, hD1, hD2⟩ : ∃ oD, h1.get? C = some oD ∧ oD.data = .cls { name := nm, bases := bs, mro := .ref C :: bm, ns := N', qualname := q, hasDict := true, slotNames := sn, subclasses := sub, abstract := ab, collection := col, hasDel := false } := ⟨_, KX1 _ _ hC, rfl⟩
  refine PySem.ks_wpAny_isType_cls hD1 hD2 ⟨rfl, ?_⟩
  refine PySem.ks_wpAny_call_super hD1 hD2 ho rfl (fun c e => nomatch e) (PySem.W.looks_mroIn KX1 T.self) (fun h2 eso kk => ?_)
  -- the super object stands; its method
  have I2 := I.kept (t' := s.toks + (N.zip us).length) kk
  have KX2 : K.In h2 := KX1.keeps kk
  have ho2 := kk _ _ ho
  have It : PySem.W.InstAt h2 a { cls := .ref C, dict := none, data := .fields #[.ref t1, .none, .none, .none, .bool false, .none] } C none := ⟨ho2, rfl, rfl, trivial⟩
  refine PySem.W.kxs_getMethod PySem.W.kxs_ValueError eso (PySem.W.looks_opaque KX2 T.tp) (l₀ := .ref C :: bm) (fun A Q E s k q => wpAny_bind ((PySem.W.looks_clsIn KX2 hcl) A _ E s k (wpAny_pure q))) rfl KX2 hal (It.type.andThen (PySem.W.looks_subIn KX2 T.isVE)) (PySem.W.ks_ne KX2 It hcl) (by decide) ?_
  have I3 := I2.kept (t' := s.toks + (N.zip us).length + 1) (h' := h2.push (PySem.W.kxs_mw "ValueError.__init__" a)) fun b o e => Heap.get?_push_of_some _ e
  have hu : (h2.push (PySem.W.kxs_mw "ValueError.__init__" a)).get? h2.objs.size = some (PySem.W.kxs_mw "ValueError.__init__" a) := Heap.get?_push_at rfl rfl
  have I4 := I3.pins_of (pins' := [(h2.objs.size, PySem.W.kxs_mw "ValueError.__init__" a)]) (fun p hp => by
    obtain rfl := List.mem_singleton.mp hp
    exact ⟨hu, I2.hok.fresh (Nat.le_refl _), Nat.ne_of_gt I2.lt, I2.nofs (Nat.le_refl _), fun v z => nomatch z⟩)
  show wpAny _ _ (callWith p3 (.ref h2.objs.size) [] (backTo p3 (starEach [e] (sEnv qual scope s.heap.objs.size f (.ref cda) cc))) []) _ _ _
  have pa : PA (supCx CX P w K mg base N qual scope f (.ref cda) cc A outer s H E) [e] (tCons te tNil) := pa_cons pe pa_nil (hst _)
  have ru := pa.run p3 _ _ (vs.map some) H (fun ws H1 => match ws with | [v] => (∃ z, v = .str z) ∧ ∃ a, (vs.map some)[0]? = some (some (.ref a)) ∧ H1 a = some (exo a C none) ∧ t { nx := fun _ H' => Q .non H', rt := Q } (vs.map some) H1 | _ => False) I4 hq
  have ehs : starEach [e] (supCx CX P w K mg base N qual scope f (.ref cda) cc A outer s H E).env = [(false, eval e (sEnv qual scope s.heap.objs.size f (.ref cda) cc))] := hst _
  rw [ehs] at ru
  rw [hst]
  refine PySem.W.kxs_callWith (i := "ValueError.__init__") (x := a) rfl (Calls.evalArgs_plain (thn ru fun ws s5 hw => ?_))
  obtain ⟨vs5, H5, I5, r5, q5⟩ := hw
  have hu5 : s5.heap.get? h2.objs.size = some (PySem.W.kxs_mw "ValueError.__init__" a) := (I5.pin (h2.objs.size, PySem.W.kxs_mw "ValueError.__init__" a) (List.mem_append.mpr (.inr (List.mem_singleton.mpr rfl)))).1
  refine ⟨hu5, ?_⟩
  cases r5 with
  | nil => exact q5.elim
  | @cons v5 u5 vr ur rv rr =>
    cases rr with
    | cons _ _ => exact q5.elim
    | nil =>
      obtain ⟨_, a', ea', hH5, q5⟩ := q5
      have ea : a' = a := by
        have z := ea'.symm.trans e0'
        cases z
        rfl
      subst ea
      refine bw_ok (X := supCx CX P w K mg base N qual scope f (.ref cda) cc A outer s H E) T.oex I5 hH5 hu5 (by show 1 ≤ sizeLine; rw [sizeLine_eq]; decide) fun s6 I6 => ?_
      have I7 : L2.Inv (supCx CX P w K mg base N qual scope f (.ref cda) cc A outer s H E) [] (vs.map some) H5 s6 := I6.unpinned (pins := []) (pl := [(h2.objs.size, PySem.W.kxs_mw "ValueError.__init__" a')])
      show PySem.wpAt _ _ _ (execs rest _) _ _ _
      refine PySem.wpAt_of_wpAny (wpAny_mono (pss.run [] s6 (vs.map some) H5 _ I7 q5) (fun fl s' hs => ?_) fun _ _ x => x)
      cases fl with
      | ret u =>
        obtain ⟨v, σ', H', J, rv, q⟩ := hs
        exact fin J rv q
      | next =>
        obtain ⟨σ', H', J, q⟩ := hs
        exact fin (v := V.non) (u := Value.none) J rfl q
      | brk =>
        obtain ⟨_, _, _, q⟩ := hs
        exact False.elim q
      | cont =>
        obtain ⟨_, _, _, q⟩ := hs
        exact False.elim q
end
end Kw


set_option Elab.async false
set_option linter.all false
set_option maxRecDepth 100000
set_option maxHeartbeats 4000000
/-! More operators: `in` by an own `__contains__`, `==` by an own `__eq__`, enumerate(tuple), `in` over a tuple of data, list.count of bools. -/
namespace Kw
open PySem PySem.Spec PyProof.Rows L2
section
variable {X : Cx} {CX : CXT} {C f : Addr} {fd : FuncData} {k : Nat} {ps : List Str} {sp : Sp} {E : XK}
/-- x in o, o an object of C whose __contains__ keeps sp and gives a bool -/
def rInOwn (C : Addr) (sp : Sp) (E : XK) : R2 := fun x y H Q => ∃ b dx fs, y = .ref b ∧ H b = some (.ins C dx fs) ∧ sp [y, x] H (fun v H' => ∃ k, v = .bl k ∧ Q (.bl k) H') E
def rNotInOwn (C : Addr) (sp : Sp) (E : XK) : R2 := fun x y H Q => ∃ b dx fs, y = .ref b ∧ H b = some (.ins C dx fs) ∧ sp [y, x] H (fun v H' => ∃ k, v = .bl k ∧ Q (.bl (!k)) H') E
theorem op_inOwn (F : FnOk X.prog X.w X.K X.mg X.base CX k f fd ps sp) (hs : PySem.W.findIn X.K (.ref C) "__contains__" = some (some (.ref f))) (hf : PySem.W.isFn X.K (.ref f) = true) (hr : Room k X.A) (hb : Binds X.K fd ps []) (hx : Passes CX X E) :
    OpR X (compareOp .In) (rInOwn C sp E) := by
  intro pins s σ H x y v u Q I rx ry h
  obtain ⟨b, dx, fs, rfl, hH, hsp⟩ := h
  cases ry
  obtain ⟨mA, J, _⟩ := ins_get I.hok hH
  obtain ⟨od, J, _⟩ := J.look
  obtain ⟨m, hF⟩ := I.fr
  refine PySem.W.in_K hF I.ok.mod.kin J hs hf ?_
  refine thn (run_fn (vs := [.ref b, x]) (dvs := []) F hr hb .nil hx I (.cons rfl (.cons rx .nil)) hsp) fun w s1 hw => ?_
  obtain ⟨z, H1, I1, rz, kk, ez, q⟩ := hw
  subst ez
  obtain rfl : w = Value.bool kk := rz
  exact wpAny_truthy_bool ⟨V.bl _, H1, I1, rfl, q⟩
theorem op_notInOwn (F : FnOk X.prog X.w X.K X.mg X.base CX k f fd ps sp) (hs : PySem.W.findIn X.K (.ref C) "__contains__" = some (some (.ref f))) (hf : PySem.W.isFn X.K (.ref f) = true) (hr : Room k X.A) (hb : Binds X.K fd ps []) (hx : Passes CX X E) :
    OpR X (compareOp .NotIn) (rNotInOwn C sp E) := by
  intro pins s σ H x y v u Q I rx ry h
  obtain ⟨b, dx, fs, rfl, hH, hsp⟩ := h
  cases ry
  obtain ⟨mA, J, _⟩ := ins_get I.hok hH
  obtain ⟨od, J, _⟩ := J.look
  obtain ⟨m, hF⟩ := I.fr
  refine PySem.W.notIn_K hF I.ok.mod.kin J hs hf ?_
  refine thn (run_fn (vs := [.ref b, x]) (dvs := []) F hr hb .nil hx I (.cons rfl (.cons rx .nil)) hsp) fun w s1 hw => ?_
  obtain ⟨z, H1, I1, rz, kk, ez, q⟩ := hw
  subst ez
  obtain rfl : w = Value.bool kk := rz
  exact wpAny_truthy_bool ⟨V.bl _, H1, I1, rfl, q⟩
/-- o == p, o and p instances of C whose __eq__ keeps sp and gives a bool -/
def rEqOwn (C : Addr) (sp : Sp) (E : XK) : R2 := fun x y H Q => ∃ a b dx fs dy gs, x = .ref a ∧ y = .ref b ∧ H a = some (.ins C dx fs) ∧ H b = some (.ins C dy gs) ∧ sp [x, y] H (fun v H' => ∃ k, v = .bl k ∧ Q (.bl k) H') E
theorem op_eqOwn (F : FnOk X.prog X.w X.K X.mg X.base CX k f fd ps sp) (hs : PySem.W.findIn X.K (.ref C) "__eq__" = some (some (.ref f))) (hf : PySem.W.isFn X.K (.ref f) = true) (hr : Room k X.A) (hb : Binds X.K fd ps []) (hx : Passes CX X E) :
    OpR X (compareOp .Eq) (rEqOwn C sp E) := by
  intro pins s σ H x y v u Q I rx ry h
  obtain ⟨a, b, dx, fs, dy, gs, rfl, rfl, ha, hb', hsp⟩ := h
  cases rx
  cases ry
  obtain ⟨mA, J, _⟩ := ins_get I.hok ha
  obtain ⟨mB, J', _⟩ := ins_get I.hok hb'
  obtain ⟨od, J, _⟩ := J.look
  obtain ⟨od', J', _⟩ := J'.look
  obtain ⟨m, hF⟩ := I.fr
  show wpAny _ _ (richCompare .Eq (.ref a) (.ref b)) _ _ _
  refine PySem.W.cmp_K (op := .Eq) (tb := .ref C) hr.units0 hF I.ok.mod.kin J J'.type (by simp [PySem.W.notFirst]) hs hf ?_
  refine thn (run_fn (vs := [.ref a, .ref b]) (dvs := []) F hr hb .nil hx I (.cons rfl (.cons rfl .nil)) hsp) fun w s1 hw => ?_
  obtain ⟨z, H1, I1, rz, kk, ez, q⟩ := hw
  subst ez
  obtain rfl : w = Value.bool kk := rz
  exact ⟨V.bl _, H1, I1, rfl, q⟩
end

/-! ### enumerate(tuple) -/
theorem meets_enumerate_newT (l : Addr) (items : Array Value) :
    Meets (Builtin.«enumerate.__new__» ⟨[.type "enumerate", .ref l], []⟩) (fun _ R s => s.heap.IsTuple l items ∧
      R (.ok (.ret (.ref (s.heap.push { cls := .type "tuple_iterator", data := .fields #[.ref l, .int 0 0] }).objs.size)))
        { s with heap := (s.heap.push { cls := .type "tuple_iterator", data := .fields #[.ref l, .int 0 0] }).push { cls := .type "enumerate", data := .fields #[.none, .bool false, .ref s.heap.objs.size, rawInt 0, .none, .none] } }) :=
  .of_wp fun prog w A R s h => by
    obtain ⟨hp, g, d, tk, os⟩ := s; obtain ⟨hL, h⟩ := h
    have hsub := sub_enumerate
    have q1 : ∀ {A' : Around} {E : Value → Shared → Prop} {Q : Value → Shared → Prop}, Q (.ref hp.objs.size) ⟨hp.push { cls := .type "tuple_iterator", data := .fields #[.ref l, .int 0 0] }, g, d, tk, os⟩ → wpAny (model prog w) A' (pyIter (.ref l)) Q E ⟨hp, g, d, tk, os⟩ :=
      fun q => wpAny_pyIter_tuple hL q
    wp_walk using q1
    refine wpAny_stack_any fun st => wpAny_pure ?_
    split
    · rename_i c _ _ _ _ _
      cases (c == Value.type "enumerate")
      · wp_walk using q1
        exact ⟨_, rfl, h⟩
      · wp_walk using q1
        exact ⟨_, rfl, h⟩
    · wp_walk using q1
      exact ⟨_, rfl, h⟩
theorem call_enumerate_tuple {prog : Program} {w : World} {A : Around} {E : Value → Shared → Prop} {s : Shared} {l : Addr} {items : Array Value} {Q : Value → Shared → Prop} (hL : s.heap.IsTuple l items)
    (h : ∀ h', IsEnum h' (s.heap.objs.size + 1) s.heap.objs.size 0 .none → h'.IsTupleIter s.heap.objs.size l 0 → h'.objs.size = s.heap.objs.size + 2 →
      (∀ b o, s.heap.get? b = some o → h'.get? b = some o) → Q (.ref (s.heap.objs.size + 1)) { s with heap := h' }) :
    wpAny (model prog w) A (call (.type "enumerate") [.ref l]) Q E s := by
  refine callType_new F.called_enumerate (by decide) (F.typeCall_enumerate_1 _) (F.newCall_enumerate_1 _) (fun obj => F.args_object_init_2 obj _) F.entry_enumerate_new
    (meets_enumerate_newT l items) ⟨hL, ?_⟩
  have hz : (s.heap.push { cls := .type "tuple_iterator", data := .fields #[.ref l, .int 0 0] }).objs.size = s.heap.objs.size + 1 := Heap.size_push ..
  show _ ∧ _
  rw [hz]
  have he : IsEnum ((s.heap.push { cls := .type "tuple_iterator", data := .fields #[.ref l, .int 0 0] }).push
      { cls := .type "enumerate", data := .fields #[.none, .bool false, .ref s.heap.objs.size, rawInt 0, .none, .none] }) (s.heap.objs.size + 1) s.heap.objs.size 0 .none := by
    have := Heap.get?_push_size (s.heap.push { cls := .type "tuple_iterator", data := .fields #[.ref l, .int 0 0] })
      (o := { cls := .type "enumerate", data := .fields #[.none, .bool false, .ref s.heap.objs.size, rawInt 0, .none, .none] }) rfl
    rw [hz] at this; exact this
  refine ⟨⟨_, he, rfl⟩, h _ he ⟨_, Heap.get?_push_of_some _ (Heap.get?_push_size _ rfl), rfl, rfl⟩ (by rw [Heap.size_push, hz]) fun b o x => Heap.get?_push_of_some _ (Heap.get?_push_of_some _ x)⟩
/-- the tuple at a, each item in a new pair -/
def Itet (K : PySem.W.Frag) (a : Addr) : It :=
  ⟨fun i H => ∃ (xs : List V) (x : V), SqT K H a xs ∧ xs[i]? = some x, fun i H v H' => ∃ T x, v = .ref T ∧ H T = none ∧ H' = upd H T (.tup [.int (i : Nat), x]) ∧ ∀ xs, SqT K H a xs → xs[i]? = some x, fun i H => ∃ xs : List V, SqT K H a xs ∧ xs.length ≤ i⟩
theorem turn_enumT {P : Program} {w : World} {K : PySem.W.Frag} {elts : List Expr} {kk : Nat} {tpos : Pos} (a e it : Addr) :
    Turn P w K (.Tuple elts kk tpos) (Itet K a) [e, it] e (fun i h => (∃ old, IsEnum h e it ((i : Nat) : Int) old) ∧ h.IsTupleIter it a i ∧ e ≠ it) where
  mem := by simp
  obj := fun i h st b hb => by
    obtain ⟨⟨old, he⟩, ⟨o, ho, hc, hd⟩, _⟩ := st
    have e' : b = e ∨ b = it := by simpa using hb
    rcases e' with z | z
    · rw [z]; exact ⟨_, he, fun v q => nomatch q⟩
    · rw [z]; exact ⟨o, ho, fun v q => by rw [hd] at q; cases q⟩
  keep := fun i h h' st k => let ⟨⟨old, he⟩, hi, hne⟩ := st; ⟨⟨old, k e (by simp) _ he⟩, hi.at fun o q => k it (by simp) o q, hne⟩
  item := by
    intro X hP hw hK hc i pins s σ H E I hf st hg
    subst hP hw hK
    obtain ⟨⟨old, he⟩, hit, hne⟩ := st
    obtain ⟨xs, x, hq, hx⟩ := hg
    obtain ⟨its, rv, p, hz⟩ := I.tuple hq
    obtain ⟨u, hu, ru⟩ := rv.get hx
    have hel : e < s.heap.objs.size := Heap.lt_size he
    have hil : it < s.heap.objs.size := by obtain ⟨_, q, _⟩ := hit; exact Heap.lt_size q
    have hat : a ≠ it := fun z => by
      obtain ⟨o1, q1, c1, _⟩ := p
      obtain ⟨o2, q2, c2, _⟩ := hit
      rw [z, q2] at q1
      have q3 := Option.some.inj q1
      subst q3
      rw [c2] at c1
      have c3 : Value.type "tuple_iterator" = Value.type "tuple" := c1
      revert c3
      decide
    have hea : e ≠ a := fun z => by
      obtain ⟨o1, q1, c1, _⟩ := p
      rw [← z] at q1
      have q2 := Option.some.inj (he.symm.trans q1)
      subst q2
      have c3 : Value.type "enumerate" = Value.type "tuple" := c1
      revert c3
      decide
    have hlt : i < its.toArray.size := by
      have z := (List.getElem?_eq_some_iff.mp hu).1
      simpa using z
    refine wpAny_pyNext_enum_itemD (Draws.tuple (prog := X.prog) (w := X.w) (A := X.A.in1) (show X.A.in1.handled = none from I.ok.hd hc) it a hat its.toArray) he ⟨hit, p⟩ hlt hne (by simp [hne, hea]) fun x' h' tk hP ho hst' hT hsz hk => ?_
    have ex : x' = u := by
      have z : its[i]? = some x' := by simpa using hP
      rw [hu] at z
      exact (Option.some.inj z).symm
    subst ex
    refine ⟨_, rfl, wpAny_letOwnedTupleGo_enum (s := { s with heap := h', toks := tk + 1 }) ho fun h'' he' sb => ?_⟩
    have hT2 : h''.get? s.heap.objs.size = some { cls := .type "tuple", data := .seq #[.int i tk, x'] } := (sb.2 _ (Nat.ne_of_gt hel)).trans hT
    have new : ObjOk X.prog X.w (upd H s.heap.objs.size (.tup [.int (i : Nat), x])) h'' s.heap.objs.size (.tup [.int (i : Nat), x]) :=
      ⟨by show 2 ≤ sizeLine; decide, [.int i tk, x'], .cons ⟨_, rfl⟩ (.cons ru .nil), ⟨_, hT2, rfl, _, rfl⟩⟩
    have I1 : L2.Inv X pins σ (upd H s.heap.objs.size (.tup [.int (i : Nat), x])) { s with heap := h'', toks := tk + 1 } :=
      I.turnedNew (ch := [e, it]) (fun b ob hb q => (sb.2 b (fun z => hb (by simp [z]))).trans (hk b ob (fun z => hb (by simp [z])) (fun z => hb (by simp [z])) q)) hf (Nat.le_refl _) new
    refine ⟨.ref s.heap.objs.size, _, I1, rfl, ⟨_, x, rfl, I.hok.fresh (Nat.le_refl _), rfl, fun ys hy => by rw [I.tuple_inj hy hq]; exact hx⟩, ⟨⟨x', ?_⟩, hst'.1.at fun o q => (sb.2 it (Ne.symm hne)).trans q, hne⟩, fun b hb => ?_⟩
    · have e1 : ((i + 1 : Nat) : Int) = (i : Int) + 1 := by omega
      rw [e1]; exact he'
    · have hb' : b < s.heap.objs.size := by
        have e' : b = e ∨ b = it := by simpa using hb
        rcases e' with z | z
        · rw [z]; exact hel
        · rw [z]; exact hil
      rw [upd_ne (Nat.ne_of_lt hb')]
      exact (hf b hb).1
  done := by
    intro X hP hw hK hc i pins s σ H E I hf st hg
    subst hP hw hK
    obtain ⟨⟨old, he⟩, hit, hne⟩ := st
    obtain ⟨xs, hq, hx⟩ := hg
    obtain ⟨its, rv, p, hz⟩ := I.tuple hq
    have hat : a ≠ it := fun z => by
      obtain ⟨o1, q1, c1, _⟩ := p
      obtain ⟨o2, q2, c2, _⟩ := hit
      rw [z, q2] at q1
      have q3 := Option.some.inj q1
      subst q3
      rw [c2] at c1
      have c3 : Value.type "tuple_iterator" = Value.type "tuple" := c1
      revert c3
      decide
    obtain ⟨f0, f1, f2, f3, f4, f5⟩ := hf it (by simp)
    have hl := rv.length
    have hT : s.TypeIs (.ref e) "enumerate" := ⟨_, he, rfl⟩
    unfold pyNext
    refine wpAny_bind (wpAny_attempt (wpAny_callSpecial?_slot (name := Str.ofString "__next__") hT F.slot_enumerate_next
      (wpAny_call_entry F.slot_enumerate_next hT F.entry_enumerate_next ?_ (F.args_enumerate_next_1 _))))
    show wpAny _ _ (field (.ref e) 2 >>= _) _ _ _
    refine wpAny_bind (wpAny_field he rfl (x := .ref it) rfl ?_)
    refine wpAny_bind (wpAny_nextOf_tuple_end (show X.A.in1.handled = none from I.ok.hd hc) hit p (by simp; omega) fun h' x he' hx' => ?_)
    obtain ⟨o, ho, hcx⟩ := hx'
    refine wpAny_bind (wpAny_isInstance (T := "StopIteration") (b := true) ⟨o, ho, hcx⟩ isSubtype_stop ?_)
    exact wpAny_pure ⟨rfl, I.turned (t' := s.toks) (fun b o hb q => he' b o hb q) f0 f1 f3 f4 f5⟩
  self := fun A i s Q E st h => let ⟨⟨_, he⟩, _⟩ := st; wpAny_pyIter_enum he h

def iEnumT (K : PySem.W.Frag) (ta : TA) : TI := fun σ H R => ta σ H fun vs H1 => ∃ a xs, vs = [.ref a] ∧ SqT K H1 a xs ∧ R (Itet K a) H1
theorem pi_enumT {X : Cx} {e : Expr} {ta : TA} {p pos tpos : Pos} {elts : List Expr} {kk : Nat} (hg : Gl X "enumerate") (hm : X.mg "enumerate" = none) (ha : PA X [e] ta) (hs : starEach [e] X.env = [(false, eval e X.env)] := by rfl) :
    PI X (.Tuple elts kk tpos) (.Call (.Name "enumerate" p) [e] [] pos) (iEnumT X.K ta) := by
  refine ⟨fun pins s σ H R I h => ?_⟩
  refine Call_ (ld_blt I hg hm boot_enumerate (PyProof.Rows.callWith_type1 (thn (ha.run pos pins s σ H _ I h) fun us s1 ⟨vs, H1, I1, r1, q1⟩ => ?_) hs rfl))
  obtain ⟨a, xs, ex, hq, q⟩ := q1
  subst ex
  cases r1 with
  | cons r rr =>
    cases rr
    cases r
    obtain ⟨its, rv, p', hz⟩ := I1.tuple hq
    refine call_enumerate_tuple p' fun h' he hit hsz hk => wpAny_pyIter_enum he ?_
    have I2 : L2.Inv X pins σ H1 { s1 with heap := h' } := I1.kept (t' := s1.toks) hk
    refine ⟨s1.heap.objs.size + 1, [s1.heap.objs.size + 1, s1.heap.objs.size], _, _, H1, rfl, I2, turn_enumT a (s1.heap.objs.size + 1) s1.heap.objs.size, ⟨⟨.none, he⟩, hit, Nat.succ_ne_self _⟩, fun b hb => ?_, q⟩
    have e' : b = s1.heap.objs.size + 1 ∨ b = s1.heap.objs.size := by simpa using hb
    have hle : s1.heap.objs.size ≤ b := by
      rcases e' with z | z
      · rw [z]; exact Nat.le_add_right _ _
      · rw [z]; exact Nat.le_refl _
    exact I1.fpOk hle (I1.hok.fresh hle)
/-- a for over enumerate(tuple), the invariant Pv by the turn -/
theorem for_enumT {K : PySem.W.Frag} {a : Addr} {xs : List V} {g : TG} {tb : TS} {D : Ends} {σ : L2.St} {H : Hp} (Pv : Nat → L2.St → Hp → Prop) (h0 : Pv 0 σ H) (hl : ∀ i σ H, i ≤ xs.length → Pv i σ H → SqT K H a xs)
    (hs : ∀ i x σ H T, xs[i]? = some x → Pv i σ H → H T = none → g (.ref T) σ (upd H T (.tup [.int (i : Nat), x])) fun σ2 H2 => tb { D with nx := Pv (i + 1), ct := Pv (i + 1), bk := D.nx } σ2 H2)
    (hd : ∀ σ H, Pv xs.length σ H → D.nx σ H) :
    ∃ W : Nat → Nat → L2.St → Hp → Prop, (∃ m, W 0 m σ H) ∧ ∀ i m σ H, W i m σ H →
      ((Itet K a).stop i H ∧ D.nx σ H) ∨ ((Itet K a).go i H ∧ ∃ N : L2.St → Hp → Prop, (∀ σ' H', N σ' H' → ∃ m', m' < m ∧ W (i + 1) m' σ' H') ∧ ∀ x H', (Itet K a).yld i H x H' → g x σ H' fun σ2 H2 => tb { D with nx := N, ct := N, bk := D.nx } σ2 H2) := by
  refine ⟨fun i m σ H => m = xs.length - i ∧ i ≤ xs.length ∧ Pv i σ H, ⟨xs.length, by simp, Nat.zero_le _, h0⟩, ?_⟩
  rintro i m σ H ⟨rfl, hi, p⟩
  have q := hl i σ H hi p
  by_cases hlt : i < xs.length
  · refine .inr ⟨⟨xs, xs[i], q, by simp [hlt]⟩, Pv (i + 1), fun σ' H' p' => ⟨xs.length - (i + 1), by omega, rfl, hlt, p'⟩, fun x H' y => ?_⟩
    obtain ⟨T, x', ev, hT, eH, hx⟩ := y
    subst ev eH
    exact hs i x' σ H T (hx xs q) p hT
  · have e : i = xs.length := by omega
    subst e
    exact .inl ⟨⟨xs, q, Nat.le_refl _⟩, hd σ H p⟩
end Kw


set_option Elab.async false
set_option linter.all false
set_option maxRecDepth 100000
set_option maxHeartbeats 4000000
namespace Kw
open PySem PySem.Spec PyProof.Rows L2
section
variable {X : Cx}
/-- x in t, t a tuple of data of any depth -/
def rInDT (K : PySem.W.Frag) (neg : Bool) : R2 := fun x y H Q => ∃ d ds, Dp K H x d ∧ Dp K H y (.tuple ds) ∧ SeqAt.shaped d = true ∧ SeqAt.shaped (.tuple ds) = true ∧ Q (.bl (if neg then !(ds.any fun z => PyData.eqv z d) else ds.any fun z => PyData.eqv z d)) H
theorem op_inDT (hu : X.A.units + 65 < cLine) : OpR X (compareOp .In) (rInDT X.K false) := by
  intro pins s σ H x y v u Q I rx ry h
  obtain ⟨d, ds, hd, he, sd, se, q⟩ := h
  obtain ⟨as, r1⟩ := Dp.reads I d x v hd rx
  obtain ⟨bs, r2⟩ := Dp.reads I (.tuple ds) y u he ry
  exact SeqAt.in_tuple_reads r2 r1 (SeqAt.canLay_of_shaped se) (SeqAt.canLay_of_shaped sd) (room_in_shaped sd hu) ⟨.bl _, H, I, rfl, q⟩
theorem op_notInDT (hu : X.A.units + 65 < cLine) : OpR X (compareOp .NotIn) (rInDT X.K true) := by
  intro pins s σ H x y v u Q I rx ry h
  obtain ⟨d, ds, hd, he, sd, se, q⟩ := h
  obtain ⟨as, r1⟩ := Dp.reads I d x v hd rx
  obtain ⟨bs, r2⟩ := Dp.reads I (.tuple ds) y u he ry
  exact SeqAt.notIn_tuple_reads r2 r1 (SeqAt.canLay_of_shaped se) (SeqAt.canLay_of_shaped sd) (room_in_shaped sd hu) ⟨.bl _, H, I, rfl, q⟩
/-- xs.count(b), xs a list of bools -/
def rCntB (K : PySem.W.Frag) : V → List V → Hp → VK → Prop := fun x xs H Q => ∃ (p : Addr) (bs : List Bool) (b : Bool), x = .ref p ∧ xs = [.bl b] ∧ SqL K H p (bs.map V.bl) ∧ Q (.int (bs.count b : Nat)) H
def eqb (b : Bool) (v : Value) : Bool := match v with
  | .bool c => c == b
  | _ => false
theorem mt_countB : MtR X "list.count" (rCntB X.K) := by
  intro pins s σ H x xs v us Q I rx rxs h
  obtain ⟨p, bs, b, rfl, rfl, hs, q⟩ := h
  cases rx
  obtain ⟨u, rfl, ru⟩ := rxs.one
  obtain rfl : u = Value.bool b := ru
  obtain ⟨its, rv, ⟨⟨cls, dd, data, sl⟩, n, ho, hc, hdn, hd⟩, hlen⟩ := I.list hs
  simp only at hc hd
  subst hc hd
  have hi : its = bs.map Value.bool := rv.bls
  refine call_meets PySem.F.slot_list_count ⟨_, ho, rfl⟩ PySem.F.entry_list_count (PySem.F.args_list_count_2 _ _)
    (SeqAt.list_countAt p its.toArray n dd sl (.bool b) (eqb b)) ⟨ho, fun y hy => ?_, ?_⟩
  · have hy' : y ∈ its := by simpa using hy
    rw [hi] at hy'
    obtain ⟨c, _, rfl⟩ := List.mem_map.mp hy'
    have g := eqAt_V (A := X.A.in1) (s := s) (y := V.bl c) (x := V.bl b) (u := Value.bool c) (v := Value.bool b) rfl rfl rfl rfl
    have e : eqV (V.bl c) (V.bl b) = eqb b (Value.bool c) := by cases b <;> cases c <;> rfl
    rw [← e]
    exact g
  · have ec : its.toArray.toList.countP (eqb b) = bs.count b := by
      rw [hi]
      show (bs.map Value.bool).countP (eqb b) = bs.count b
      rw [List.countP_map]
      rfl
    refine ⟨.int (bs.count b : Nat), H, I.tok _, ⟨s.toks, ?_⟩, q⟩
    show Value.int ((its.toArray.toList.countP (eqb b) : Nat) : Int) s.toks = Value.int ((bs.count b : Nat) : Int) s.toks
    rw [ec]
end

/-! ### isinstance of a caught error of an own class, with a dict of its own or without -/
section
open PySem.W
variable {prog : Program} {w : World} {A : Around} {E : Value → Shared → Prop} {s : Shared} {K : Frag} {x D : Addr} {ox : Obj}
theorem findObj_dataO {C : Addr} {name : Str} {a g : Value} {od : Option Obj} (hc : (clsIn K C).isSome = true) (ha : findIn K (.ref C) name = some (some a)) (hg : specialIn K a "__get__" = some (some g)) (ht : takesIn K a = some true) : findObj K C od name = some (.bind g a) := by
  obtain ⟨cd, hc⟩ := Option.isSome_iff_exists.mp hc
  unfold findObj
  rw [hc, Option.bind_some, ha, Option.bind_some]
  simp [hg, ht]
theorem kin_classO {od : Option Obj} {Q : Option Value → Shared → Prop} (hga : findIn K (.ref D) "__getattribute__" = some (some (.builtin "BaseException.__getattribute__"))) (hgt : findIn K (.ref D) "__getattr__" = some none) (hsub : subIn K (.ref D) (.type "BaseException") = some true)
    (hdct : hasDictIn K D = true) (ha : findIn K (.ref D) "__class__" = some (some (.builtin "object.__class__")))
    (hn : specialIn K (.builtin "object.__class__") "__get__" = some (some (.builtin "getset_descriptor.__get__"))) (htk : takesIn K (.builtin "object.__class__") = some true) (hm : mroIn K D (.type "object") = some true)
    (X : K.In s.heap) (I : InstAt s.heap x ox D od) (h : Q (some (.ref D)) { s with toks := s.toks + 1 }) : wpAny (model prog w) A (getAttr? (.ref x) "__class__") Q E s := by
  have hf : findObj K D od "__class__" = some (.bind (.builtin "getset_descriptor.__get__") (.builtin "object.__class__")) := findObj_dataO (by obtain ⟨cd, hc, _⟩ := any_some hdct; rw [hc]; rfl) ha hn htk
  obtain ⟨hp, g, d, t, os⟩ := s
  have L0 := I.type (M := model prog w)
  have L1 := looks_findIn (M := model prog w) X hga
  have L2' := looks_findIn (M := model prog w) X hgt
  have L3 := looks_find (M := model prog w) X I hf
  have sub : Looks (model prog w) hp (isInstance (.ref x) (.type "BaseException")) true := L0.andThen (looks_subIn X hsub)
  have hx0 : (false && onTheHeap (Value.builtin "BaseException.__getattribute__")) = false := rfl
  have hx2 : (Value.builtin "BaseException.__getattribute__" == Value.builtin "object.__getattribute__") = false := by decide +kernel
  have hx1 : (onTheHeap (Value.ref D) && Value.builtin "BaseException.__getattribute__" == Value.builtin "object.__getattribute__") = false := by rw [hx2]; rfl
  unfold getAttr? getAttrBy? getAttrBy
  refine wpAny_bind (wpAny_mkText (wpAny_bind (wpAny_attempt (wpAny_holding (wpAny_bind (L0.at (wpAny_bind (L1.at ?_))))))))
  show wpAny _ _ (if (onTheHeap (Value.ref D) && Value.builtin "BaseException.__getattribute__" == Value.builtin "object.__getattribute__") = true then _ else _) _ _ _
  rw [hx1, if_neg Bool.false_ne_true]
  unfold getAttrByItsOwn hookBefore
  refine wpAny_bind ?_
  rw [if_pos (show onTheHeap (Value.ref D) = true from rfl)]
  refine L2'.at ?_
  refine wpAny_bind (wpAny_attempt (wpAny_holding ?_))
  unfold callGetattribute
  rw [hx0, if_neg Bool.false_ne_true]
  unfold boundAndCalled
  rw [PySem.F.excAttr_ValueError.ga.bind (.ref x)]
  refine wpAny_bind (wpAny_pure ?_)
  show wpAny _ _ (call (.builtin "BaseException.__getattribute__") [.ref x, .str "__class__" t]) _ _ _
  refine wpAny_call (PySem.codeAny_call_builtin PySem.F.excAttr_ValueError.ga.plain PySem.F.entry_bexc_ga ?_)
  refine @check_slot (model prog w) _ _ ⟨hp, g, d, t + 1, os⟩ "BaseException.__getattribute__" "BaseException" "__getattribute__" (.ref x) [.str "__class__" t] [] _ (by decide +kernel) (by decide +kernel) sub (PySem.F.args_bexc_ga (.ref x) (.str "__class__" t)) ?_
  unfold Builtin.«object.__getattribute__»
  refine wpAny_bind (wpAny_of_eq (a := ((Value.ref x : Value), [Value.str "__class__" t])) (by first | rfl | (simp only [slotArgs]; rfl)) ?_)
  refine wpAny_bind (wpAny_pure (wpAny_bind (L0.at (wpAny_bind (L3.at ?_)))))
  show wpAny _ _ (holding [Value.builtin "object.__class__"] (call (.builtin "getset_descriptor.__get__") [.builtin "object.__class__", .ref x, .ref D]) >>= ret) _ _ _
  refine wpAny_bind (wpAny_holding (wpAny_call (class_get (s := ⟨hp, g, d, t + 1, os⟩) (ox := ox) (od := od) X I hm ?_)))
  refine wpAny_pure ?_
  show wpAny _ _ (handedOut (.ref D)) _ _ _
  rw [handedOut_of (v := .ref D) rfl]
  first
    | exact wpAny_pure (wpAny_pure h)
    | exact wpAny_pure h
    | exact wpAny_pure (wpAny_bind (wpAny_pure (wpAny_pure h)))
theorem kitx_excO (hga : findIn K (.ref D) "__getattribute__" = some (some (.builtin "BaseException.__getattribute__"))) (hgt : findIn K (.ref D) "__getattr__" = some none) (hsub : subIn K (.ref D) (.type "BaseException") = some true) (hdct : hasDictIn K D = true) (ha : findIn K (.ref D) "__class__" = some (some (.builtin "object.__class__")))
    (hn : specialIn K (.builtin "object.__class__") "__get__" = some (some (.builtin "getset_descriptor.__get__"))) (htk : takesIn K (.builtin "object.__class__") = some true) (hm : mroIn K D (.type "object") = some true) :
    KitX K (.ref x) (.ref D) (fun h => ∃ od, InstAt h x ox D od) where
  ty := fun _ _ _ ⟨_, I⟩ => I.type
  it := fun _ _ X _ => by
    obtain ⟨cdD, hcD, _⟩ := any_some hdct
    unfold clsIn at hcD
    split at hcD
    · rename_i c' d' cd' sl' ho
      intro A' Q' E' s' k q
      unfold isType loadHead
      exact wpAny_bind (wpAny_loadPart (k _ _ (X _ _ ho)) (wpAny_pure q))
    · cases hcD
  ne := fun h tp dd its n sl X htp => by
    obtain ⟨cdD, hcD, _⟩ := any_some hdct
    refine Bool.eq_false_iff.mpr fun q => ?_
    have e : D = tp := Value.ref.inj (beq_iff_eq.mp q)
    subst e
    unfold clsIn at hcD
    split at hcD
    · rename_i c' d' cd' sl' ho
      have z := (X _ _ ho).symm.trans htp
      cases z
    · cases hcD
  ca := fun X ⟨_, I⟩ k => kin_classO hga hgt hsub hdct ha hn htk hm X I k
end
/-- the suite's error stands at a: its class D, its dict none or an error's dict -/
theorem call_isO {X : Cx} {a D : Addr} {dd : Option Addr} {oe : Obj} {pn : List (Addr × Obj)} (C : ExcC X.K D) (hz : Zc (.ref D) dd oe) (hf : ∃ vs, oe.data = .fields vs) :
    CallR (X.suite a ((a, oe) :: pn)) (.builtin "isinstance") (fun xs H Q => (∀ d, dd = some d → ∃ fs, H d = some (.xd fs)) ∧ rIsE X.K D a xs H Q) := by
  intro pins s σ H xs us Q I r h
  obtain ⟨hd, c, cv, b, rfl, hcv, e, q⟩ := h
  cases r with
  | cons rx rr =>
    cases rr with
    | cons rt rr =>
      cases rr
      cases rx
      have ec := hcv _ rt
      subst ec
      obtain ⟨hget, _⟩ := I.pin (a, oe) (List.mem_append.mpr (.inl List.mem_cons_self))
      obtain ⟨vs, hv⟩ := hf
      have J : ∃ od, PySem.W.InstAt s.heap a oe D od := by
        obtain ⟨h1, h2⟩ := hz
        have hn : PySem.W.notCls oe = true := by unfold PySem.W.notCls; rw [hv] <;> rfl
        cases dd with
        | none => exact ⟨none, hget, h1, hn, by rw [show oe.dict = none from h2]; trivial⟩
        | some d =>
          obtain ⟨fs, hfs⟩ := hd d rfl
          obtain ⟨mA, ⟨o, es, ep, ho, hr⟩, _⟩ := (show ObjOk X.prog X.w H s.heap d (.xd fs) from I.hok d _ hfs)
          exact ⟨some o, hget, h1, hn, by rw [h2]; exact ho⟩
      exact PySem.W.kia_one (kitx_excO C.hg C.hk C.hs C.hd C.ha C.hn C.ht C.hm) I.kIn J e (fun z => nomatch z) fun tk => ⟨.bl b, H, I.kept (t' := tk) fun _ _ z => z, rfl, q⟩
end Kw


set_option Elab.async false
set_option linter.all false
set_option maxRecDepth 100000
set_option maxHeartbeats 4000000
/-! Data on the heap and what stays. -/
namespace Kw
open PySem PySem.Spec PyProof.Rows L2

/-- all stays but the lists at b and l, and the tables -/
structure Kp (b l : Addr) (H H' : Hp) : Prop where
  nl : ∀ a o, H a = some o → (∀ xs, o ≠ .lst xs) → (∀ ps, o ≠ .tbl ps) → H' a = some o
  ls : ∀ a xs, H a = some (.lst xs) → a ≠ b → a ≠ l → H' a = some (.lst xs)
theorem Kp.refl (b l : Addr) (H : Hp) : Kp b l H H := ⟨fun _ _ h _ _ => h, fun _ _ h _ _ => h⟩
theorem Kp.trans {b l : Addr} {H H1 H2 : Hp} (x : Kp b l H H1) (y : Kp b l H1 H2) : Kp b l H H2 :=
  ⟨fun a o h n t => y.nl a o (x.nl a o h n t) n t, fun a xs h n t => y.ls a xs (x.ls a xs h n t) n t⟩
theorem Kp.same {b l : Addr} {H H' : Hp} (e : Same H H') : Kp b l H H' := ⟨fun a o h _ _ => e a o h, fun a xs h _ _ => e a _ h⟩
theorem same_upd {H : Hp} {p : Addr} {o : HO} (h : H p = none) : Same H (upd H p o) := fun a u e => by
  rw [upd_ne (ne_of_none e h)]
  exact e
theorem Same.upd2 {H H' : Hp} {p : Addr} {o : HO} (e : Same H H') (h : H' p = none) : Same H (upd H' p o) := e.trans (same_upd h)
theorem free_kp {b l : Addr} {H H' : Hp} (k : Kp b l H H') {p : Addr} (h : H' p = none) (hb : ∃ xs, H' b = some (.lst xs)) (hl : ∃ xs, H' l = some (.lst xs)) (ht : ∀ a ps, H a = some (.tbl ps) → ∃ ps', H' a = some (.tbl ps')) : H p = none := by
  cases q : H p with
  | none => rfl
  | some o =>
    have nb : p ≠ b := fun z => by
      obtain ⟨xs, e⟩ := hb
      rw [z, e] at h
      cases h
    have nl : p ≠ l := fun z => by
      obtain ⟨xs, e⟩ := hl
      rw [z, e] at h
      cases h
    by_cases hls : ∃ xs, o = .lst xs
    · obtain ⟨xs, rfl⟩ := hls
      rw [k.ls p xs q nb nl] at h
      cases h
    · by_cases htb : ∃ ps, o = .tbl ps
      · obtain ⟨ps, rfl⟩ := htb
        obtain ⟨ps', e⟩ := ht p ps q
        rw [e] at h
        cases h
      · rw [k.nl p o q (fun xs z => hls ⟨xs, z⟩) (fun ps z => htb ⟨ps, z⟩)] at h
        cases h

/-! data without lists -/
mutual
def noL : PyData → Bool
  | .none => true
  | .bool _ => true
  | .int _ => true
  | .str _ => true
  | .tuple ds => noLs ds
  | .list _ => false
  | .dict _ => false
def noLs : List PyData → Bool
  | [] => true
  | d :: ds => noL d && noLs ds
end
/-- what is not a list or a table stays -/
def Nl (H H' : Hp) : Prop := ∀ a o, H a = some o → (∀ xs, o ≠ .lst xs) → (∀ ps, o ≠ .tbl ps) → H' a = some o
theorem SqT.nl {K : PySem.W.Frag} {H H' : Hp} {a : Addr} {xs : List V} (k : Nl H H') (h : SqT K H a xs) : SqT K H' a xs := by
  rcases h with (h | ⟨o, h⟩) | h
  · exact .inl (.inl (k _ _ h (fun _ z => nomatch z) fun _ z => nomatch z))
  · exact .inl (.inr ⟨o, k _ _ h (fun _ z => nomatch z) fun _ z => nomatch z⟩)
  · exact .inr h
theorem SqT.same {K : PySem.W.Frag} {H H' : Hp} {a : Addr} {xs : List V} (k : Same H H') (h : SqT K H a xs) : SqT K H' a xs := SqT.nl (fun a o e _ _ => k a o e) h
mutual
theorem Dp.nl {K : PySem.W.Frag} {H H' : Hp} (k : Nl H H') : ∀ (d : PyData) (v : V), noL d = true → Dp K H v d → Dp K H' v d
  | .none, _, _, h => by cases h; exact .non
  | .bool b, _, _, h => by cases h; exact .bl b
  | .int i, _, _, h => by cases h; exact .int i
  | .str x, _, _, h => by cases h; exact .str x
  | .list ds, _, n, _ => by simp [noL] at n
  | .tuple ds, _, n, h => by
    cases h with
    | tup hs ha => exact .tup (SqT.nl k hs) (Dp.nls k ds _ (by simpa [noL] using n) ha)
  | .dict _, _, n, _ => by simp [noL] at n
theorem Dp.nls {K : PySem.W.Frag} {H H' : Hp} (k : Nl H H') : ∀ (ds : List PyData) (vs : List V), noLs ds = true → DpAll K H vs ds → DpAll K H' vs ds
  | [], _, _, h => by cases h; exact .nil
  | d :: ds, _, n, h => by
    cases h with
    | cons h1 h2 =>
      have n' : noL d = true ∧ noLs ds = true := by simpa [noLs] using n
      exact .cons (Dp.nl k d _ n'.1 h1) (Dp.nls k ds _ n'.2 h2)
end
/-- tuples that are read stay -/
def Tp (H H' : Hp) : Prop := ∀ a xs, Rd H a (.tup xs) → Rd H' a (.tup xs)
mutual
theorem Dp.tp {K : PySem.W.Frag} {H H' : Hp} (k : Tp H H') : ∀ (d : PyData) (v : V), noL d = true → Dp K H v d → Dp K H' v d
  | .none, _, _, h => by cases h; exact .non
  | .bool b, _, _, h => by cases h; exact .bl b
  | .int i, _, _, h => by cases h; exact .int i
  | .str x, _, _, h => by cases h; exact .str x
  | .list ds, _, n, _ => by simp [noL] at n
  | .tuple ds, _, n, h => by
    cases h with
    | tup hs ha => exact .tup (hs.elim (fun r => .inl (k _ _ r)) .inr) (Dp.tps k ds _ (by simpa [noL] using n) ha)
  | .dict _, _, n, _ => by simp [noL] at n
theorem Dp.tps {K : PySem.W.Frag} {H H' : Hp} (k : Tp H H') : ∀ (ds : List PyData) (vs : List V), noLs ds = true → DpAll K H vs ds → DpAll K H' vs ds
  | [], _, _, h => by cases h; exact .nil
  | d :: ds, _, n, h => by
    cases h with
    | cons h1 h2 =>
      have n' : noL d = true ∧ noLs ds = true := by simpa [noLs] using n
      exact .cons (Dp.tp k d _ n'.1 h1) (Dp.tps k ds _ n'.2 h2)
end
mutual
theorem Dp.same {K : PySem.W.Frag} {H H' : Hp} (k : Same H H') : ∀ (d : PyData) (v : V), Dp K H v d → Dp K H' v d
  | .none, _, h => by cases h; exact .non
  | .bool b, _, h => by cases h; exact .bl b
  | .int i, _, h => by cases h; exact .int i
  | .str x, _, h => by cases h; exact .str x
  | .list ds, _, h => by
    cases h with
    | lst hs ha => exact .lst (k.seq hs) (Dp.sames k ds _ ha)
  | .tuple ds, _, h => by
    cases h with
    | tup hs ha => exact .tup (SqT.same k hs) (Dp.sames k ds _ ha)
  | .dict _, _, h => by cases h
theorem Dp.sames {K : PySem.W.Frag} {H H' : Hp} (k : Same H H') : ∀ (ds : List PyData) (vs : List V), DpAll K H vs ds → DpAll K H' vs ds
  | [], _, h => by cases h; exact .nil
  | d :: ds, _, h => by
    cases h with
    | cons h1 h2 => exact .cons (Dp.same k d _ h1) (Dp.sames k ds _ h2)
end
theorem DpAll.len {K : PySem.W.Frag} {H : Hp} : ∀ {vs : List V} {ds : List PyData}, DpAll K H vs ds → vs.length = ds.length
  | _, _, .nil => rfl
  | _, _, .cons _ h => by simp [DpAll.len h]
theorem DpAll.get {K : PySem.W.Frag} {H : Hp} : ∀ {vs : List V} {ds : List PyData} {i : Nat} {x : V}, DpAll K H vs ds → vs[i]? = some x → ∃ d, ds[i]? = some d ∧ Dp K H x d
  | _, _, _, _, .nil, e => by simp at e
  | _, _, 0, _, .cons h _, e => by
    simp at e
    subst e
    exact ⟨_, rfl, h⟩
  | _, _, i + 1, x, .cons _ t, e => by
    obtain ⟨d, h1, h2⟩ := DpAll.get (i := i) (x := x) t (by simpa using e)
    exact ⟨d, by simpa using h1, h2⟩
theorem DpAll.app {K : PySem.W.Frag} {H : Hp} : ∀ {vs ws : List V} {ds es : List PyData}, DpAll K H vs ds → DpAll K H ws es → DpAll K H (vs ++ ws) (ds ++ es)
  | _, _, _, _, .nil, h => h
  | _, _, _, _, .cons h t, k => .cons h (DpAll.app t k)
theorem DpAll.take {K : PySem.W.Frag} {H : Hp} : ∀ {vs : List V} {ds : List PyData} (n : Nat), DpAll K H vs ds → DpAll K H (vs.take n) (ds.take n)
  | _, _, 0, _ => .nil
  | _, _, _ + 1, .nil => .nil
  | _, _, n + 1, .cons h t => .cons h (DpAll.take n t)
theorem noLs_map {α : Type} (f : α → PyData) (h : ∀ a, noL (f a) = true) : ∀ l : List α, noLs (l.map f) = true
  | [] => rfl
  | a :: l => by simp [noLs, h a, noLs_map f h l]

/-! ### places -/
inductive Wd where
  | hand | box | gone
  deriving DecidableEq
def Wd.str : Wd → Str
  | .hand => "hand"
  | .box => "box"
  | .gone => "gone"
abbrev Pl := Wd × Int
def plD (p : Pl) : PyData := .tuple [.str p.1.str, .int p.2]
def plsD (ps : List Pl) : PyData := .tuple (ps.map plD)
theorem wd_ok (w : Wd) : PyData.strOk w.str = true := by cases w <;> decide +kernel
theorem wd_inj {u v : Wd} (h : u.str = v.str) : u = v := by cases u <;> cases v <;> first | rfl | (revert h; decide +kernel)
theorem noL_pl (p : Pl) : noL (plD p) = true := rfl
theorem noL_pls (ps : List Pl) : noL (plsD ps) = true := noLs_map plD noL_pl ps
theorem lay_pl (p : Pl) : PyData.canLay0 (plD p) = true := by simp [plD, PyData.canLay0, PyData.canLayAll0, wd_ok]
theorem lay_pls : ∀ ps : List Pl, PyData.canLayAll0 (ps.map plD) = true
  | [] => rfl
  | p :: ps => by simp [PyData.canLayAll0, lay_pl p, lay_pls ps]
theorem depth_pl (p : Pl) : PyData.depth (plD p) = 1 := by simp [plD, PyData.depth, PyData.depthAll]
theorem depth_pls : ∀ ps : List Pl, PyData.depthAll (ps.map plD) ≤ 1
  | [] => by simp [PyData.depthAll]
  | p :: ps => by
    have := depth_pls ps
    have := depth_pl p
    simp [PyData.depthAll]
    omega
theorem shaped_pl (p : Pl) : SeqAt.shaped (plD p) = true := by simp [SeqAt.shaped, lay_pl, depth_pl]
theorem shaped_pls (ps : List Pl) : SeqAt.shaped (plsD ps) = true := by
  have h1 := lay_pls ps
  have h2 := depth_pls ps
  simp [SeqAt.shaped, plsD, PyData.canLay0, PyData.depth, h1]
  omega
theorem eqv_pl (p q : Pl) : PyData.eqv (plD p) (plD q) = decide (p = q) := by
  obtain ⟨u, i⟩ := p
  obtain ⟨v, j⟩ := q
  by_cases h1 : u = v
  · subst h1
    by_cases h2 : i = j
    · subst h2
      simp [plD, PyData.eqv, PyData.eqvAll]
    · simp [plD, PyData.eqv, PyData.eqvAll, h2]
  · have h3 : ¬ u.str = v.str := fun z => h1 (wd_inj z)
    simp [plD, PyData.eqv, PyData.eqvAll, h1, h3]
theorem pl_at {K : PySem.W.Frag} {H : Hp} {x : V} {p : Pl} (h : Dp K H x (plD p)) : ∃ a, x = .ref a ∧ SqT K H a [.str p.1.str, .int p.2] := by
  cases h with
  | tup hs ha =>
    cases ha with
    | cons h1 h2 =>
      cases h1
      cases h2 with
      | cons h3 h4 =>
        cases h3
        cases h4
        exact ⟨_, rfl, hs⟩
theorem pls_at {K : PySem.W.Frag} {H : Hp} {x : V} {ps : List Pl} (h : Dp K H x (plsD ps)) : ∃ a xs, x = .ref a ∧ SqT K H a xs ∧ DpAll K H xs (ps.map plD) ∧ xs.length = ps.length := by
  cases h with
  | tup hs ha => exact ⟨_, _, rfl, hs, ha, by rw [DpAll.len ha, List.length_map]⟩
theorem pls_get {K : PySem.W.Frag} {H : Hp} {xs : List V} {ps : List Pl} {i : Nat} {x : V} (h : DpAll K H xs (ps.map plD)) (e : xs[i]? = some x) : ∃ p, ps[i]? = some p ∧ Dp K H x (plD p) := by
  obtain ⟨d, h1, h2⟩ := DpAll.get h e
  rw [List.getElem?_map] at h1
  cases q : ps[i]? with
  | none =>
    rw [q] at h1
    cases h1
  | some p =>
    rw [q] at h1
    cases h1
    exact ⟨p, rfl, h2⟩
end Kw


set_option Elab.async false
set_option linter.all false
set_option maxRecDepth 100000
set_option maxHeartbeats 4000000
namespace Kw
open PySem PySem.Spec PyProof.Rows L2
theorem room_in2 {A : Around} {a b : PyData} (h : SeqAt.shaped b = true) (hu : A.units + 65 < cLine) (n : Nat) : A.units + 1 + min n b.depth < cLine := by
  have h1 := SeqAt.depth_of_shaped h
  have h2 : min n b.depth ≤ b.depth := Nat.min_le_right _ _
  omega
section
variable {X : Cx}
/-- t.index(x), t a tuple of data: the first place of an equal one -/
def rIndexT (K : PySem.W.Frag) : V → List V → Hp → VK → Prop := fun x xs H Q => ∃ (a : Addr) (y : V) (d : PyData) (ds : List PyData) (j : Nat) (z : PyData), x = V.ref a ∧ xs = [y] ∧ Dp K H (V.ref a) (.tuple ds) ∧ Dp K H y d ∧
  SeqAt.shaped (.tuple ds) = true ∧ SeqAt.shaped d = true ∧ ds[j]? = some z ∧ PyData.eqv z d = true ∧ (∀ (m : Nat) (z' : PyData), m < j → ds[m]? = some z' → PyData.eqv z' d = false) ∧ Q (.int (j : Nat)) H
theorem mt_indexT (hu : X.A.units + 65 < cLine) : MtR X "tuple.index" (rIndexT X.K) := by
  intro pins s σ H x xs v us Q I rx rxs h
  obtain ⟨a, y, d, ds, j, z, rfl, rfl, hl, hy, sl, sd, hz, hzj, hno, q⟩ := h
  cases rx
  cases rxs with
  | cons ry rt =>
    rename_i uy ut
    cases rt
    obtain ⟨bs, r1⟩ := Dp.reads I d y uy hy ry
    have hxs : PyData.canLayAll0 ds = true := SeqAt.canLay_of_shaped sl
    cases hl with
    | tup hs ha =>
      obtain ⟨its, rv, ⟨⟨cls, dd, data, sls⟩, ho, hc, n, hdt⟩, hlen⟩ := I.tuple hs
      simp only at hc hdt
      subst hc hdt
      obtain ⟨as, h4⟩ := Dp.readsAll I ds _ its ha rv
      have hroom : X.A.units + 1 + min (PyData.depthAll ds) d.depth < cLine := room_in2 (a := d) sd hu _
      have hn : its.length = ds.length := SeqAt.ReadsAll.length ds its as h4
      have hmap : its.map (SeqAt.readOf s.heap) = ds := SeqAt.readsAll_map ds its as hxs h4
      obtain ⟨hjd, _⟩ := List.getElem?_eq_some_iff.mp hz
      have hjl : j < its.length := by omega
      have hj : j < its.toArray.size := by simpa using hjl
      have at_ : ∀ (m : Nat) (hm : m < its.toArray.size) (z' : PyData), ds[m]? = some z' → SeqAt.readOf s.heap its.toArray[m] = z' := by
        intro m hm z' hz'
        have hml : m < its.length := by simpa using hm
        rw [← hmap, List.getElem?_map, List.getElem?_eq_getElem hml] at hz'
        have e1 : SeqAt.readOf s.heap its[m] = z' := Option.some.inj (show some (SeqAt.readOf s.heap its[m]) = some z' from hz')
        simpa using e1
      refine call_meets PySem.F.slot_tuple_index ⟨_, ho, rfl⟩ PySem.F.entry_tuple_index (PySem.F.args_tuple_index_2 _ _)
        (TI.tuple_indexAt a its.toArray n dd sls uy (fun u => PyData.eqv (SeqAt.readOf s.heap u) d) j hj ?_ ?_) ⟨ho, SeqAt.items_eqAt (vs := its.toArray) (show ReadsAll s.heap its.toArray.toList ds as from h4) r1 hxs (SeqAt.canLay_of_shaped sd) hroom, ?_⟩
      · show PyData.eqv (SeqAt.readOf s.heap its.toArray[j]) d = true
        rw [at_ j hj z hz]
        exact hzj
      · intro m hm hmj
        have hmd : m < ds.length := by omega
        have hz' : ds[m]? = some ds[m] := List.getElem?_eq_getElem hmd
        show PyData.eqv (SeqAt.readOf s.heap its.toArray[m]) d = false
        rw [at_ m hm _ hz']
        exact hno m _ hmj hz'
      · exact ⟨.int (j : Nat), H, I.tok _, ⟨_, rfl⟩, q⟩
end
end Kw


set_option Elab.async false
set_option linter.all false
set_option maxRecDepth 100000
set_option maxHeartbeats 4000000
namespace Kw
open PySem PySem.Spec PyProof.Rows L2
/-- a tuple that was made here and bears no dict: it may be asked for its methods -/
def Fz (H : Hp) (a : Addr) (xs : List V) : Prop := ∃ o : Obj, H a = some (.frz o (.tup xs)) ∧ o.cls = .type "tuple" ∧ o.dict = none
theorem Fz.sq {K : PySem.W.Frag} {H : Hp} {a : Addr} {xs : List V} (h : Fz H a xs) : SqT K H a xs := by
  obtain ⟨o, h, _⟩ := h
  exact .inl (.inr ⟨o, h⟩)
theorem Fz.nl {H H' : Hp} {a : Addr} {xs : List V} (k : Nl H H') (h : Fz H a xs) : Fz H' a xs := by
  obtain ⟨o, h, c, d⟩ := h
  exact ⟨o, k _ _ h (fun _ z => nomatch z) (fun _ z => nomatch z), c, d⟩
section
variable {X : Cx}
/-- tuple(l), l a list: the new tuple, with what it is kept -/
theorem call_tupleF : CallR X (.type "tuple") (fun xs H Q => ∃ p ys, xs = [.ref p] ∧ SqL X.K H p ys ∧ ∀ (l : Addr) (o : Obj), H l = none → o.cls = .type "tuple" → o.dict = none → Q (.ref l) (L2.upd H l (.frz o (.tup ys)))) := by
  intro pins s σ H xs us Q I r h
  obtain ⟨p, ys, rfl, hq, q⟩ := h
  obtain ⟨u, rfl, rx⟩ := vals1 r
  cases rx
  obtain ⟨its, r', pl, hz⟩ := I.list hq
  have hlen := r'.length
  refine call_tuple_list pl.isList (fun h' kp => ?_) (by simp only [List.size_toArray] <;> omega)
  have I1 : Inv X pins σ H { s with heap := h' } := I.kept (t' := s.toks) kp
  have g : (h'.push { cls := .type "tuple", data := .seq its.toArray }).get? h'.objs.size = some ({ cls := .type "tuple", data := .seq its.toArray } : Obj) := Heap.get?_push_size _ rfl
  have I2 : Inv X pins σ (L2.upd H h'.objs.size (.frz { cls := .type "tuple", data := .seq its.toArray } (.tup ys))) { s with heap := h'.push { cls := .type "tuple", data := .seq its.toArray } } :=
    I1.laid (t' := s.toks) (fun b o e => Heap.get?_push_of_some _ e) (Nat.le_refl _) (show ObjOk X.prog X.w _ _ _ (.frz _ (.tup ys)) from ⟨g, hz, its, r', IsTup.new _ _⟩)
  exact ⟨.ref h'.objs.size, _, I2, rfl, q _ _ (I1.hok.fresh (Nat.le_refl _)) rfl rfl⟩
variable {o e : Expr} {es : List Expr} {to : TE} {t : TA} {name : Str} {apos cpos : Pos} {id : String} {r : V → List V → Hp → VK → Prop}
/-- o.m(..), o such a tuple -/
def tBMF (r : V → List V → Hp → VK → Prop) (to : TE) (t : TA) : TE := fun σ H Q => to σ H fun x H1 => (∃ a xs, x = .ref a ∧ Fz H1 a xs) ∧ t σ H1 fun ys H2 => r x ys H2 Q
theorem pe_bmF (slot : Slot "tuple" name id) (hty : typeOf (.builtin id) = pure (.type "method_descriptor")) (hm : MtR X id r) (ho : PE X o to) (ha : PA X (e :: es) t)
    (hbase : attributeBase o name X.env (eval o X.env) = eval o X.env := by rfl)
    (hfew : ((backTo cpos (starEach (e :: es) X.env)).all (fun x => !x.1) && (backToKw cpos (keywordEach [] X.env)).all (fun x => x.1.isSome)
      && decide ((e :: es).length + ([] : List Keyword).length + (if ([] : List Keyword).isEmpty then 0 else 1) < 30)) = true := by rfl)
    (hline : (apos.endLine == cpos.line) = true := by rfl) (hs : starEach (e :: es) X.env = (false, eval e X.env) :: starEach es X.env := by rfl) (hplain : (backTo cpos (starEach es X.env)).any (·.1) = false := by rfl) :
    PE X (.Call (.Attribute o name apos) (e :: es) [] cpos) (tBMF r to t) := by
  refine ⟨fun pins s σ H Q I h => ?_⟩
  refine wpAny_Call_method_late hbase hfew hline rfl (thn (ho.run pins s σ H _ I h) fun v s1 hv => ?_)
  obtain ⟨x, H1, I1, r1, ⟨a, xs, rfl, ob, hf, hc, hd⟩, q1⟩ := hv
  cases r1
  obtain ⟨hg, _⟩ := I1.hok a _ hf
  refine ⟨"tuple", id, PySem.F.plainAttrs_tuple, slot, hty, ⟨ob, hg, hc⟩, fun b eb => ?_, ?_⟩
  · cases eb
    exact ⟨ob, hg, hd⟩
  have hA := ha.run cpos pins s1 σ H1 _ I1 q1
  rw [hs] at hA ⊢
  refine Calls.callWith_builtin (by show (false || (backTo cpos (starEach es X.env)).any (·.1)) = false; rw [hplain] <;> rfl) (Calls.evalArgs_plain ?_)
  exact thn hA fun us s2 hu => by
    obtain ⟨vs, H2, I2, r2, q2⟩ := hu
    exact hm pins s2 σ H2 (.ref a) vs (.ref a) us _ I2 rfl r2 q2
end
end Kw


set_option Elab.async false
set_option linter.all false
set_option maxRecDepth 100000
set_option maxHeartbeats 4000000
namespace Kw
open PySem PySem.Spec PyProof.Rows L2

def top (i : Nat) : Stmt := PySem.Challenge.pw_sealwatch_k04_logs_validated.main.body.getD i (.Pass ⟨0, 0, 0, 0⟩)
abbrev sIH : Stmt := inClass (top 2) 0
abbrev sNum : Stmt := top 18
abbrev sMany : Stmt := top 19
abbrev sInit : Stmt := inClass (top 44) 0
abbrev sItems : Stmt := inClass (top 44) 1
abbrev sHas : Stmt := inClass (top 44) 2
abbrev sEqH : Stmt := inClass (top 44) 3
abbrev sNeed : Stmt := top 45
abbrev sBoxes : Stmt := top 46
abbrev sIsPl : Stmt := top 47

/-! ### the built-in names that the module leaves alone -/
structure Bt (mg : Str → Option Value) : Prop where
  isi : mg "isinstance" = none
  int : mg "int" = none
  bool : mg "bool" = none
  len : mg "len" = none
  enu : mg "enumerate" = none
  tup : mg "tuple" = none
  lst : mg "list" = none
  rng : mg "range" = none
  str : mg "str" = none

section
variable {P : Program} {w : World} {K : PySem.W.Frag} {mg : Str → Option Value} {base : Heap}
/-! ### is_number -/
def numOk (n l : Int) : Bool := decide (0 ≤ n) && decide (n < l)
def spNum : Sp := fun vs H Q _ => ∃ n l : Int, vs = [.int n, .int l] ∧ Q (.bl (numOk n l)) H
theorem scNum : FnScope ["value", "limit"] ["value", "limit"] (defScope sNum) := ⟨rfl, rfl, rfl, by decide +kernel, rfl, by decide +kernel, by decide +kernel⟩
theorem ok_num {f : Addr} {fd : FuncData} (F : Fun K "is_number" "is_number" sNum f fd) (B : Bt mg) : FnOk P w K mg base CX0 1 f fd ["value", "limit"] spNum := by
  refine F.ok scNum (fun vs H Q E h => ?_) (fun cdv A outer s H vs Q E hr h => ?_)
  · obtain ⟨n, l, rfl, _⟩ := h
    rfl
  · obtain ⟨n, l, rfl, k⟩ := h
    refine ⟨_, pss_one (ps_ret (pe_and (pe_callB call_isi (by rfl) B.isi (by decide +kernel) (pa_cons (pv 0) (pa_cons (pe_bltn (v := .ty "int") (by rfl) B.int (by decide +kernel) rfl) pa_nil)))
      (pe_and (pe_not (pe_callB call_isi (by rfl) B.isi (by decide +kernel) (pa_cons (pv 0) (pa_cons (pe_bltn (v := .ty "bool") (by rfl) B.bool (by decide +kernel) rfl) pa_nil))))
        (pe_one (pe_chain op_le op_lt pe_int (pv 0) (pv 1)))))), ?_⟩
    refine ⟨_, rfl, _, _, _, _, true, rfl, .ty "int", .base (.int n), kit_ty (by decide +kernel), _, rfl, iteT ?_⟩
    refine ⟨_, rfl, _, _, _, _, false, rfl, .ty "bool", .base (.int n), kit_ty (by decide +kernel), _, rfl, _, rfl, iteT ?_⟩
    refine ⟨_, rfl, _, _, rfl, rfl, _, rfl, ?_⟩
    unfold numOk at k
    by_cases c : (0 : Int) ≤ n
    · rw [decide_eq_true c] at k ⊢
      refine iteT ⟨_, rfl, _, _, rfl, rfl, ?_⟩
      exact k
    · rw [decide_eq_false c] at k ⊢
      exact iteF k

/-! ### houses -/
structure Hs where
  hands : Int
  bs : List Pl
  ts : List Pl
  ss : List Pl
def stD (d : Hs) : PyData := .tuple [plsD d.bs, plsD d.ts, plsD d.ss]
def hsFs (n : Int) (vb vt vs vst : V) : List (Str × V) := putF "state" vst (putF "seals" vs (putF "things" vt (putF "boxes" vb (putF "hands" (.int n) []))))
theorem fs_hands (n : Int) (vb vt vs vst : V) : (hsFs n vb vt vs vst).lookup ("hands" : Str) = some (.int n) := by
  unfold hsFs
  rw [lookup_putF, if_neg (by decide +kernel), lookup_putF, if_neg (by decide +kernel), lookup_putF, if_neg (by decide +kernel), lookup_putF, if_neg (by decide +kernel), lookup_putF, if_pos rfl]
theorem fs_boxes (n : Int) (vb vt vs vst : V) : (hsFs n vb vt vs vst).lookup ("boxes" : Str) = some vb := by
  unfold hsFs
  rw [lookup_putF, if_neg (by decide +kernel), lookup_putF, if_neg (by decide +kernel), lookup_putF, if_neg (by decide +kernel), lookup_putF, if_pos rfl]
theorem fs_things (n : Int) (vb vt vs vst : V) : (hsFs n vb vt vs vst).lookup ("things" : Str) = some vt := by
  unfold hsFs
  rw [lookup_putF, if_neg (by decide +kernel), lookup_putF, if_neg (by decide +kernel), lookup_putF, if_pos rfl]
theorem fs_seals (n : Int) (vb vt vs vst : V) : (hsFs n vb vt vs vst).lookup ("seals" : Str) = some vs := by
  unfold hsFs
  rw [lookup_putF, if_neg (by decide +kernel), lookup_putF, if_pos rfl]
theorem fs_state (n : Int) (vb vt vs vst : V) : (hsFs n vb vt vs vst).lookup ("state" : Str) = some vst := by
  unfold hsFs
  rw [lookup_putF, if_pos rfl]
structure HouseAt (K : PySem.W.Frag) (C : Addr) (H : Hp) (h : Addr) (d : Hs) : Prop where
  ex : ∃ dx vb vt vs vst, H h = some (.ins C dx (hsFs d.hands vb vt vs vst)) ∧ Dp K H vb (plsD d.bs) ∧ Dp K H vt (plsD d.ts) ∧ Dp K H vs (plsD d.ss) ∧ Dp K H vst (stD d)
theorem noL_st (d : Hs) : noL (stD d) = true := by simp [stD, noL, noLs, noL_pls]
theorem HouseAt.nl {K : PySem.W.Frag} {C : Addr} {H H' : Hp} {h : Addr} {d : Hs} (k : Nl H H') (x : HouseAt K C H h d) : HouseAt K C H' h d := by
  obtain ⟨dx, vb, vt, vs, vst, h0, h1, h2, h3, h4⟩ := x.ex
  exact ⟨dx, vb, vt, vs, vst, k _ _ h0 (fun _ z => nomatch z) (fun _ z => nomatch z), Dp.nl k _ _ (noL_pls _) h1, Dp.nl k _ _ (noL_pls _) h2, Dp.nl k _ _ (noL_pls _) h3, Dp.nl k _ _ (noL_st _) h4⟩
/-! ### a state of which the row of seals may be asked for its methods -/
def Fv (H : Hp) (v : V) : Prop := ∃ a xs, v = .ref a ∧ Fz H a xs
theorem Fv.nl {H H' : Hp} {v : V} (k : Nl H H') (h : Fv H v) : Fv H' v := by
  obtain ⟨a, xs, e, f⟩ := h
  exact ⟨a, xs, e, f.nl k⟩
structure StF (K : PySem.W.Frag) (H : Hp) (v : V) (d : Hs) : Prop where
  ex : ∃ a v1 v2 v3, v = .ref a ∧ SqT K H a [v1, v2, v3] ∧ Dp K H v1 (plsD d.bs) ∧ Dp K H v2 (plsD d.ts) ∧ Dp K H v3 (plsD d.ss) ∧ Fv H v3
theorem StF.dp {K : PySem.W.Frag} {H : Hp} {v : V} {d : Hs} (x : StF K H v d) : Dp K H v (stD d) := by
  obtain ⟨a, v1, v2, v3, rfl, s, d1, d2, d3, _⟩ := x.ex
  exact .tup s (.cons d1 (.cons d2 (.cons d3 .nil)))
theorem StF.nl {K : PySem.W.Frag} {H H' : Hp} {v : V} {d : Hs} (k : Nl H H') (x : StF K H v d) : StF K H' v d := by
  obtain ⟨a, v1, v2, v3, e, s, d1, d2, d3, f⟩ := x.ex
  exact ⟨a, v1, v2, v3, e, SqT.nl k s, Dp.nl k _ _ (noL_pls _) d1, Dp.nl k _ _ (noL_pls _) d2, Dp.nl k _ _ (noL_pls _) d3, f.nl k⟩
theorem StF.same {K : PySem.W.Frag} {H H' : Hp} {v : V} {d : Hs} (k : Same H H') (x : StF K H v d) : StF K H' v d := x.nl fun a o h _ _ => k a o h
def HouseF (K : PySem.W.Frag) (C : Addr) (H : Hp) (h : Addr) (d : Hs) : Prop := ∃ dx vb vt vs vst, H h = some (.ins C dx (hsFs d.hands vb vt vs vst)) ∧ StF K H vst d
theorem HouseF.nl {K : PySem.W.Frag} {C : Addr} {H H' : Hp} {h : Addr} {d : Hs} (k : Nl H H') (x : HouseF K C H h d) : HouseF K C H' h d := by
  obtain ⟨dx, vb, vt, vs, vst, h0, h1⟩ := x
  exact ⟨dx, vb, vt, vs, vst, k _ _ h0 (fun _ z => nomatch z) (fun _ z => nomatch z), h1.nl k⟩
/-- what the class House must say -/
structure HouseC (K : PySem.W.Frag) (C : Addr) : Prop where
  cl : Cls K C
  nH : NoAttr K C "hands"
  nB : NoAttr K C "boxes"
  nT : NoAttr K C "things"
  nS : NoAttr K C "seals"
  nSt : NoAttr K C "state"
/-! ### how_many -/
def manyOf (d : Hs) (w : Str) : Nat := if w = "box" then d.bs.length else if w = "seal" then d.ss.length else if w = "thing" then d.ts.length else 0
def spMany (K : PySem.W.Frag) (C : Addr) : Sp := fun vs H Q _ => ∃ (h : Addr) (d : Hs) (w : Str), vs = [.ref h, .str w] ∧ HouseAt K C H h d ∧ Q (.int (manyOf d w)) H
theorem scMany : FnScope ["house", "word"] ["house", "word"] (defScope sMany) := ⟨rfl, rfl, rfl, by decide +kernel, rfl, by decide +kernel, by decide +kernel⟩
theorem ok_many {f C : Addr} {fd : FuncData} (F : Fun K "how_many" "how_many" sMany f fd) (B : Bt mg) (T : HouseC K C) : FnOk P w K mg base CX0 1 f fd ["house", "word"] (spMany K C) := by
  refine F.ok scMany (fun vs H Q E h => ?_) (fun cdv A outer s H vs Q E hr h => ?_)
  · obtain ⟨h, d, w, rfl, _⟩ := h
    rfl
  · obtain ⟨h, d, w, rfl, hd, k⟩ := h
    obtain ⟨dx, vb, vt, vs, vst, h0, h1, h2, h3, h4⟩ := hd.ex
    obtain ⟨ab, xb, eb, qb, db, lb⟩ := pls_at h1
    obtain ⟨at', xt, et, qt, dt, lt⟩ := pls_at h2
    obtain ⟨as, xs, es, qs, ds, ls⟩ := pls_at h3
    subst eb et es
    refine ⟨_, pss_cons (ps_if (pt_cmpR op_eq (pv 1) pe_str (nomark _)) (pss_one (ps_ret (pe_callB call_len_seq (by rfl) B.len PySem.boot_len (pa_cons (pe_fld (pv 0) rfl) pa_nil)))) pss_nil)
      (pss_cons (ps_if (pt_cmpR op_eq (pv 1) pe_str (nomark _)) (pss_one (ps_ret (pe_callB call_len_seq (by rfl) B.len PySem.boot_len (pa_cons (pe_fld (pv 0) rfl) pa_nil)))) pss_nil)
      (pss_cons (ps_if (pt_cmpR op_eq (pv 1) pe_str (nomark _)) (pss_one (ps_ret (pe_callB call_len_seq (by rfl) B.len PySem.boot_len (pa_cons (pe_fld (pv 0) rfl) pa_nil)))) pss_nil)
      (pss_one (ps_ret pe_int)))), ?_⟩
    have e0 : ∀ (z : Str), decide ((V.str w) = V.str z) = decide (w = z) := fun z => by
      by_cases c : w = z
      · rw [decide_eq_true c, c]; exact decide_eq_true rfl
      · rw [decide_eq_false c]; exact decide_eq_false fun q => c (V.str.inj q)
    refine ⟨_, rfl, rfl, _, rfl, ?_⟩
    rw [e0]
    unfold manyOf at k
    refine ite2 (fun c => ?_) (fun c => ?_)
    · have c' := of_decide_eq_true c
      rw [if_pos c', ← lb] at k
      exact ⟨_, rfl, h, C, dx, _, _, rfl, h0, T.cl, T.nB, fs_boxes _ _ _ _ _, _, _, rfl, .inr qb, k⟩
    have c' : ¬ w = "box" := fun z => c (decide_eq_true z)
    rw [if_neg c'] at k
    refine ⟨_, rfl, rfl, _, rfl, ?_⟩
    rw [e0]
    refine ite2 (fun c => ?_) (fun c => ?_)
    · have c' := of_decide_eq_true c
      rw [if_pos c', ← ls] at k
      exact ⟨_, rfl, h, C, dx, _, _, rfl, h0, T.cl, T.nS, fs_seals _ _ _ _ _, _, _, rfl, .inr qs, k⟩
    have c' : ¬ w = "seal" := fun z => c (decide_eq_true z)
    rw [if_neg c'] at k
    refine ⟨_, rfl, rfl, _, rfl, ?_⟩
    rw [e0]
    refine ite2 (fun c => ?_) (fun c => ?_)
    · have c' := of_decide_eq_true c
      rw [if_pos c', ← lt] at k
      exact ⟨_, rfl, h, C, dx, _, _, rfl, h0, T.cl, T.nT, fs_things _ _ _ _ _, _, _, rfl, .inr qt, k⟩
    have c' : ¬ w = "thing" := fun z => c (decide_eq_true z)
    rw [if_neg c'] at k
    exact k
/-! ### is_place -/
def plOk (p : Pl) (hands boxes : Int) : Bool := if p.1 = .hand then numOk p.2 hands else decide (p.1 = .box) && numOk p.2 boxes
def spIsPl (K : PySem.W.Frag) : Sp := fun vs H Q _ => ∃ (x : V) (p : Pl) (n m : Int), vs = [x, .int n, .int m] ∧ Dp K H x (plD p) ∧ Q (.bl (plOk p n m)) H
theorem scIsPl : FnScope ["place", "hands", "boxes", "word", "number"] ["place", "hands", "boxes"] (defScope sIsPl) := ⟨rfl, rfl, rfl, by decide +kernel, rfl, by decide +kernel, by decide +kernel⟩
theorem decS (a b : Str) : decide ((V.str a) = V.str b) = decide (a = b) := by
  by_cases c : a = b
  · rw [decide_eq_true c, c]; exact decide_eq_true rfl
  · rw [decide_eq_false c]; exact decide_eq_false fun q => c (V.str.inj q)
theorem ok_ispl {f g : Addr} {fd fdg : FuncData} (F : Fun K "is_place" "is_place" sIsPl f fd) (FG : Fun K "is_number" "is_number" sNum g fdg) (B : Bt mg) (mG : mg "is_number" = some (.ref g)) (bG : Binds K fdg ["value", "limit"] []) : FnOk P w K mg base CX0 2 f fd ["place", "hands", "boxes"] (spIsPl K) := by
  have G : FnOk P w K mg base CX0 1 g fdg ["value", "limit"] spNum := ok_num FG B
  refine F.ok scIsPl (fun vs H Q E h => ?_) (fun cdv A outer s H vs Q E hr h => ?_)
  · obtain ⟨x, p, n, m, rfl, _⟩ := h
    rfl
  · obtain ⟨x, p, n, m, rfl, hp, k⟩ := h
    obtain ⟨a, rfl, q⟩ := pl_at hp
    refine ⟨_, pss_cons (ps_asg (pv 0) (pg_tup (by rfl) (pgs_cons (pg_name (i := 3) scIsPl.nd rfl (.inl rfl)) (pgs_cons (pg_name (i := 4) scIsPl.nd rfl (.inl rfl)) pgs_nil))))
      (pss_cons (ps_if (pt_cmpR op_eq (pv 3) pe_str (nomark _)) (pss_one (ps_ret (pe_call G hr rfl mG FG.kp bG .nil pass0 (pa_cons (pv 4) (pa_cons (pv 1) pa_nil))))) pss_nil)
      (pss_one (ps_ret (pe_and (pe_cmpR op_eq (pv 3) pe_str (nomark _)) (pe_one (pe_call G hr rfl mG FG.kp bG .nil pass0 (pa_cons (pv 4) (pa_cons (pv 2) pa_nil)))))))), ?_⟩
    refine ⟨_, rfl, a, _, rfl, q, rfl, _, _, rfl, _, _, rfl, rfl, ?_⟩
    refine ⟨_, rfl, rfl, _, rfl, ?_⟩
    rw [decS]
    unfold plOk at k
    obtain ⟨u, i⟩ := p
    cases u with
    | hand =>
      rw [if_pos rfl] at k
      refine iteT ⟨_, rfl, _, rfl, i, n, rfl, k⟩
    | box =>
      rw [if_neg (show ¬ Wd.box = Wd.hand by decide)] at k
      refine iteF ⟨_, rfl, rfl, true, rfl, iteT ⟨_, rfl, _, rfl, i, m, rfl, k⟩⟩
    | gone =>
      rw [if_neg (show ¬ Wd.gone = Wd.hand by decide)] at k
      exact iteF ⟨_, rfl, rfl, false, rfl, iteF k⟩

/-! ### InvalidHouse(part, index) -/
theorem onlyFree_by {sc : Scope} (h : (sc.names.all fun p => !decide (p.2 = .free) || decide (p.1 = ("__class__" : Str))) = true) : ∀ y, sc.names.lookup y = some .free → y = ("__class__" : Str) := fun y hy => by
  have m := PySem.mem_of_lookup hy
  have q := List.all_eq_true.mp h _ m
  simpa using q
/-- what the written part says of such a class, its __init__ (the text st, bound under qual), the method's cell -/
structure ExcI (P : Program) (K : PySem.W.Frag) (mg : Str → Option Value) (x qual : Str) (st : Stmt) (C f : Addr) (fd : FuncData) : Prop where
  sup : SupC P K mg C
  at_ : PySem.W.findIn K (.ref C) "__init__" = some (some (.ref f))
  ty : PySem.W.typeIn K (.ref f) = some (.type "function")
  mgC : mg x = some (.ref C)
  ex : ∃ (oc : Value) (od : Option Addr) (kV doc pm : Value) (an : Option Addr) (ct : Value) (osl : Array (Option Value)) (cc cda : Addr), fd = PySem.W.ksFn "__init__" qual (defArgs st) (defBody st) (defScope st) .none kV doc pm an (.ref cda) ct cc ∧
    K.lookup f = some ⟨oc, od, .func fd, osl⟩ ∧ PySem.W.codeIn K (.ref cda) qual = true ∧
    (∃ ccl cdd vsC ccs fileS tf, K.lookup cda = some ⟨ccl, cdd, .fields vsC, ccs⟩ ∧ vsC[2]? = some (.str fileS tf) ∧ ((P.main.file : Str) == fileS) = true) ∧
    (∃ cl cld csl, K.lookup cc = some ⟨cl, cld, .cell (some (.ref C)), csl⟩)
  bind : Binds K fd (["self", "part", "index"] : List Str) []
def ihFs (z : Str) (i : Int) : List (Str × V) := [("index", .int i), ("part", .str z)]
def spIH (C : Addr) : Sp := fun vs H Q _ => ∃ (a : Addr) (z : Str) (i : Int), vs = [.ref a, .str z, .int i] ∧ H a = some (exo a C none) ∧ z.length ≤ 1000 ∧ 0 ≤ i ∧ i ≤ 1000 ∧
  ∀ dx, H dx = none → dx ≠ a → Q .non (upd (upd (upd H dx (exd dx [("part", .str z)])) a (exo a C (some dx))) dx (exd dx (ihFs z i)))
theorem scIH : SupScope ["self", "part", "index"] (defScope sIH) :=
  ⟨rfl, rfl, rfl, by decide +kernel, by decide +kernel, by decide +kernel, onlyFree_by (by decide +kernel), by decide +kernel, by decide +kernel⟩
theorem log2_small {i : Int} (h0 : 0 ≤ i) (h1 : i ≤ 1000) : i.natAbs.log2 < 1920 := by
  have h2 : i.natAbs ≤ 1000 := by omega
  by_cases h3 : i.natAbs = 0
  · rw [h3]; decide
  · have := (Nat.log2_lt h3 (k := 10)).mpr (by omega)
    omega
theorem digits_small {i : Int} (h0 : 0 ≤ i) (h1 : i ≤ 1000) : (toString i : Str).length ≤ 4 := toString_length_le h0 (k := 4) (by decide) (by omega)
theorem ok_ih {CX : CXT} {C f : Addr} {fd : FuncData} (T : ExcI P K mg "InvalidHouse" "InvalidHouse.__init__" sIH C f fd) (nP : PySem.W.findIn K (.ref C) "part" = some none) (nI : PySem.W.findIn K (.ref C) "index" = some none) :
    FnOk P w K mg base CX 1 f fd ["self", "part", "index"] (spIH C) := by
  obtain ⟨oc, od, kV, doc, pm, an, ct, osl, cc, cda, rfl, lk, hcd, ⟨ccl, cdd, vsC, ccs, fileS, tf, hcode, hvs, hfile⟩, ⟨cl, cld, csl, hcell⟩⟩ := T.ex
  refine fn_super (pl := fun _ => _) T.sup lk hcd rfl rfl hcode hvs hfile hcell scIH (fun vs H Q E h => ?_) (fun _ => rfl) (fun _ => rfl) (fun _ => rfl) (fun A outer s H vs Q E hr h => ?_)
  · obtain ⟨a, z, i, rfl, _⟩ := h
    rfl
  · obtain ⟨a, z, i, rfl, ha, hz, hi0, hi1, k⟩ := h
    refine ⟨_, _, pe_joined (.cons (pe_fmt (pv 1)) (.cons pe_str (.cons (pe_fmt (pv 2)) .nil))), pss_cons (ps_ost (pv 0) (pv 1)) (pss_one (ps_ost (pv 0) (pv 2))), ⟨a, rfl, ha⟩, ?_⟩
    have l1 : (Str.empty : Str).length = 0 := rfl
    have l2 : (": wrong at index " : Str).length = 17 := by decide +kernel
    have l3 := digits_small hi0 hi1
    have l4 : ∀ a b : Str, (a ++ b).length = a.length + b.length := Str.length_append
    have l5 := sizeLine_eq
    have hs : H a ≠ none := by rw [ha]; intro q; cases q
    refine ⟨_, rfl, .inl ⟨z, rfl, by omega, z, rfl, by rw [l4]; omega, _, rfl, by rw [l4, l4]; omega, _, rfl, .inr ⟨i, rfl, log2_small hi0 hi1, _, rfl, by rw [l4, l4, l4]; omega, ⟨_, rfl⟩, a, rfl, ha, ?_⟩⟩⟩
    refine ⟨_, rfl, _, rfl, a, C, rfl, T.sup.oex, nP, .inl ⟨ha, fun dx hd ne => ?_⟩⟩
    refine ⟨_, rfl, _, rfl, a, C, rfl, T.sup.oex, nI, .inr ⟨dx, [("part", .str z)], upd_same, by rw [upd_ne ne, upd_same], (by show 1 ≤ 900; decide), ?_⟩⟩
    exact k dx hd ne

/-! ### what is raised -/
/-- InvalidHouse(part, i) is let out -/
def Ri (C : Addr) (z : Str) (i : Nat) (H : Hp) (E : XK) : Prop := ∀ dd H', Same H H' → H' dd = some (.xd (ihFs z i)) → E (.ref C) (some dd) H'
theorem Ri.same {C : Addr} {z : Str} {i : Nat} {H H' : Hp} {E : XK} (e : Same H H') (r : Ri C z i H E) : Ri C z i H' E := fun dd H2 e2 h => r dd H2 (e.trans e2) h
/-- the reading of InvalidHouse(z, i), told by Ri -/
theorem ih_made {C : Addr} {H : Hp} {E : XK} {z : Str} {i : Nat} (hz : z.length ≤ 1000) (hi : i ≤ 1000) (r : Ri C z i H E) :
    ∀ a, H a = none → spIH C (.ref a :: ([.str z, .int i] ++ [])) (upd H a (exo a C none))
      (fun v H2 => v = .non ∧ ∃ (d : Addr) (fs : List (Str × V)), H2 a = some (exo a C (some d)) ∧ H2 d = some (exd d fs) ∧ H d = none ∧ E (.ref C) (some d) (upd (del H2 a) d (.xd fs))) (fun _ _ _ => False) := fun a ha => by
  refine ⟨a, z, i, rfl, upd_same, hz, by omega, by omega, fun dx hd ne => ⟨rfl, dx, _, by rw [upd_ne ne.symm, upd_same], upd_same, by rw [upd_ne ne] at hd; exact hd, ?_⟩⟩
  have hdx : H dx = none := by rw [upd_ne ne] at hd; exact hd
  refine r dx _ (fun b o e => ?_) upd_same
  have n1 : b ≠ dx := ne_of_none e hdx
  have n2 : b ≠ a := ne_of_none e ha
  rw [upd_ne n1, del_ne n2, upd_ne n1, upd_ne n2, upd_ne n1, upd_ne n2]
  exact e
def firstBad (f : Nat → Pl → Bool) : Nat → List Pl → Option Nat
  | _, [] => none
  | i, p :: r => if f i p = true then some i else firstBad f (i + 1) r
/-- the search, seen from turn i on -/
theorem bad_at {f : Nat → Pl → Bool} {ps : List Pl} {i : Nat} {p : Pl} (h : ps[i]? = some p) : firstBad f i (ps.drop i) = if f i p = true then some i else firstBad f (i + 1) (ps.drop (i + 1)) := by
  obtain ⟨hl, he⟩ := List.getElem?_eq_some_iff.mp h
  rw [List.drop_eq_getElem_cons hl, he]
  rfl
theorem bad_end {f : Nat → Pl → Bool} {ps : List Pl} : firstBad f ps.length (ps.drop ps.length) = none := by
  rw [List.drop_length]
  rfl
def badB (n : Int) (i : Nat) (p : Pl) : Bool := decide (i = 3) || !plOk p n i
def badBoxes (n : Int) (bs : List Pl) : Option Nat := if bs.length = 0 then some 0 else firstBad (badB n) 0 bs
def spBoxes (K : PySem.W.Frag) (C : Addr) : Sp := fun vs H Q E => ∃ (n : Int) (x : V) (bs : List Pl), vs = [.int n, x] ∧ Dp K H x (plsD bs) ∧ bs.length ≤ 100 ∧
  (∀ i, badBoxes n bs = some i → Ri C "boxes" i H E) ∧ (badBoxes n bs = none → ∀ H', Same H H' → Q .non H')
/-- the module's constants -/
structure Cs (mg : Str → Option Value) : Prop where
  h : ∃ t, mg "MOST_HANDS" = some (.int 4 t)
  b : ∃ t, mg "MOST_BOXES" = some (.int 3 t)
  t : ∃ t, mg "MOST_THINGS" = some (.int 4 t)
  s : ∃ t, mg "MOST_SEALS" = some (.int 3 t)
theorem scBoxes : FnScope ["hands", "boxes", "index", "place"] ["hands", "boxes"] (defScope sBoxes) := ⟨rfl, rfl, rfl, by decide +kernel, rfl, by decide +kernel, by decide +kernel⟩
theorem ok_boxes {f g C fI : Addr} {fd fdg fdI : FuncData} (F : Fun K "need_boxes" "need_boxes" sBoxes f fd) (B : Bt mg) (Z : Cs mg) (G : FnOk P w K mg base CX0 2 g fdg ["place", "hands", "boxes"] (spIsPl K)) (mG : mg "is_place" = some (.ref g)) (kG : PySem.W.keepIn K (.ref g) = true) (bG : Binds K fdg ["place", "hands", "boxes"] [])
    (T : ExcI P K mg "InvalidHouse" "InvalidHouse.__init__" sIH C fI fdI) (GI : FnOk P w K mg base CX0 1 fI fdI ["self", "part", "index"] (spIH C)) : FnOk P w K mg base (L2.CX P w) 3 f fd ["hands", "boxes"] (spBoxes K C) := by
  obtain ⟨tb, mB⟩ := Z.b
  refine F.okX scBoxes (fun vs H Q E h => ?_) (fun cdv A outer s H vs Q E hr h => ?_)
  · obtain ⟨n, x, bs, rfl, _⟩ := h
    rfl
  · obtain ⟨n, x, bs, rfl, hx, hl, kE, kQ⟩ := h
    obtain ⟨ab, xb, rfl, qb, db, lb⟩ := pls_at hx
    have tk : Takes (cxOf (L2.CX P w) P w K mg base ["hands", "boxes", "index", "place"] "need_boxes" (defScope sBoxes) f cdv A outer s H E) (fun cls d _ H => E cls d H) := takes_of rfl rfl rfl rfl
    refine ⟨_, pss_cons (ps_if (pt_cmpR op_eq (pe_callB call_len_seq (by rfl) B.len PySem.boot_len (pa_cons (pv 1) pa_nil)) pe_int (nomark _)) (pss_one (ps_raise rfl tk (pmk_oex T.sup.oex T.at_ T.ty GI hr T.bind .nil pass0 rfl T.mgC (pa_cons pe_str (pa_cons pe_int pa_nil))))) pss_nil)
      (pss_one (ps_for (passes_of rfl) rfl (pi_enumT (by rfl) B.enu (pa_cons (pv 1) pa_nil)) (pg_tup (by rfl) (pgs_cons (pg_name (i := 2) scBoxes.nd rfl (.inl rfl)) (pgs_cons (pg_name (i := 3) scBoxes.nd rfl (.inl rfl)) pgs_nil)))
        (pss_one (ps_if (PW.pt (pw_or (pt_cmpR op_eq (pv 2) (pe_glob (v := .int 3) rfl mB ⟨_, rfl⟩) (nomark _)) (pw_or1 (pt_not (pt_val (pe_call G hr rfl mG kG bG .nil pass0 (pa_cons (pv 3) (pa_cons (pv 0) (pa_cons (pv 2) pa_nil)))))))))
          (pss_one (ps_raise rfl tk (pmk_oex T.sup.oex T.at_ T.ty GI hr T.bind .nil pass0 rfl T.mgC (pa_cons pe_str (pa_cons (pv 2) pa_nil))))) pss_nil)))), ?_⟩
    refine ⟨_, rfl, _, _, rfl, .inr qb, rfl, _, rfl, ?_⟩
    rw [lb]
    unfold badBoxes at kE kQ
    have i0 : decide ((V.int (bs.length : Nat)) = V.int 0) = decide (bs.length = 0) := by
      by_cases c : bs.length = 0
      · rw [decide_eq_true c, c]; rfl
      · rw [decide_eq_false c]; exact decide_eq_false fun q => c (by have := V.int.inj q; omega)
    rw [i0]
    refine ite2 (fun c => ?_) (fun c => ?_)
    · have c' := of_decide_eq_true c
      rw [if_pos c'] at kE
      exact ⟨(by show 2 ≤ 1000; decide), ih_made (by decide +kernel) (by decide) (kE 0 rfl)⟩
    have c' : ¬ bs.length = 0 := fun z => c (decide_eq_true z)
    rw [if_neg c'] at kE kQ
    refine ⟨_, rfl, ab, xb, rfl, qb, for_enumT (K := K) (a := ab) (xs := xb) (fun i σ H2 => ∃ v1 v2 : Option V, σ = [some (.int n), some (.ref ab), v1, v2] ∧ Same H H2 ∧ firstBad (badB n) 0 bs = firstBad (badB n) i (bs.drop i))
      ⟨none, none, rfl, Same.refl H, by rw [List.drop_zero]⟩ (fun i σ H2 _ ⟨_, _, _, e, _⟩ => SqT.same e qb) ?_ ?_⟩
    · rintro i y σ H2 T' hi ⟨v1, v2, rfl, e, hb⟩ hT
      obtain ⟨p, hp, hy⟩ := pls_get db hi
      have e2 : Same H (upd H2 T' (.tup [.int (i : Nat), y])) := Same.upd2 e hT
      refine ⟨T', _, rfl, SqT.of upd_same, rfl, _, _, rfl, _, _, rfl, rfl, ?_⟩
      have hi100 : i < bs.length := (List.getElem?_eq_some_iff.mp hp).1
      rw [bad_at hp] at hb
      refine ⟨_, rfl, rfl, _, rfl, ?_⟩
      have i3 : decide ((V.int (i : Nat)) = V.int 3) = decide (i = 3) := by
        by_cases c : i = 3
        · rw [decide_eq_true c, c]; rfl
        · rw [decide_eq_false c]; exact decide_eq_false fun q => c (by have := V.int.inj q; omega)
      rw [i3]
      have raised : badB n i p = true → ∀ Q', (∀ cls d H', E cls d H' → Q' cls d H') → Ri C "boxes" i (upd H2 T' (.tup [.int (i : Nat), y])) Q' := fun hbad Q' hQ' => by
        rw [if_pos hbad] at hb
        exact fun dd H' e' hdd => hQ' _ _ _ (kE i hb dd H' (e2.trans e') hdd)
      unfold badB at raised hb
      by_cases c3 : i = 3
      · rw [decide_eq_true c3] at raised ⊢
        refine iteT (iteT ?_)
        exact ⟨_, rfl, (by show 2 ≤ 1000; decide), ih_made (by decide +kernel) (by omega) (raised rfl _ fun _ _ _ h => h)⟩
      · rw [decide_eq_false c3] at raised hb ⊢
        refine iteF ⟨_, rfl, _, rfl, _, rfl, _, p, n, i, rfl, Dp.nl (fun a o h _ _ => e2 a o h) _ _ (noL_pl p) hy, _, rfl, ?_⟩
        cases cp : plOk p n i with
        | false =>
          rw [cp] at raised
          refine iteT ?_
          exact ⟨_, rfl, (by show 2 ≤ 1000; decide), ih_made (by decide +kernel) (by omega) (raised rfl _ fun _ _ _ h => h)⟩
        | true =>
          rw [cp] at hb
          refine iteF ?_
          exact ⟨_, _, rfl, e2, hb⟩
    · rintro σ H2 ⟨v1, v2, rfl, e, hb⟩
      rw [lb, bad_end] at hb
      exact kQ hb H2 e

/-! ### need_house -/
def badT (n m : Int) (i : Nat) (p : Pl) : Bool := decide (i = 4) || !plOk p n m
def badS (n m : Int) (ss : List Pl) (i : Nat) (p : Pl) : Bool := (decide (i = 3) || !plOk p n m) || (decide (p.1 = .box) && (ss.take i).any fun q => decide (q = p))
def errOf (n : Int) (bs ts ss : List Pl) : Option (Str × Nat) :=
  if (!numOk n 5 || decide (n = 0)) = true then some ("hands", 0) else
  match badBoxes n bs with
  | some i => some ("boxes", i)
  | none =>
    match firstBad (badT n bs.length) 0 ts with
    | some i => some ("things", i)
    | none =>
      match firstBad (badS n bs.length ss) 0 ss with
      | some i => some ("seals", i)
      | none => none
def spNeed (K : PySem.W.Frag) (C : Addr) : Sp := fun vs H Q E => ∃ (n : Int) (x y z : V) (bs ts ss : List Pl), vs = [.int n, x, y, z] ∧ Dp K H x (plsD bs) ∧ Dp K H y (plsD ts) ∧ Dp K H z (plsD ss) ∧ bs.length ≤ 100 ∧ ts.length ≤ 100 ∧ ss.length ≤ 100 ∧
  (∀ z i, errOf n bs ts ss = some (z, i) → Ri C z i H E) ∧ (errOf n bs ts ss = none → ∀ H', Same H H' → Q .non H')
theorem decI (i j : Nat) : decide ((V.int (i : Int)) = V.int (j : Int)) = decide (i = j) := by
  by_cases c : i = j
  · rw [decide_eq_true c, c]; exact decide_eq_true rfl
  · rw [decide_eq_false c]; exact decide_eq_false fun q => c (by have := V.int.inj q; omega)
theorem decZ (i j : Int) : decide ((V.int i) = V.int j) = decide (i = j) := by
  by_cases c : i = j
  · rw [decide_eq_true c, c]; exact decide_eq_true rfl
  · rw [decide_eq_false c]; exact decide_eq_false fun q => c (V.int.inj q)
theorem any_pl (p : Pl) : ∀ l : List Pl, ((l.map plD).any fun z => PyData.eqv z (plD p)) = l.any fun q => decide (q = p)
  | [] => rfl
  | a :: l => by
    rw [List.map_cons, List.any_cons, List.any_cons, any_pl p l, eqv_pl]
theorem same_nl {H H' : Hp} (e : Same H H') : Nl H H' := fun a o h _ _ => e a o h
theorem scNeed : FnScope ["hands", "boxes", "things", "seals", "index", "place"] ["hands", "boxes", "things", "seals"] (defScope sNeed) := ⟨rfl, rfl, rfl, by decide +kernel, rfl, by decide +kernel, by decide +kernel⟩
theorem ok_need {f g gb gn C fI : Addr} {fd fdg fdb fdn fdI : FuncData} (F : Fun K "need_house" "need_house" sNeed f fd) (B : Bt mg) (Z : Cs mg)
    (G : FnOk P w K mg base CX0 2 g fdg ["place", "hands", "boxes"] (spIsPl K)) (mG : mg "is_place" = some (.ref g)) (kG : PySem.W.keepIn K (.ref g) = true) (bG : Binds K fdg ["place", "hands", "boxes"] [])
    (GN : FnOk P w K mg base CX0 1 gn fdn ["value", "limit"] spNum) (mN : mg "is_number" = some (.ref gn)) (kN : PySem.W.keepIn K (.ref gn) = true) (bN : Binds K fdn ["value", "limit"] [])
    (GB : FnOk P w K mg base (L2.CX P w) 3 gb fdb ["hands", "boxes"] (spBoxes K C)) (mB : mg "need_boxes" = some (.ref gb)) (kB : PySem.W.keepIn K (.ref gb) = true) (bB : Binds K fdb ["hands", "boxes"] [])
    (T : ExcI P K mg "InvalidHouse" "InvalidHouse.__init__" sIH C fI fdI) (GI : FnOk P w K mg base CX0 1 fI fdI ["self", "part", "index"] (spIH C)) : FnOk P w K mg base (L2.CX P w) 4 f fd ["hands", "boxes", "things", "seals"] (spNeed K C) := by
  obtain ⟨th, mH⟩ := Z.h
  obtain ⟨tt, mT⟩ := Z.t
  obtain ⟨ts', mS⟩ := Z.s
  refine F.okX scNeed (fun vs H Q E h => ?_) (fun cdv A outer s H vs Q E hr h => ?_)
  · obtain ⟨n, x, y, z, bs, ts, ss, rfl, _⟩ := h
    rfl
  · obtain ⟨n, x, y, z, bs, ts, ss, rfl, hx, hy, hz, hl1, hl2, hl3, kE, kQ⟩ := h
    obtain ⟨ab, xb, rfl, qb, db, lb⟩ := pls_at hx
    obtain ⟨at', xt, rfl, qt, dt, lt⟩ := pls_at hy
    obtain ⟨as, xs, rfl, qs, ds, ls⟩ := pls_at hz
    have hr2 : Room 2 _ := hr.mono (by decide)
    have hr1 : Room 1 _ := hr.mono (by decide)
    have hu65 : (cxOf (L2.CX P w) P w K mg base ["hands", "boxes", "things", "seals", "index", "place"] "need_house" (defScope sNeed) f cdv A outer s H E).A.units + 65 < cLine := by have := hr.un; show (A.deeper _).units + 65 < cLine; omega
    have tk : Takes (cxOf (L2.CX P w) P w K mg base ["hands", "boxes", "things", "seals", "index", "place"] "need_house" (defScope sNeed) f cdv A outer s H E) (fun cls d _ H => E cls d H) := takes_of rfl rfl rfl rfl
    refine ⟨_, pss_cons (ps_if (PW.pt (pw_or (pt_not (pt_val (pe_call GN hr1 rfl mN kN bN .nil pass0 (pa_cons (pv 0) (pa_cons (pe_op op_add (pe_glob (v := .int 4) rfl mH ⟨_, rfl⟩) pe_int) pa_nil))))) (pw_or1 (pt_cmpR op_eq (pv 0) pe_int (nomark _)))))
        (pss_one (ps_raise rfl tk (pmk_oex T.sup.oex T.at_ T.ty GI hr2 T.bind .nil pass0 rfl T.mgC (pa_cons pe_str (pa_cons pe_int pa_nil))))) pss_nil)
      (pss_cons (ps_expr (pe_call GB hr rfl mB kB bB .nil (passes_call tk (fun _ _ _ _ h => h)) (pa_cons (pv 0) (pa_cons (pv 1) pa_nil))))
      (pss_cons (ps_for (passes_of rfl) rfl (pi_enumT (by rfl) B.enu (pa_cons (pv 2) pa_nil)) (pg_tup (by rfl) (pgs_cons (pg_name (i := 4) scNeed.nd rfl (.inl rfl)) (pgs_cons (pg_name (i := 5) scNeed.nd rfl (.inl rfl)) pgs_nil)))
        (pss_one (ps_if (PW.pt (pw_or (pt_cmpR op_eq (pv 4) (pe_glob (v := .int 4) rfl mT ⟨_, rfl⟩) (nomark _)) (pw_or1 (pt_not (pt_val (pe_call G hr2 rfl mG kG bG .nil pass0 (pa_cons (pv 5) (pa_cons (pv 0) (pa_cons (pe_callB call_len_seq (by rfl) B.len PySem.boot_len (pa_cons (pv 1) pa_nil)) pa_nil)))))))))
          (pss_one (ps_raise rfl tk (pmk_oex T.sup.oex T.at_ T.ty GI hr2 T.bind .nil pass0 rfl T.mgC (pa_cons pe_str (pa_cons (pv 4) pa_nil))))) pss_nil)))
      (pss_one (ps_for (passes_of rfl) rfl (pi_enumT (by rfl) B.enu (pa_cons (pv 3) pa_nil)) (pg_tup (by rfl) (pgs_cons (pg_name (i := 4) scNeed.nd rfl (.inl rfl)) (pgs_cons (pg_name (i := 5) scNeed.nd rfl (.inl rfl)) pgs_nil)))
        (pss_cons (ps_if (PW.pt (pw_or (pt_cmpR op_eq (pv 4) (pe_glob (v := .int 3) rfl mS ⟨_, rfl⟩) (nomark _)) (pw_or1 (pt_not (pt_val (pe_call G hr2 rfl mG kG bG .nil pass0 (pa_cons (pv 5) (pa_cons (pv 0) (pa_cons (pe_callB call_len_seq (by rfl) B.len PySem.boot_len (pa_cons (pv 1) pa_nil)) pa_nil)))))))))
          (pss_one (ps_raise rfl tk (pmk_oex T.sup.oex T.at_ T.ty GI hr2 T.bind .nil pass0 rfl T.mgC (pa_cons pe_str (pa_cons (pv 4) pa_nil))))) pss_nil)
        (pss_one (ps_if (PW.pt (pw_and (pt_cmpR op_eq (pe_ix ix_tup (pv 5) pe_int (fun _ _ => rfl)) pe_str (nomark _)) (pw_and1 (pt_cmpR (op_inDT hu65) (pv 5) (pe_slice sl_tupA (pv 3) po_none (po_some (pv 4))) (by rfl)))))
          (pss_one (ps_raise rfl tk (pmk_oex T.sup.oex T.at_ T.ty GI hr2 T.bind .nil pass0 rfl T.mgC (pa_cons pe_str (pa_cons (pv 4) pa_nil))))) pss_nil))))))), ?_⟩
    refine ⟨_, rfl, _, _, rfl, rfl, n, 5, rfl, _, rfl, ?_⟩
    unfold errOf at kE kQ
    by_cases c0 : (!numOk n 5 || decide (n = 0)) = true
    · rw [if_pos c0] at kE
      have rz : tMkO C (spIH C) [] (tCons (tC (.str "hands")) (tCons (tC (.int 0)) tNil)) (start ["hands", "boxes", "things", "seals", "index", "place"] [.int n, .ref ab, .ref at', .ref as]) H (fun cls d H' => E cls d H') :=
        ⟨(by show 2 ≤ 1000; decide), ih_made (by decide +kernel) (by decide) (kE _ 0 rfl)⟩
      cases c1 : numOk n 5 with
      | false => exact iteT (iteT rz)
      | true =>
        refine iteF ⟨_, rfl, rfl, _, rfl, ?_⟩
        rw [decZ]
        rw [c1] at c0
        have c2 : decide (n = 0) = true := c0
        rw [c2]
        exact iteT rz
    rw [if_neg c0] at kE kQ
    have c1 : numOk n 5 = true := by
      cases c : numOk n 5 with
      | true => rfl
      | false => rw [c] at c0; exact absurd rfl c0
    have c2 : decide (n = 0) = false := by
      cases c : decide (n = 0) with
      | false => rfl
      | true => rw [c1, c] at c0; exact absurd rfl c0
    rw [c1]
    refine iteF ⟨_, rfl, rfl, _, rfl, ?_⟩
    rw [decZ, c2]
    refine iteF ?_
    -- need_boxes(hands, boxes)
    refine ⟨_, rfl, _, rfl, n, .ref ab, bs, rfl, hx, hl1, fun i hi => ?_, fun hb H1 e1 => ?_⟩
    · rw [hi] at kE
      exact kE _ i rfl
    rw [hb] at kE kQ
    have eqH : ∀ (m : Nat), decide ((V.int (m : Nat)) = V.int 4) = decide (m = 4) := fun m => decI m 4
    have eqH3 : ∀ (m : Nat), decide ((V.int (m : Nat)) = V.int 3) = decide (m = 3) := fun m => decI m 3
    -- for index, place in enumerate(things)
    refine ⟨_, rfl, at', xt, rfl, SqT.same e1 qt, for_enumT (K := K) (a := at') (xs := xt) (fun i σ H2 => ∃ v1 v2 : Option V, σ = [some (.int n), some (.ref ab), some (.ref at'), some (.ref as), v1, v2] ∧ Same H H2 ∧ firstBad (badT n bs.length) 0 ts = firstBad (badT n bs.length) i (ts.drop i))
      ⟨none, none, rfl, e1, by rw [List.drop_zero]⟩ (fun i σ H2 _ ⟨_, _, _, e, _⟩ => SqT.same e qt) ?_ ?_⟩
    · rintro i y σ H2 T' hi ⟨v1, v2, rfl, e, hb2⟩ hT
      obtain ⟨p, hp, hy2⟩ := pls_get dt hi
      have e2 : Same H (upd H2 T' (.tup [.int (i : Nat), y])) := Same.upd2 e hT
      refine ⟨T', _, rfl, SqT.of upd_same, rfl, _, _, rfl, _, _, rfl, rfl, ?_⟩
      have hi100 : i < ts.length := (List.getElem?_eq_some_iff.mp hp).1
      rw [bad_at hp] at hb2
      refine ⟨_, rfl, rfl, _, rfl, ?_⟩
      rw [eqH]
      have raised : badT n bs.length i p = true → Ri C "things" i (upd H2 T' (.tup [.int (i : Nat), y])) E := fun hbad => by
        rw [if_pos hbad] at hb2
        rw [hb2] at kE
        exact fun dd H' e' hdd => kE _ i rfl dd H' (e2.trans e') hdd
      unfold badT at raised hb2
      by_cases c3 : i = 4
      · rw [decide_eq_true c3] at raised ⊢
        refine iteT (iteT ?_)
        exact ⟨_, rfl, (by show 2 ≤ 1000; decide), ih_made (by decide +kernel) (by omega) (raised rfl)⟩
      · rw [decide_eq_false c3] at raised hb2 ⊢
        refine iteF ⟨_, rfl, _, rfl, _, rfl, ab, xb, rfl, .inr (SqT.same e2 qb), _, p, n, xb.length, rfl, Dp.nl (same_nl e2) _ _ (noL_pl p) hy2, _, rfl, ?_⟩
        rw [lb]
        cases cp : plOk p n bs.length with
        | false =>
          rw [cp] at raised
          refine iteT ?_
          exact ⟨_, rfl, (by show 2 ≤ 1000; decide), ih_made (by decide +kernel) (by omega) (raised rfl)⟩
        | true =>
          rw [cp] at hb2
          exact iteF ⟨_, _, rfl, e2, hb2⟩
    rintro σ H2 ⟨v1, v2, rfl, e, hb2⟩
    rw [lt, bad_end] at hb2
    rw [hb2] at kE kQ
    -- for index, place in enumerate(seals)
    refine ⟨_, rfl, as, xs, rfl, SqT.same e qs, for_enumT (K := K) (a := as) (xs := xs) (fun i σ H2 => ∃ v1 v2 : Option V, σ = [some (.int n), some (.ref ab), some (.ref at'), some (.ref as), v1, v2] ∧ Same H H2 ∧ firstBad (badS n bs.length ss) 0 ss = firstBad (badS n bs.length ss) i (ss.drop i))
      ⟨_, _, rfl, e, by rw [List.drop_zero]⟩ (fun i σ H2 _ ⟨_, _, _, e, _⟩ => SqT.same e qs) ?_ ?_⟩
    · rintro i y σ H3 T' hi ⟨v1, v2, rfl, e, hb2⟩ hT
      obtain ⟨p, hp, hy2⟩ := pls_get ds hi
      have e2 : Same H (upd H3 T' (.tup [.int (i : Nat), y])) := Same.upd2 e hT
      refine ⟨T', _, rfl, SqT.of upd_same, rfl, _, _, rfl, _, _, rfl, rfl, ?_⟩
      have hi100 : i < ss.length := (List.getElem?_eq_some_iff.mp hp).1
      rw [bad_at hp] at hb2
      refine ⟨_, rfl, rfl, _, rfl, ?_⟩
      rw [eqH3]
      have raised : badS n bs.length ss i p = true → ∀ H', Same H H' → Ri C "seals" i H' E := fun hbad H' eh => by
        rw [if_pos hbad] at hb2
        rw [hb2] at kE
        exact fun dd H'' e' hdd => kE _ i rfl dd H'' (eh.trans e') hdd
      unfold badS at raised hb2
      by_cases c3 : i = 3
      · rw [decide_eq_true c3] at raised ⊢
        refine iteT (iteT ?_)
        exact ⟨_, rfl, (by show 2 ≤ 1000; decide), ih_made (by decide +kernel) (by omega) (raised rfl _ e2)⟩
      · rw [decide_eq_false c3] at raised hb2 ⊢
        refine iteF ⟨_, rfl, _, rfl, _, rfl, ab, xb, rfl, .inr (SqT.same e2 qb), _, p, n, xb.length, rfl, Dp.nl (same_nl e2) _ _ (noL_pl p) hy2, _, rfl, ?_⟩
        rw [lb]
        cases cp : plOk p n bs.length with
        | false =>
          rw [cp] at raised
          refine iteT ?_
          exact ⟨_, rfl, (by show 2 ≤ 1000; decide), ih_made (by decide +kernel) (by omega) (raised rfl _ e2)⟩
        | true =>
          rw [cp] at raised hb2
          refine iteF ?_
          -- if place[0] == 'box' and place in seals[:index]
          obtain ⟨ap, rfl, qp⟩ := pl_at (Dp.nl (same_nl e2) _ _ (noL_pl p) hy2)
          refine ⟨_, rfl, ap, _, 0, _, rfl, rfl, qp, rfl, rfl, _, rfl, ?_⟩
          rw [decS]
          cases cw : p.1 with
          | hand =>
            rw [cw] at hb2
            exact iteF (iteF ⟨_, _, rfl, e2, hb2⟩)
          | gone =>
            rw [cw] at hb2
            exact iteF (iteF ⟨_, _, rfl, e2, hb2⟩)
          | box =>
            rw [cw] at raised hb2
            have hxl : i < xs.length := by omega
            refine iteT ⟨_, rfl, _, rfl, _, rfl, _, rfl, as, xs, rfl, SqT.same e2 qs, fun hw => ?_, fun hw T2 hT2 => ?_⟩
            · exfalso
              have h1 := hw.2
              rw [HT.sIx_nat] at h1
              omega
            · have e3 : Same H (upd (upd H3 T' (.tup [.int (i : Nat), .ref ap])) T2 (.tup (cutV xs none (some (i : Int))))) := Same.upd2 e2 hT2
              have ecut : cutV xs none (some (i : Int)) = xs.take i := by
                unfold cutV
                rw [HT.sIx_none, HT.sIx_nat, List.drop_zero, Nat.sub_zero, Nat.min_eq_left (by omega)]
              rw [ecut] at e3 ⊢
              refine ⟨plD p, (ss.take i).map plD, Dp.nl (same_nl e3) _ _ (noL_pl p) hy2, .tup (SqT.of upd_same) ?_, shaped_pl p, shaped_pls (ss.take i), _, rfl, ?_⟩
              · rw [List.map_take]
                exact DpAll.take i (Dp.sames e3 _ _ ds)
              · rw [any_pl]
                cases ca : (ss.take i).any fun q => decide (q = p) with
                | true =>
                  rw [ca] at raised
                  refine iteT ?_
                  exact ⟨_, rfl, (by show 2 ≤ 1000; decide), ih_made (by decide +kernel) (by omega) (raised rfl _ e3)⟩
                | false =>
                  rw [ca] at hb2
                  exact iteF ⟨_, _, rfl, e3, hb2⟩
    rintro σ H3 ⟨v1, v2, rfl, e, hb3⟩
    rw [ls, bad_end] at hb3
    rw [hb3] at kQ
    exact kQ rfl H3 e
end
end Kw


set_option Elab.async false
set_option linter.all false
set_option maxRecDepth 100000
set_option maxHeartbeats 4000000
namespace Kw
open PySem PySem.Spec PyProof.Rows L2
section
variable {P : Program} {w : World} {K : PySem.W.Frag} {mg : Str → Option Value} {base : Heap}
/-! ### House(hands, boxes, things, seals) -/
/-- all but what stands at h -/
def But (h : Addr) (H H' : Hp) : Prop := ∀ a o, H a = some o → a ≠ h → H' a = some o
def spHouse (K : PySem.W.Frag) (C CE : Addr) : Sp := fun vs H Q E => ∃ (h dx : Addr) (n : Int) (x y z : V) (bs ts ss : List Pl), vs = [.ref h, .int n, x, y, z] ∧ H h = some (.ins C dx []) ∧ Dp K H x (plsD bs) ∧ Dp K H y (plsD ts) ∧ Dp K H z (plsD ss) ∧ bs.length ≤ 100 ∧ ts.length ≤ 100 ∧ ss.length ≤ 100 ∧
  (∀ z i, errOf n bs ts ss = some (z, i) → Ri CE z i H E) ∧ (errOf n bs ts ss = none → ∀ H', But h H H' → HouseAt K C H' h ⟨n, bs, ts, ss⟩ → (Fv H z → HouseF K C H' h ⟨n, bs, ts, ss⟩) → Q .non H')
theorem scInit : FnScope ["self", "hands", "boxes", "things", "seals"] ["self", "hands", "boxes", "things", "seals"] (defScope sInit) := ⟨rfl, rfl, rfl, by decide +kernel, rfl, by decide +kernel, by decide +kernel⟩
theorem ok_house {f g C CE : Addr} {fd fdg : FuncData} (F : Fun K "__init__" "House.__init__" sInit f fd) (B : Bt mg) (T : HouseC K C)
    (G : FnOk P w K mg base (L2.CX P w) 4 g fdg ["hands", "boxes", "things", "seals"] (spNeed K CE)) (mG : mg "need_house" = some (.ref g)) (kG : PySem.W.keepIn K (.ref g) = true) (bG : Binds K fdg ["hands", "boxes", "things", "seals"] []) :
    FnOk P w K mg base (L2.CX P w) 5 f fd ["self", "hands", "boxes", "things", "seals"] (spHouse K C CE) := by
  refine F.okX scInit (fun vs H Q E h => ?_) (fun cdv A outer s H vs Q E hr h => ?_)
  · obtain ⟨h, dx, n, x, y, z, bs, ts, ss, rfl, _⟩ := h
    rfl
  · obtain ⟨h, dx, n, x, y, z, bs, ts, ss, rfl, hh, hx, hy, hz, hl1, hl2, hl3, kE, kQ⟩ := h
    obtain ⟨ab, xb, rfl, qb, db, lb⟩ := pls_at hx
    obtain ⟨at', xt, rfl, qt, dt, lt⟩ := pls_at hy
    obtain ⟨as, xs, rfl, qs, ds, ls⟩ := pls_at hz
    have tk : Takes (cxOf (L2.CX P w) P w K mg base ["self", "hands", "boxes", "things", "seals"] "House.__init__" (defScope sInit) f cdv A outer s H E) (fun cls d _ H => E cls d H) := takes_of rfl rfl rfl rfl
    refine ⟨_, pss_cons (ps_expr (pe_call G hr rfl mG kG bG .nil (passes_call tk (fun _ _ _ _ h => h)) (pa_cons (pv 1) (pa_cons (pv 2) (pa_cons (pv 3) (pa_cons (pv 4) pa_nil))))))
      (pss_cons (ps_fld (pv 0) (pv 1) rfl)
      (pss_cons (ps_fld (pv 0) (pe_callTy call_tuple_of (by rfl) B.tup (by decide +kernel) (pa_cons (pv 2) pa_nil)) rfl)
      (pss_cons (ps_fld (pv 0) (pe_callTy call_tuple_of (by rfl) B.tup (by decide +kernel) (pa_cons (pv 3) pa_nil)) rfl)
      (pss_cons (ps_fld (pv 0) (pe_callTy call_tuple_of (by rfl) B.tup (by decide +kernel) (pa_cons (pv 4) pa_nil)) rfl)
      (pss_one (ps_fld (pv 0) (pe_tup (pa_cons (pe_fld (pv 0) rfl) (pa_cons (pe_fld (pv 0) rfl) (pa_cons (pe_fld (pv 0) rfl) pa_nil)))) rfl)))))), ?_⟩
    refine ⟨_, rfl, _, rfl, _, rfl, _, rfl, n, .ref ab, .ref at', .ref as, bs, ts, ss, rfl, hx, hy, hz, hl1, hl2, hl3, kE, fun he H1 e1 => ?_⟩
    have h1 := e1 _ _ hh
    have tu : ∀ {a : Addr} {us : List V} {o : HO}, SqT K H a us → SqT K (upd H1 h o) a us := fun {a us o} q => by
      rcases SqT.same e1 q with (q | ⟨ob, q⟩) | q
      · exact .inl (.inl (by rw [upd_ne (ne_of q h1 (by intro z; cases z))]; exact q))
      · exact .inl (.inr ⟨ob, by rw [upd_ne (ne_of q h1 (by intro z; cases z))]; exact q⟩)
      · exact .inr q
    refine ⟨_, rfl, _, rfl, h, C, dx, _, rfl, h1, T.cl, T.nH, (by show 0 < 1000; decide), ?_⟩
    refine ⟨_, rfl, ab, xb, rfl, .inr ⟨tu qb, _, rfl, h, C, dx, _, rfl, upd_same, T.cl, T.nB, (by show 1 < 1000; decide), ?_⟩⟩
    rw [upd_upd]
    refine ⟨_, rfl, at', xt, rfl, .inr ⟨tu qt, _, rfl, h, C, dx, _, rfl, upd_same, T.cl, T.nT, ?_, ?_⟩⟩
    · have a3 := length_putF "boxes" (.ref ab) (putF "hands" (.int n) [])
      have a4 := length_putF "hands" (.int n) []
      have a5 : ([] : List (Str × V)).length = 0 := rfl
      omega
    rw [upd_upd]
    refine ⟨_, rfl, as, xs, rfl, .inr ⟨tu qs, _, rfl, h, C, dx, _, rfl, upd_same, T.cl, T.nS, ?_, ?_⟩⟩
    · have a2 := length_putF "things" (.ref at') (putF "boxes" (.ref ab) (putF "hands" (.int n) []))
      have a3 := length_putF "boxes" (.ref ab) (putF "hands" (.int n) [])
      have a4 := length_putF "hands" (.int n) []
      have a5 : ([] : List (Str × V)).length = 0 := rfl
      omega
    rw [upd_upd]
    have lk1 : (putF "seals" (.ref as) (putF "things" (.ref at') (putF "boxes" (.ref ab) (putF "hands" (.int n) [])))).lookup ("boxes" : Str) = some (V.ref ab) := by
      rw [lookup_putF, if_neg (by decide +kernel), lookup_putF, if_neg (by decide +kernel), lookup_putF, if_pos rfl]
    have lk2 : (putF "seals" (.ref as) (putF "things" (.ref at') (putF "boxes" (.ref ab) (putF "hands" (.int n) [])))).lookup ("things" : Str) = some (V.ref at') := by
      rw [lookup_putF, if_neg (by decide +kernel), lookup_putF, if_pos rfl]
    have lk3 : (putF "seals" (.ref as) (putF "things" (.ref at') (putF "boxes" (.ref ab) (putF "hands" (.int n) [])))).lookup ("seals" : Str) = some (V.ref as) := by
      rw [lookup_putF, if_pos rfl]
    refine ⟨_, rfl, h, C, dx, _, .ref ab, rfl, upd_same, T.cl, T.nB, lk1, _, rfl, h, C, dx, _, .ref at', rfl, upd_same, T.cl, T.nT, lk2, _, rfl, h, C, dx, _, .ref as, rfl, upd_same, T.cl, T.nS, lk3, (by show 3 ≤ sizeLine; decide), fun p hp => ?_⟩
    have nph : p ≠ h := fun e => by
      rw [e, upd_same] at hp
      cases hp
    refine ⟨_, rfl, h, C, dx, _, rfl, by rw [upd_ne nph.symm, upd_same], T.cl, T.nSt, ?_, ?_⟩
    · have a1 := length_putF "seals" (.ref as) (putF "things" (.ref at') (putF "boxes" (.ref ab) (putF "hands" (.int n) [])))
      have a2 := length_putF "things" (.ref at') (putF "boxes" (.ref ab) (putF "hands" (.int n) []))
      have a3 := length_putF "boxes" (.ref ab) (putF "hands" (.int n) [])
      have a4 := length_putF "hands" (.int n) []
      have a5 : ([] : List (Str × V)).length = 0 := rfl
      omega
    have hpH : H1 p = none := by rw [upd_ne nph] at hp; exact hp
    have key : ∀ b o, H b = some o → b ≠ h → (upd (upd (upd H1 h (.ins C dx (putF "seals" (.ref as) (putF "things" (.ref at') (putF "boxes" (.ref ab) (putF "hands" (.int n) [])))))) p (.tup [.ref ab, .ref at', .ref as])) h (.ins C dx (hsFs n (.ref ab) (.ref at') (.ref as) (.ref p)))) b = some o := fun b o e ne => by
      rw [upd_ne ne, upd_ne (ne_of_none (e1 b o e) hpH), upd_ne ne]
      exact e1 b o e
    have dps : ∀ (v : V) (ps : List Pl), Dp K H v (plsD ps) → Dp K (upd (upd (upd H1 h (.ins C dx (putF "seals" (.ref as) (putF "things" (.ref at') (putF "boxes" (.ref ab) (putF "hands" (.int n) [])))))) p (.tup [.ref ab, .ref at', .ref as])) h (.ins C dx (hsFs n (.ref ab) (.ref at') (.ref as) (.ref p)))) v (plsD ps) := fun v ps q =>
      Dp.tp (fun b xs e => by
        rcases e with e | ⟨o, e⟩
        · exact .inl (key b _ e (ne_of e hh (by intro z; cases z)))
        · exact .inr ⟨o, key b _ e (ne_of e hh (by intro z; cases z))⟩) _ _ (noL_pls ps) q
    refine kQ he _ key ⟨dx, _, _, _, _, upd_same, dps _ _ hx, dps _ _ hy, dps _ _ hz, ?_⟩ (fun hf => ⟨dx, _, _, _, _, upd_same, ⟨p, _, _, _, rfl, SqT.of (by rw [upd_ne nph, upd_same]), dps _ _ hx, dps _ _ hy, dps _ _ hz, ?_⟩⟩)
    rotate_left
    · obtain ⟨a0, x0, e0, o0, f0, f1, f2⟩ := hf
      exact ⟨a0, x0, e0, o0, key _ _ f0 (ne_of f0 hh (by intro z; cases z)), f1, f2⟩
    exact .tup (SqT.of (by rw [upd_ne nph, upd_same])) (.cons (dps _ _ hx) (.cons (dps _ _ hy) (.cons (dps _ _ hz) .nil)))

/-! ### items -/
def itD (k : Str) (i : Nat) : PyData := .tuple [.str k, .int i]
def kindD (k : Str) (n : Nat) : List PyData := (List.range n).map (itD k)
theorem wipe_one (σ : L2.St) (j : Nat) (x : Option V) : wipe ((wipe σ [j]).set j x) [j] = wipe σ [j] := by
  show (((σ.set j none).set j x).set j none) = σ.set j none
  rw [List.set_set, List.set_set]
theorem yes_lc {A B : Hp → Prop} {σ : L2.St} {H : Hp} (h : A H) : tYes σ H (fun b H3 => if b = true then A H3 else B H3) := by
  show (if true = true then A H else B H)
  rw [if_pos rfl]
  exact h
/-- [(k, number) for number in range(n)], the number's slot j -/
theorem lc_kind {K : PySem.W.Frag} {σ : L2.St} {H1 : Hp} {Dl : Addr} {Qd : Hp → Prop} (k : Str) (n j : Nat) (hj : j < σ.length) (hn : n ≤ 1000) (hD : H1 Dl = none)
    (hd : ∀ H xs, Same H1 H → H Dl = some (.lst xs) → DpAll K H xs (kindD k n) → Qd H) :
    ∃ W : Nat → Nat → Hp → Prop, (∃ m, W 0 m (upd H1 Dl (.lst []))) ∧ ∀ i m H, W i m H →
      ((Itr 0 n).stop i H ∧ Qd H) ∨ ((Itr 0 n).go i H ∧ ∃ Nx : Hp → Prop, (∀ H', Nx H' → ∃ m', m' < m ∧ W (i + 1) m' H') ∧ ∀ x H', (Itr 0 n).yld i H x H' → gName j x (wipe σ [j]) H' fun σ2 H2 => wipe σ2 [j] = wipe σ [j] ∧ tYes σ2 H2 fun b H3 =>
        if b = true then tTup (tCons (tC (.str k)) (tCons (tVar j) tNil)) σ2 H3 fun y H4 => ∃ acc, H4 Dl = some (.lst acc) ∧ acc.length < sizeLine ∧ Nx (upd H4 Dl (.lst (acc ++ [y]))) else Nx H3) := by
  refine lc_range (lo := 0) (n := n) (fun i H => Same H1 H ∧ ∃ xs, H Dl = some (.lst xs) ∧ DpAll K H xs (kindD k i) ∧ xs.length = i) ⟨same_upd hD, [], upd_same, .nil, rfl⟩ ?_ ?_
  · rintro i H hi ⟨e, xs, hx, dx, lx⟩
    refine ⟨wipe_one σ j _, ?_⟩
    refine yes_lc ?_
    refine ⟨_, List.getElem?_set_self (by rw [wipe_length]; exact hj), (by show 2 ≤ sizeLine; decide), fun p hp => ?_⟩
    have np : Dl ≠ p := ne_of_none hx hp
    refine ⟨xs, by rw [upd_ne np]; exact hx, by rw [lx, sizeLine_eq]; omega, ?_⟩
    have e2 : Same H1 (upd (upd H p (.tup [.str k, .int (0 + (i : Int))])) Dl (.lst (xs ++ [.ref p]))) := fun b o q => by
      rw [upd_ne (ne_of_none q hD), upd_ne (ne_of_none (e b o q) hp)]
      exact e b o q
    refine ⟨e2, xs ++ [.ref p], upd_same, ?_, by rw [List.length_append, lx]; rfl⟩
    have ek : kindD k (i + 1) = kindD k i ++ [itD k i] := by
      unfold kindD
      rw [List.range_succ, List.map_append]
      rfl
    rw [ek]
    have tp : Tp H (upd (upd H p (.tup [.str k, .int (0 + (i : Int))])) Dl (.lst (xs ++ [.ref p]))) := fun b us r => by
      rcases r with r | ⟨o, r⟩
      · exact .inl (by rw [upd_ne (ne_of r hx (by intro z; cases z)), upd_ne (ne_of_none r hp)]; exact r)
      · exact .inr ⟨o, by rw [upd_ne (ne_of r hx (by intro z; cases z)), upd_ne (ne_of_none r hp)]; exact r⟩
    refine DpAll.app (Dp.tps tp _ _ (noLs_map _ (fun _ => rfl) _) dx) (.cons (.tup (SqT.of (xs := [.str k, .int (0 + (i : Int))]) (by rw [upd_ne np.symm, upd_same])) (.cons (.str k) (.cons ?_ .nil))) .nil)
    rw [Int.zero_add]
    exact .int _
  · rintro H ⟨e, xs, hx, dx, lx⟩
    exact hd H xs e hx dx
def itemsD (d : Hs) : PyData := .list (kindD "box" d.bs.length ++ kindD "seal" d.ss.length ++ kindD "thing" d.ts.length)
def spItems (K : PySem.W.Frag) (C : Addr) : Sp := fun vs H Q _ => ∃ (h : Addr) (d : Hs), vs = [.ref h] ∧ HouseAt K C H h d ∧ d.bs.length ≤ 100 ∧ d.ts.length ≤ 100 ∧ d.ss.length ≤ 100 ∧ ∀ p H' xs, Same H H' → H p = none → H' p = some (.lst xs) → Dp K H' (.ref p) (itemsD d) → Q (.ref p) H'
theorem scItems : FnScope ["self", "boxes", "seals", "things", "number"] ["self"] (defScope sItems) := ⟨rfl, rfl, rfl, by decide +kernel, rfl, by decide +kernel, by decide +kernel⟩
theorem ok_items {f C : Addr} {fd : FuncData} (F : Fun K "all_items" "House.all_items" sItems f fd) (B : Bt mg) (T : HouseC K C) : FnOk P w K mg base CX0 1 f fd ["self"] (spItems K C) := by
  refine F.ok scItems (fun vs H Q E h => ?_) (fun cdv A outer s H vs Q E hr h => ?_)
  · obtain ⟨h, d, rfl, _⟩ := h
    rfl
  · obtain ⟨h, d, rfl, hh, l1, l2, l3, k⟩ := h
    refine ⟨_, pss_cons (ps_setLc (i := 1) (own := [("number", 4)]) (g := gName 4) (tt := tYes) (te := tTup (tCons (tC (.str "box")) (tCons (tVar 4) tNil))) rfl scItems.nd rfl rfl (sw_true rfl rfl rfl (by decide +kernel)) (pi_range1 rfl B.rng (pa_cons (pe_callB call_len_seq (by rfl) B.len PySem.boot_len (pa_cons (pe_fld (pv 0) rfl) pa_nil)) pa_nil))
        (blkOk_by (own := [("number", 4)]) (N := ["self", "boxes", "seals", "things", "number"]) (sc := defScope sItems) (by decide +kernel)) (fun _ _ _ _ _ => pg_name (i := 4) scItems.nd rfl (.inl rfl)) (fun _ _ _ _ _ => pts_nil) (fun _ _ _ _ _ => pe_tup (pa_cons pe_str (pa_cons (pv 4) pa_nil))))
      (pss_cons (ps_setLc (i := 2) (own := [("number", 4)]) (g := gName 4) (tt := tYes) (te := tTup (tCons (tC (.str "seal")) (tCons (tVar 4) tNil))) rfl scItems.nd rfl rfl (sw_true rfl rfl rfl (by decide +kernel)) (pi_range1 rfl B.rng (pa_cons (pe_callB call_len_seq (by rfl) B.len PySem.boot_len (pa_cons (pe_fld (pv 0) rfl) pa_nil)) pa_nil))
        (blkOk_by (own := [("number", 4)]) (N := ["self", "boxes", "seals", "things", "number"]) (sc := defScope sItems) (by decide +kernel)) (fun _ _ _ _ _ => pg_name (i := 4) scItems.nd rfl (.inl rfl)) (fun _ _ _ _ _ => pts_nil) (fun _ _ _ _ _ => pe_tup (pa_cons pe_str (pa_cons (pv 4) pa_nil))))
      (pss_cons (ps_setLc (i := 3) (own := [("number", 4)]) (g := gName 4) (tt := tYes) (te := tTup (tCons (tC (.str "thing")) (tCons (tVar 4) tNil))) rfl scItems.nd rfl rfl (sw_true rfl rfl rfl (by decide +kernel)) (pi_range1 rfl B.rng (pa_cons (pe_callB call_len_seq (by rfl) B.len PySem.boot_len (pa_cons (pe_fld (pv 0) rfl) pa_nil)) pa_nil))
        (blkOk_by (own := [("number", 4)]) (N := ["self", "boxes", "seals", "things", "number"]) (sc := defScope sItems) (by decide +kernel)) (fun _ _ _ _ _ => pg_name (i := 4) scItems.nd rfl (.inl rfl)) (fun _ _ _ _ _ => pts_nil) (fun _ _ _ _ _ => pe_tup (pa_cons pe_str (pa_cons (pv 4) pa_nil))))
      (pss_one (ps_ret (pe_op op_cat (pe_op op_cat (pv 1) (pv 2)) (pv 3)))))), ?_⟩
    obtain ⟨dx, vb, vt, vs, vst, h0, h1, h2, h3, h4⟩ := hh.ex
    obtain ⟨ab, xb, rfl, qb, db, lb⟩ := pls_at h1
    obtain ⟨at', xt, rfl, qt, dt, lt⟩ := pls_at h2
    obtain ⟨as, xs, rfl, qs, ds, ls⟩ := pls_at h3
    have nn : ∀ n : Nat, ((n : Nat) : Int).toNat = n := fun n => by omega
    refine ⟨_, rfl, h, C, dx, _, .ref ab, rfl, h0, T.cl, T.nB, fs_boxes _ _ _ _ _, _, _, rfl, .inr qb, _, rfl, by omega, by omega, fun D1 hD1 => ?_⟩
    rw [nn]
    refine lc_kind (K := K) "box" xb.length 4 (show 4 < 5 by decide) (by omega) hD1 fun Ha ys1 e1 hy1 dy1 => ?_
    refine ⟨_, rfl, h, C, dx, _, .ref as, rfl, e1 _ _ h0, T.cl, T.nS, fs_seals _ _ _ _ _, _, _, rfl, .inr (SqT.same e1 qs), _, rfl, by omega, by omega, fun D2 hD2 => ?_⟩
    rw [nn]
    refine lc_kind (K := K) "seal" xs.length 4 (show 4 < 5 by decide) (by omega) hD2 fun Hb ys2 e2 hy2 dy2 => ?_
    refine ⟨_, rfl, h, C, dx, _, .ref at', rfl, e2 _ _ (e1 _ _ h0), T.cl, T.nT, fs_things _ _ _ _ _, _, _, rfl, .inr (SqT.same (e1.trans e2) qt), _, rfl, by omega, by omega, fun D3 hD3 => ?_⟩
    rw [nn]
    refine lc_kind (K := K) "thing" xt.length 4 (show 4 < 5 by decide) (by omega) hD3 fun Hc ys3 e3 hy3 dy3 => ?_
    have y1 := e3 _ _ (e2 _ _ hy1)
    have y2 := e3 _ _ hy2
    have b1 : ys1.length = xb.length := by rw [DpAll.len dy1]; simp [kindD]
    have b2 : ys2.length = xs.length := by rw [DpAll.len dy2]; simp [kindD]
    have b3 : ys3.length = xt.length := by rw [DpAll.len dy3]; simp [kindD]
    refine ⟨_, rfl, _, rfl, D1, D2, ys1, ys2, rfl, rfl, y1, y2, by rw [sizeLine_eq]; omega, fun p hp => ?_⟩
    have e4 : Same Hc (upd Hc p (.lst (ys1 ++ ys2))) := same_upd hp
    refine ⟨_, rfl, p, D3, _, ys3, rfl, rfl, upd_same, e4 _ _ hy3, by rw [List.length_append, sizeLine_eq]; omega, fun q hq => ?_⟩
    have e5 : Same Hc (upd (upd Hc p (.lst (ys1 ++ ys2))) q (.lst (ys1 ++ ys2 ++ ys3))) := Same.upd2 e4 hq
    have e6 := ((e1.trans e2).trans e3).trans e5
    have eq : itemsD d = .list ((kindD "box" xb.length ++ kindD "seal" xs.length) ++ kindD "thing" xt.length) := by
      unfold itemsD
      rw [lb, ls, lt]
    refine k q _ _ e6 ((((e1.trans e2).trans e3).trans e4).free hq) upd_same ?_
    rw [eq]
    refine .lst (SqL.of upd_same) (DpAll.app (DpAll.app ?_ ?_) ?_)
    · exact Dp.sames (e2.trans (e3.trans e5)) _ _ dy1
    · exact Dp.sames (e3.trans e5) _ _ dy2
    · exact Dp.sames e5 _ _ dy3

/-! ### item in house -/
theorem ty_tupQ {K : PySem.W.Frag} {H : Hp} {a : Addr} {xs : List V} (h : SqT K H a xs) : TyX K H (.ref a) (.type "tuple") := by
  rcases h with (h | ⟨o, h⟩) | ⟨o, _, _, h, hc, _⟩
  · exact .base (.tup h)
  · exact .fTuple h
  · exact .kTuple h hc
def spHas (K : PySem.W.Frag) (C : Addr) : Sp := fun vs H Q _ => ∃ (h a : Addr) (d : Hs) (k : Str) (i : Int), vs = [.ref h, .ref a] ∧ HouseAt K C H h d ∧ SqT K H a [.str k, .int i] ∧ Q (.bl (numOk i (manyOf d k))) H
theorem scHas : FnScope ["self", "item"] ["self", "item"] (defScope sHas) := ⟨rfl, rfl, rfl, by decide +kernel, rfl, by decide +kernel, by decide +kernel⟩
theorem ok_has {f gm gn C : Addr} {fd fdm fdn : FuncData} (F : Fun K "__contains__" "House.__contains__" sHas f fd) (B : Bt mg)
    (GM : FnOk P w K mg base CX0 1 gm fdm ["house", "word"] (spMany K C)) (mM : mg "how_many" = some (.ref gm)) (kM : PySem.W.keepIn K (.ref gm) = true) (bM : Binds K fdm ["house", "word"] [])
    (GN : FnOk P w K mg base CX0 1 gn fdn ["value", "limit"] spNum) (mN : mg "is_number" = some (.ref gn)) (kN : PySem.W.keepIn K (.ref gn) = true) (bN : Binds K fdn ["value", "limit"] []) :
    FnOk P w K mg base CX0 2 f fd ["self", "item"] (spHas K C) := by
  refine F.ok scHas (fun vs H Q E h => ?_) (fun cdv A outer s H vs Q E hr h => ?_)
  · obtain ⟨h, a, d, k, i, rfl, _⟩ := h
    rfl
  · obtain ⟨h, a, d, k, i, rfl, hh, ha, kq⟩ := h
    refine ⟨_, pss_one (ps_ret (pe_and (pe_callB call_isi (by rfl) B.isi (by decide +kernel) (pa_cons (pv 1) (pa_cons (pe_bltn (v := .ty "tuple") (by rfl) B.tup (by decide +kernel) rfl) pa_nil)))
      (pe_and (pe_cmpR op_eq (pe_callB call_len_seq (by rfl) B.len PySem.boot_len (pa_cons (pv 1) pa_nil)) pe_int (nomark _))
        (pe_one (pe_call GN hr rfl mN kN bN .nil pass0 (pa_cons (pe_ix ix_tup (pv 1) pe_int (fun _ _ => rfl)) (pa_cons (pe_call GM hr rfl mM kM bM .nil pass0 (pa_cons (pv 0) (pa_cons (pe_ix ix_tup (pv 1) pe_int (fun _ _ => rfl)) pa_nil))) pa_nil))))))), ?_⟩
    refine ⟨_, rfl, _, _, _, _, true, rfl, .ty "tuple", ty_tupQ ha, kit_ty (by decide +kernel), _, rfl, iteT ?_⟩
    refine ⟨_, rfl, _, _, rfl, .inr ha, rfl, true, rfl, iteT ?_⟩
    refine ⟨_, rfl, a, _, 1, _, rfl, rfl, ha, rfl, _, rfl, _, rfl, a, _, 0, _, rfl, rfl, ha, rfl, h, d, k, rfl, hh, i, _, rfl, ?_⟩
    exact kq
/-! ### house == other -/
theorem lay_st (d : Hs) : PyData.canLay0 (stD d) = true := by
  have h1 := SeqAt.canLay_of_shaped (shaped_pls d.bs)
  have h2 := SeqAt.canLay_of_shaped (shaped_pls d.ts)
  have h3 := SeqAt.canLay_of_shaped (shaped_pls d.ss)
  simp [stD, PyData.canLay0, PyData.canLayAll0, h1, h2, h3]
theorem depth_plsD (ps : List Pl) : PyData.depth (plsD ps) ≤ 2 := by
  have := depth_pls ps
  simp [plsD, PyData.depth]
  omega
theorem shaped_st (d : Hs) : SeqAt.shaped (stD d) = true := by
  have h1 := depth_plsD d.bs
  have h2 := depth_plsD d.ts
  have h3 := depth_plsD d.ss
  simp [SeqAt.shaped, lay_st]
  simp [stD, PyData.depth, PyData.depthAll]
  omega
def spEqH (K : PySem.W.Frag) (C : Addr) : Sp := fun vs H Q _ => ∃ (a b : Addr) (d e : Hs), vs = [.ref a, .ref b] ∧ HouseAt K C H a d ∧ HouseAt K C H b e ∧ Q (.bl (decide (d.hands = e.hands) && PyData.eqv (stD d) (stD e))) H
/-- what the class says of isinstance -/
structure HouseI (K : PySem.W.Frag) (C : Addr) : Prop where
  ha : PySem.W.findIn K (.ref C) "__class__" = some (some (.builtin "object.__class__"))
  hn : PySem.W.specialIn K (.builtin "object.__class__") "__get__" = some (some (.builtin "getset_descriptor.__get__"))
  htk : PySem.W.takesIn K (.builtin "object.__class__") = some true
  hm : PySem.W.mroIn K C (.type "object") = some true
  kit : PySem.W.kitOne K (.ref C) (.ref C) = some true
theorem scEqH : FnScope ["self", "other"] ["self", "other"] (defScope sEqH) := ⟨rfl, rfl, rfl, by decide +kernel, rfl, by decide +kernel, by decide +kernel⟩
theorem ok_eqh {f C : Addr} {fd : FuncData} (F : Fun K "__eq__" "House.__eq__" sEqH f fd) (B : Bt mg) (T : HouseC K C) (I : HouseI K C) (mC : mg "House" = some (.ref C)) : FnOk P w K mg base CX0 1 f fd ["self", "other"] (spEqH K C) := by
  refine F.ok scEqH (fun vs H Q E h => ?_) (fun cdv A outer s H vs Q E hr h => ?_)
  · obtain ⟨a, b, d, e, rfl, _⟩ := h
    rfl
  · obtain ⟨a, b, d, e, rfl, hd, he, k⟩ := h
    obtain ⟨dx, vb, vt, vs, vst, h0, h1, h2, h3, h4⟩ := hd.ex
    obtain ⟨dy, wb, wt, ws, wst, g0, g1, g2, g3, g4⟩ := he.ex
    have hu : (cxOf CX0 P w K mg base ["self", "other"] "House.__eq__" (defScope sEqH) f cdv A outer s H E).nox.A.units + 64 < cLine := hr.units
    refine ⟨_, pss_one (ps_ret (pe_and (pe_callB call_isi (by rfl) B.isi (by decide +kernel) (pa_cons (pv 1) (pa_cons (pe_glob (v := .ref C) rfl mC rfl) pa_nil)))
      (pe_and (pe_cmpR op_eq (pe_fld (pv 0) rfl) (pe_fld (pv 1) rfl) (nomark _)) (pe_one (pe_cmpR (op_eqD hu) (pe_fld (pv 0) rfl) (pe_fld (pv 1) rfl) (nomark _)))))), ?_⟩
    refine ⟨_, rfl, _, _, _, _, true, rfl, .own C, .base (.ins g0 T.cl I.ha I.hn I.htk I.hm), I.kit, _, rfl, iteT ?_⟩
    refine ⟨_, rfl, a, C, dx, _, _, rfl, h0, T.cl, T.nH, fs_hands _ _ _ _ _, _, rfl, b, C, dy, _, _, rfl, g0, T.cl, T.nH, fs_hands _ _ _ _ _, rfl, _, rfl, ?_⟩
    rw [decZ]
    cases c : decide (d.hands = e.hands) with
    | false =>
      rw [c] at k
      exact iteF k
    | true =>
      rw [c] at k
      refine iteT ?_
      exact ⟨_, rfl, a, C, dx, _, vst, rfl, h0, T.cl, T.nSt, fs_state _ _ _ _ _, _, rfl, b, C, dy, _, wst, rfl, g0, T.cl, T.nSt, fs_state _ _ _ _ _, stD d, stD e, h4, g4, shaped_st d, shaped_st e, k⟩
end
end Kw


set_option Elab.async false
set_option linter.all false
set_option maxRecDepth 100000
set_option maxHeartbeats 4000000
namespace Kw
open PySem PySem.Spec PyProof.Rows L2
abbrev sBegun : Stmt := top 49
abbrev sTake : Stmt := top 50
abbrev sAlike : Stmt := top 51
abbrev sPlaces : Stmt := top 52
abbrev sHouse : Stmt := top 53
abbrev sErr : Stmt := top 65
abbrev sLaw : Stmt := top 67
/-! ### the law's box of draws -/
def BoxAt (H : Hp) (b l : Addr) : Prop := ∃ (ns : List Int) (m : Int), H b = some (.lst [.ref l, .int m]) ∧ H l = some (.lst (ns.map V.int)) ∧ ns.length ≤ 63
def Tbs (H H' : Hp) : Prop := ∀ a ps, H a = some (.tbl ps) → H' a = some (.tbl ps)
/-- a draw: the box is changed, nothing else -/
structure Kb (b l : Addr) (H H' : Hp) : Prop where
  kp : Kp b l H H'
  tb : Tbs H H'
theorem Kb.refl (b l : Addr) (H : Hp) : Kb b l H H := ⟨Kp.refl b l H, fun _ _ h => h⟩
theorem Kb.trans {b l : Addr} {H H1 H2 : Hp} (x : Kb b l H H1) (y : Kb b l H1 H2) : Kb b l H H2 := ⟨x.kp.trans y.kp, fun a ps h => y.tb a ps (x.tb a ps h)⟩
theorem Kb.same {b l : Addr} {H H' : Hp} (e : Same H H') : Kb b l H H' := ⟨Kp.same e, fun a ps h => e a _ h⟩
theorem Kb.nl {b l : Addr} {H H' : Hp} (x : Kb b l H H') : Nl H H' := x.kp.nl
theorem BoxAt.same {H H' : Hp} {b l : Addr} (e : Same H H') (x : BoxAt H b l) : BoxAt H' b l := by
  obtain ⟨ns, m, h1, h2, h3⟩ := x
  exact ⟨ns, m, e _ _ h1, e _ _ h2, h3⟩
theorem BoxAt.ne {H : Hp} {b l : Addr} (x : BoxAt H b l) : b ≠ l := by
  obtain ⟨ns, m, h1, h2, _⟩ := x
  refine ne_of h1 h2 fun z => ?_
  have z' : [V.ref l, V.int m] = ns.map V.int := HO.lst.inj z
  cases ns with
  | nil => cases z'
  | cons n r => cases z'
section
variable {P : Program} {w : World} {K : PySem.W.Frag} {mg : Str → Option Value} {base : Heap}
/-! ### _law_begun -/
def spBegun (K : PySem.W.Frag) : Sp := fun vs H Q _ => ∃ (a : Addr) (ns : List Int), vs = [.ref a] ∧ SqL K H a (ns.map V.int) ∧ ns.length ≤ 63 ∧ ∀ b l H', Same H H' → BoxAt H' b l → Q (.ref b) H'
theorem scBegun : FnScope ["_law_script", "_law_stirred", "_law_cell"] ["_law_script"] (defScope sBegun) := ⟨rfl, rfl, rfl, by decide +kernel, rfl, by decide +kernel, by decide +kernel⟩
theorem ok_begun {f : Addr} {fd : FuncData} (F : Fun K "_law_begun" "_law_begun" sBegun f fd) (B : Bt mg) : FnOk P w K mg base CX0 1 f fd ["_law_script"] (spBegun K) := by
  refine F.ok scBegun (fun vs H Q E h => ?_) (fun cdv A outer s H vs Q E hr h => ?_)
  · obtain ⟨a, ns, rfl, _⟩ := h
    rfl
  · obtain ⟨a, ns, rfl, hs, hl, k⟩ := h
    refine ⟨_, pss_cons (ps_set (i := 1) scBegun.nd rfl (.inl rfl) pe_int)
      (pss_cons (ps_for PassesOwn.never rfl (pi_list (pv 0)) (pg_name (i := 2) scBegun.nd rfl (.inl rfl))
        (pss_one (ps_set (i := 1) scBegun.nd rfl (.inl rfl) (pe_op op_mod (pe_callTy call_int1 (by rfl) B.int (by decide +kernel) (pa_cons (pe_op op_add (pe_op op_add (pe_op op_mul (pv 1) pe_int) (pe_op op_mul (pv 2) pe_int)) pe_int) pa_nil)) pe_int))))
      (pss_one (ps_ret (pe_lst (pa_cons (pe_callTy call_list_of (by rfl) B.lst (by decide +kernel) (pa_cons (pv 0) pa_nil))
        (pa_cons (pe_op op_mul (pv 1) (pe_callTy call_int1 (by rfl) B.int (by decide +kernel) (pa_cons (pe_cmpR op_gt (pe_callB call_len_seq (by rfl) B.len PySem.boot_len (pa_cons (pv 0) pa_nil)) pe_int (nomark _)) pa_nil))) pa_nil)))))), ?_⟩
    refine ⟨_, rfl, a, rfl, ⟨_, hs⟩, for_list (K := K) (a := a) (xs := ns.map V.int) (fun i σ H2 => H2 = H ∧ ∃ (z : Int) (v : Option V), σ = [some (.ref a), some (.int z), v])
      ⟨rfl, 0, none, rfl⟩ (fun i σ H2 _ ⟨e, _⟩ => by rw [e]; exact hs) ?_ ?_⟩
    · rintro i y σ H2 hi ⟨rfl, z, v, rfl⟩
      obtain ⟨c, rfl⟩ : ∃ c, y = V.int c := by
        rw [List.getElem?_map] at hi
        cases e : ns[i]? with
        | none => rw [e] at hi; cases hi
        | some c => rw [e] at hi; exact ⟨c, (Option.some.inj hi).symm⟩
      refine ⟨_, rfl, _, _, rfl, rfl, .inr (by decide), _, rfl, _, _, rfl, rfl, .inr (by decide), _, _, rfl, rfl, _, _, rfl, rfl, .inl ⟨_, rfl, _, _, rfl, rfl, (show (0 : Int) < 2147483647 by decide), ?_⟩⟩
      exact ⟨rfl, _, _, rfl⟩
    · rintro σ H2 ⟨rfl, z, v, rfl⟩
      refine ⟨_, rfl, a, _, rfl, .inl hs, fun l hl' => ?_⟩
      refine ⟨_, rfl, _, rfl, a, _, rfl, .inl (Same.seq (same_upd hl') hs), _, _, rfl, rfl, .inr ⟨_, rfl, _, _, rfl, rfl, .inr ?_, ?_⟩⟩
      · split <;> decide
      refine ⟨(by show 2 ≤ sizeLine; decide), fun b hb => ?_⟩
      have e1 := same_upd (o := HO.lst (ns.map V.int)) hl'
      have e2 := Same.upd2 (o := HO.lst [V.ref l, .int (z * if decide ((2 : Int) < ((ns.map V.int).length : Nat)) = true then 1 else 0)]) e1 hb
      refine k b l _ e2 ⟨ns, _, upd_same, ?_, hl⟩
      rw [upd_ne (fun q => by rw [← q, upd_same] at hb; cases hb), upd_same]

/-! ### _law_take -/
theorem ints_all (K : PySem.W.Frag) (H : Hp) : ∀ ns : List Int, DpAll K H (ns.map V.int) (ns.map PyData.int)
  | [] => .nil
  | n :: ns => .cons (.int n) (ints_all K H ns)
theorem ints_lay : ∀ ns : List Int, PyData.canLayAll0 (ns.map PyData.int) = true
  | [] => rfl
  | n :: ns => by simp [PyData.canLayAll0, PyData.canLay0, ints_lay ns]
theorem ints_depth : ∀ ns : List Int, PyData.depthAll (ns.map PyData.int) = 0
  | [] => rfl
  | n :: ns => by simp [PyData.depthAll, PyData.depth, ints_depth ns]
theorem ints_shaped (ns : List Int) : SeqAt.shaped (.list (ns.map PyData.int)) = true := by
  simp [SeqAt.shaped, PyData.canLay0, PyData.depth, ints_lay, ints_depth]
theorem ints_empty (ns : List Int) : PyData.eqv (.list (ns.map PyData.int)) (.list []) = decide (ns = []) := by
  cases ns with
  | nil => simp [PyData.eqv, PyData.eqvAll]
  | cons n ns => simp [PyData.eqv, PyData.eqvAll]
def spTake : Sp := fun vs H Q _ => ∃ (b l : Addr) (m : Int), vs = [.ref b, .int m] ∧ 0 < m ∧ m ≤ 1000 ∧ BoxAt H b l ∧ ∀ r H', 0 ≤ r → r < m → BoxAt H' b l → Kb b l H H' → Q (.int r) H'
theorem scTake : FnScope ["_law_box", "_law_many", "_law_figure"] ["_law_box", "_law_many"] (defScope sTake) := ⟨rfl, rfl, rfl, by decide +kernel, rfl, by decide +kernel, by decide +kernel⟩
theorem ok_take {f : Addr} {fd : FuncData} (F : Fun K "_law_take" "_law_take" sTake f fd) (B : Bt mg) : FnOk P w K mg base CX0 1 f fd ["_law_box", "_law_many"] spTake := by
  refine F.ok scTake (fun vs H Q E h => ?_) (fun cdv A outer s H vs Q E hr h => ?_)
  · obtain ⟨b, l, m, rfl, _⟩ := h
    rfl
  · obtain ⟨b, l, m, rfl, m0, m1, hB, k⟩ := h
    have hu : (cxOf CX0 P w K mg base ["_law_box", "_law_many", "_law_figure"] "_law_take" (defScope sTake) f cdv A outer s H E).nox.A.units + 64 < cLine := hr.units
    have nbl := hB.ne
    obtain ⟨ns, z, hb, hl, hn⟩ := hB
    refine ⟨_, pss_cons (ps_if (pt_cmpR (op_eqD hu) (pe_ix ix_list (pv 0) pe_int (fun _ _ => rfl)) (pe_lst pa_nil) (nomark _))
        (pss_cons (ps_asg (pe_op op_mod (pe_callTy call_int1 (by rfl) B.int (by decide +kernel) (pa_cons (pe_op op_mul (pe_ix ix_list (pv 0) pe_int (fun _ _ => rfl)) pe_int) pa_nil)) pe_int) (pg_sub (pv 0) pe_int set_list))
          (pss_one (ps_ret (pe_op op_mod (pe_callTy call_int1 (by rfl) B.int (by decide +kernel) (pa_cons (pe_op op_fdiv (pe_ix ix_list (pv 0) pe_int (fun _ _ => rfl)) pe_int) pa_nil)) (pv 1))))) pss_nil)
      (pss_cons (ps_set (i := 2) scTake.nd rfl (.inl rfl) (pe_ix ix_list (pe_ix ix_list (pv 0) pe_int (fun _ _ => rfl)) pe_int (fun _ _ => rfl)))
      (pss_cons (ps_asg (pe_op op_fdiv (pv 2) (pv 1)) (pg_sub (pe_ix ix_list (pv 0) pe_int (fun _ _ => rfl)) pe_int set_list))
      (pss_cons (ps_if (PW.pt (pw_or (pt_cmpR op_eq (pe_ix ix_list (pe_ix ix_list (pv 0) pe_int (fun _ _ => rfl)) pe_int (fun _ _ => rfl)) pe_int (nomark _))
            (pw_or1 (pt_cmpR op_eq (pe_ix ix_list (pe_ix ix_list (pv 0) pe_int (fun _ _ => rfl)) pe_int (fun _ _ => rfl)) (pe_un un_neg pe_int) (nomark _)))))
          (pss_one (ps_expr (pe_bm PySem.F.plainAttrs_list PySem.F.slot_list_pop PySem.F.type_list_pop mt_popAt (pe_ix ix_list (pv 0) pe_int (fun _ _ => rfl)) (pa_cons pe_int pa_nil)))) pss_nil)
      (pss_one (ps_ret (pe_op op_mod (pv 2) (pv 1))))))), ?_⟩
    refine ⟨_, rfl, b, _, 0, _, rfl, rfl, SqL.of hb, rfl, (by show 0 ≤ sizeLine; decide), fun p hp => ?_⟩
    have e0 : Same H (upd H p (.lst [])) := same_upd hp
    have hb0 := e0 _ _ hb
    have hl0 := e0 _ _ hl
    refine ⟨.list (ns.map PyData.int), .list [], .lst (SqL.of hl0) (ints_all K _ ns), .lst (SqL.of upd_same) .nil, ints_shaped ns, by decide, _, rfl, ?_⟩
    rw [ints_empty]
    refine ite2 (fun c => ?_) (fun c => ?_)
    · have c' : ns = [] := of_decide_eq_true c
      subst c'
      refine ⟨_, rfl, b, _, 1, _, rfl, rfl, SqL.of hb0, rfl, _, _, rfl, rfl, .inr (by decide), .inl ⟨_, rfl, _, _, rfl, rfl, (show (0 : Int) < 2147483647 by decide), ?_⟩⟩
      refine ⟨_, rfl, b, _, 1, 1, rfl, rfl, hb0, rfl, ?_⟩
      refine ⟨_, rfl, b, _, 1, _, rfl, rfl, SqL.of upd_same, rfl, _, _, rfl, rfl, ⟨by decide, by decide⟩, .inl ⟨_, rfl, _, rfl, _, _, rfl, rfl, m0, ?_⟩⟩
      refine k _ _ (Int.emod_nonneg _ (by omega)) (Int.emod_lt_of_pos _ m0) ⟨[], _, upd_same, by rw [upd_ne nbl.symm]; exact hl0, Nat.zero_le _⟩ ?_
      refine (Kb.same e0).trans ⟨⟨fun a o h n1 n2 => ?_, fun a xs h n1 n2 => ?_⟩, fun a ps h => ?_⟩
      · rw [upd_ne (ne_of h hb0 (n1 _))]; exact h
      · rw [upd_ne n1]; exact h
      · rw [upd_ne (ne_of h hb0 (by intro q; cases q))]; exact h
    · have c' : ¬ ns = [] := fun q => c (decide_eq_true q)
      obtain ⟨n0, r, rfl⟩ : ∃ n0 r, ns = n0 :: r := by
        cases ns with
        | nil => exact absurd rfl c'
        | cons n0 r => exact ⟨n0, r, rfl⟩
      rw [List.map_cons] at hl0 hl
      have len0 : (V.int n0 :: r.map V.int).length = r.length + 1 := by simp
      have hr1 : r.length ≤ 62 := by simp at hn; omega
      refine ⟨_, rfl, b, _, 0, _, rfl, rfl, SqL.of hb0, rfl, l, _, 0, _, rfl, rfl, SqL.of hl0, atI_nat (j := 0) rfl, ?_⟩
      refine ⟨_, rfl, _, rfl, n0, m, rfl, rfl, ⟨m0, by omega⟩, _, rfl, b, _, 0, _, rfl, rfl, SqL.of hb0, rfl, l, _, 0, 0, rfl, rfl, hl0, ?_, ?_⟩
      · rw [len0]
        simp [ixN]
      rw [List.set_cons_zero]
      have hb1 : (upd (upd H p (.lst [])) l (.lst (V.int (n0 / m) :: r.map V.int))) b = some (.lst [.ref l, .int z]) := by rw [upd_ne nbl]; exact hb0
      have fin : ∀ (ns' : List Int), ns'.length ≤ 63 → ∀ H', H' b = some (.lst [.ref l, .int z]) → H' l = some (.lst (ns'.map V.int)) → (∀ a o, (upd H p (.lst [])) a = some o → a ≠ l → H' a = some o) →
          Q (.int (n0 % m)) H' := fun ns' hn' H' g1 g2 g3 => by
        refine k _ _ (Int.emod_nonneg _ (by omega)) (Int.emod_lt_of_pos _ m0) ⟨ns', z, g1, g2, hn'⟩ ((Kb.same e0).trans ⟨⟨fun a o h n1 n2 => ?_, fun a xs h n1 n2 => ?_⟩, fun a ps h => ?_⟩)
        · exact g3 a o h (ne_of h hl0 (n1 _))
        · exact g3 a _ h n2
        · exact g3 a _ h (ne_of h hl0 (by intro q; cases q))
      have popped : tDrop (tBM K "list" rPopAt (tOp (rIxL K) (tVar 0) (tC (.int 0))) (tCons (tC (.int 0)) tNil)) { nx := tRet (tOp (rI (fun _ j => 0 < j) fun i j => .int (i % j)) (tVar 2) (tVar 1)) { nx := fun _ H' => Q .non H', rt := Q }, rt := Q }
          [some (.ref b), some (.int m), some (.int n0)] (upd (upd H p (.lst [])) l (.lst (V.int (n0 / m) :: r.map V.int))) := by
        refine ⟨_, rfl, b, _, 0, _, rfl, rfl, SqL.of hb1, rfl, .inl ⟨rfl, _, SqL.of upd_same⟩, l, _, 0, 0, _, rfl, rfl, upd_same, by decide, by decide, ?_, rfl, ?_⟩
        · simp [seqIndex?]
        · rw [upd_upd]
          refine ⟨_, rfl, _, rfl, n0, m, rfl, rfl, m0, ?_⟩
          exact fin r (by omega) _ (by rw [upd_ne nbl]; exact hb0) upd_same fun a o h ne => by rw [upd_ne ne]; exact h
      have kept : tRet (tOp (rI (fun _ j => 0 < j) fun i j => .int (i % j)) (tVar 2) (tVar 1)) { nx := fun _ H' => Q .non H', rt := Q }
          [some (.ref b), some (.int m), some (.int n0)] (upd (upd H p (.lst [])) l (.lst (V.int (n0 / m) :: r.map V.int))) := by
        refine ⟨_, rfl, _, rfl, n0, m, rfl, rfl, m0, ?_⟩
        exact fin ((n0 / m) :: r) (by simp; omega) _ hb1 (by rw [upd_same]; rfl) fun a o h ne => by rw [upd_ne ne]; exact h
      refine ⟨_, rfl, b, _, 0, _, rfl, rfl, SqL.of hb1, rfl, l, _, 0, _, rfl, rfl, SqL.of upd_same, atI_nat (j := 0) rfl, rfl, _, rfl, ?_⟩
      refine ite2 (fun _ => iteT popped) (fun _ => ?_)
      refine ⟨_, rfl, b, _, 0, _, rfl, rfl, SqL.of hb1, rfl, l, _, 0, _, rfl, rfl, SqL.of upd_same, atI_nat (j := 0) rfl, _, rfl, rfl, _, rfl, ?_⟩
      exact ite2 (fun _ => popped) (fun _ => kept)

/-! ### _law_alike, asked of equal data -/
mutual
def okA : PyData → Bool
  | .int _ => true
  | .str _ => true
  | .none => true
  | .bool _ => true
  | .tuple ds => okAs ds && decide (ds.length ≤ 1000)
  | .list ds => okAs ds && decide (ds.length ≤ 1000)
  | _ => false
def okAs : List PyData → Bool
  | [] => true
  | d :: ds => okA d && okAs ds
end
theorem okAs_get : ∀ {ds : List PyData} {i : Nat} {d : PyData}, okAs ds = true → ds[i]? = some d → okA d = true
  | [], _, _, _, e => by simp at e
  | d :: ds, 0, _, h, e => by
    simp at e
    subst e
    simp [okAs] at h
    exact h.1
  | d :: ds, i + 1, _, h, e => by
    simp [okAs] at h
    exact okAs_get h.2 (by simpa using e)
theorem depth_get : ∀ {ds : List PyData} {i : Nat} {d : PyData}, ds[i]? = some d → d.depth ≤ PyData.depthAll ds
  | [], _, _, e => by simp at e
  | d :: ds, 0, _, e => by
    simp at e
    subst e
    simp [PyData.depthAll]
    omega
  | d :: ds, i + 1, _, e => by
    have := depth_get (ds := ds) (i := i) (by simpa using e)
    simp [PyData.depthAll]
    omega
theorem DpAll.at2 {K : PySem.W.Frag} {H : Hp} : ∀ {vs : List V} {ds : List PyData} {i : Nat} {d : PyData}, DpAll K H vs ds → ds[i]? = some d → ∃ x, vs[i]? = some x ∧ Dp K H x d
  | _, _, _, _, .nil, e => by simp at e
  | _, _, 0, _, .cons h _, e => by
    simp at e
    subst e
    exact ⟨_, rfl, h⟩
  | _, _, i + 1, d, .cons _ t, e => by
    obtain ⟨x, h1, h2⟩ := DpAll.at2 (i := i) (d := d) t (by simpa using e)
    exact ⟨x, by simpa using h1, h2⟩
theorem ty_tup {K : PySem.W.Frag} {H : Hp} {a : Addr} {xs : List V} (h : SqT K H a xs) : TyX K H (.ref a) (.type "tuple") := by
  rcases h with (h | ⟨o, h⟩) | ⟨o, _, _, h, hc, _⟩
  · exact .base (.tup h)
  · exact .fTuple h
  · exact .kTuple h hc
theorem ty_lst {K : PySem.W.Frag} {H : Hp} {a : Addr} {xs : List V} (h : SqL K H a xs) : TyX K H (.ref a) (.type "list") := by
  rcases h with (h | ⟨o, h⟩) | ⟨o, _, _, h, hc, _⟩
  · exact .base (.lst h)
  · exact .base (.frz h)
  · exact .kList h hc
def spAlike (K : PySem.W.Frag) (n : Nat) : Sp := fun vs H Q _ => ∃ (x y : V) (d : PyData), vs = [x, y] ∧ Dp K H x d ∧ Dp K H y d ∧ okA d = true ∧ d.depth < n ∧ Q (.bl true) H
theorem scAlike : FnScope ["_law_found", "_law_due", "_law_k"] ["_law_found", "_law_due"] (defScope sAlike) := ⟨rfl, rfl, rfl, by decide +kernel, rfl, by decide +kernel, by decide +kernel⟩
theorem ok_alike {f : Addr} {fd : FuncData} (F : Fun K "_law_alike" "_law_alike" sAlike f fd) (B : Bt mg) (mF : mg "_law_alike" = some (.ref f)) (bF : Binds K fd ["_law_found", "_law_due"] []) : ∀ n : Nat, FnOk P w K mg base CX0 n f fd ["_law_found", "_law_due"] (spAlike K n) := by
  intro n
  induction n with
  | zero => exact ⟨fun vs H Q E h => by obtain ⟨_, _, _, _, _, _, _, h, _⟩ := h; omega, fun A outer s H args us vs Q E _ _ _ _ h => by obtain ⟨_, _, _, _, _, _, _, h, _⟩ := h; omega⟩
  | succ n G =>
  refine F.ok scAlike (fun vs H Q E h => ?_) (fun cdv A outer s H vs Q E hr h => ?_)
  · obtain ⟨x, y, d, rfl, _⟩ := h
    rfl
  · obtain ⟨x, y, d, rfl, hx, hy, ok, hd, k⟩ := h
    refine ⟨_, pss_cons (ps_if (pt_cmp (pc_isN (pv 1))) (pss_one (ps_ret (pe_cmp (pc_isN (pv 0))))) pss_nil)
      (pss_cons (ps_if (pt_val (pe_callB call_isi (by rfl) B.isi (by decide +kernel) (pa_cons (pv 1) (pa_cons (pe_bltn (v := .ty "bool") (by rfl) B.bool (by decide +kernel) rfl) pa_nil)))) (pss_one (ps_ret (pe_and (pe_callB call_isi (by rfl) B.isi (by decide +kernel) (pa_cons (pv 0) (pa_cons (pe_bltn (v := .ty "bool") (by rfl) B.bool (by decide +kernel) rfl) pa_nil))) (pe_one (pe_cmpR op_eq (pv 0) (pv 1) (nomark _)))))) pss_nil)
      (pss_cons (ps_if (pt_val (pe_callB call_isi (by rfl) B.isi (by decide +kernel) (pa_cons (pv 1) (pa_cons (pe_bltn (v := .ty "int") (by rfl) B.int (by decide +kernel) rfl) pa_nil)))) (pss_one (ps_ret (pe_and (pe_callB call_isi (by rfl) B.isi (by decide +kernel) (pa_cons (pv 0) (pa_cons (pe_bltn (v := .ty "int") (by rfl) B.int (by decide +kernel) rfl) pa_nil))) (pe_and (pe_not (pe_callB call_isi (by rfl) B.isi (by decide +kernel) (pa_cons (pv 0) (pa_cons (pe_bltn (v := .ty "bool") (by rfl) B.bool (by decide +kernel) rfl) pa_nil)))) (pe_one (pe_cmpR op_eq (pv 0) (pv 1) (nomark _))))))) pss_nil)
      (pss_cons (ps_if (pt_val (pe_callB call_isi (by rfl) B.isi (by decide +kernel) (pa_cons (pv 1) (pa_cons (pe_bltn (v := .ty "str") (by rfl) B.str (by decide +kernel) rfl) pa_nil)))) (pss_one (ps_ret (pe_and (pe_callB call_isi (by rfl) B.isi (by decide +kernel) (pa_cons (pv 0) (pa_cons (pe_bltn (v := .ty "str") (by rfl) B.str (by decide +kernel) rfl) pa_nil))) (pe_one (pe_cmpR op_eq (pv 0) (pv 1) (nomark _)))))) pss_nil)
      (pss_cons (ps_if (PW.pt (pw_or (pt_cmpR op_ne (pe_callB call_isi (by rfl) B.isi (by decide +kernel) (pa_cons (pv 1) (pa_cons (pe_bltn (v := .ty "tuple") (by rfl) B.tup (by decide +kernel) rfl) pa_nil))) (pe_callB call_isi (by rfl) B.isi (by decide +kernel) (pa_cons (pv 0) (pa_cons (pe_bltn (v := .ty "tuple") (by rfl) B.tup (by decide +kernel) rfl) pa_nil))) (nomark _)) (pw_or1 (pt_cmpR op_ne (pe_callB call_isi (by rfl) B.isi (by decide +kernel) (pa_cons (pv 1) (pa_cons (pe_bltn (v := .ty "list") (by rfl) B.lst (by decide +kernel) rfl) pa_nil))) (pe_callB call_isi (by rfl) B.isi (by decide +kernel) (pa_cons (pv 0) (pa_cons (pe_bltn (v := .ty "list") (by rfl) B.lst (by decide +kernel) rfl) pa_nil))) (nomark _))))) (pss_one (ps_ret pe_bl)) pss_nil)
      (pss_cons (ps_if (pt_cmpR op_ne (pe_callB call_len_seq (by rfl) B.len PySem.boot_len (pa_cons (pv 0) pa_nil)) (pe_callB call_len_seq (by rfl) B.len PySem.boot_len (pa_cons (pv 1) pa_nil)) (nomark _)) (pss_one (ps_ret pe_bl)) pss_nil)
      (pss_cons (ps_for PassesOwn.never rfl (pi_range1 rfl B.rng (pa_cons (pe_callB call_len_seq (by rfl) B.len PySem.boot_len (pa_cons (pv 1) pa_nil)) pa_nil)) (pg_name (i := 2) scAlike.nd rfl (.inl rfl))
        (pss_one (ps_if (pt_not (pt_val (pe_call G hr rfl mF F.kp bF .nil pass0 (pa_cons (pe_ix ix_seq (pv 0) (pv 2) (fun _ _ => rfl)) (pa_cons (pe_ix ix_seq (pv 1) (pv 2) (fun _ _ => rfl)) pa_nil))))) (pss_one (ps_ret pe_bl)) pss_nil)))
      (pss_one (ps_ret pe_bl)))))))), ?_⟩
    cases hx with
    | non =>
      cases hy
      exact ⟨_, rfl, _, rfl, iteT ⟨_, rfl, k⟩⟩
    | bl c =>
      cases hy
      refine ⟨_, rfl, _, rfl, iteF ?_⟩
      refine ⟨_, rfl, _, _, _, _, true, rfl, .ty "bool", .base (.bl c), kit_ty (by decide +kernel), _, rfl, iteT ?_⟩
      refine ⟨_, rfl, _, _, _, _, true, rfl, .ty "bool", .base (.bl c), kit_ty (by decide +kernel), _, rfl, iteT ?_⟩
      refine ⟨_, rfl, _, rfl, rfl, ?_⟩
      rw [decide_eq_true rfl]
      exact k
    | int i =>
      cases hy
      refine ⟨_, rfl, _, rfl, iteF ?_⟩
      refine ⟨_, rfl, _, _, _, _, false, rfl, .ty "bool", .base (.int i), kit_ty (by decide +kernel), _, rfl, iteF ?_⟩
      refine ⟨_, rfl, _, _, _, _, true, rfl, .ty "int", .base (.int i), kit_ty (by decide +kernel), _, rfl, iteT ?_⟩
      refine ⟨_, rfl, _, _, _, _, true, rfl, .ty "int", .base (.int i), kit_ty (by decide +kernel), _, rfl, iteT ?_⟩
      refine ⟨_, rfl, _, _, _, _, false, rfl, .ty "bool", .base (.int i), kit_ty (by decide +kernel), _, rfl, _, rfl, iteT ?_⟩
      refine ⟨_, rfl, _, rfl, rfl, ?_⟩
      rw [decide_eq_true rfl]
      exact k
    | str z =>
      cases hy
      refine ⟨_, rfl, _, rfl, iteF ?_⟩
      refine ⟨_, rfl, _, _, _, _, false, rfl, .ty "bool", .base (.str z), kit_ty (by decide +kernel), _, rfl, iteF ?_⟩
      refine ⟨_, rfl, _, _, _, _, false, rfl, .ty "int", .base (.str z), kit_ty (by decide +kernel), _, rfl, iteF ?_⟩
      refine ⟨_, rfl, _, _, _, _, true, rfl, .ty "str", .base (.str z), kit_ty (by decide +kernel), _, rfl, iteT ?_⟩
      refine ⟨_, rfl, _, _, _, _, true, rfl, .ty "str", .base (.str z), kit_ty (by decide +kernel), _, rfl, iteT ?_⟩
      refine ⟨_, rfl, _, rfl, rfl, ?_⟩
      rw [decide_eq_true rfl]
      exact k
    | @lst a xs ds hs ha =>
      cases hy with
      | @lst b ys _ hs2 ha2 =>
      have ok' : okAs ds = true ∧ ds.length ≤ 1000 := by simpa [okA] using ok
      have hdd : PyData.depthAll ds < n := by
        simp [PyData.depth] at hd
        omega
      have l1 := DpAll.len ha
      have l2 := DpAll.len ha2
      have t1 := ty_lst hs
      have t2 := ty_lst hs2
      refine ⟨_, rfl, _, rfl, iteF ?_⟩
      refine ⟨_, rfl, _, _, _, _, false, rfl, .ty "bool", t2, kit_ty (by decide +kernel), _, rfl, iteF ?_⟩
      refine ⟨_, rfl, _, _, _, _, false, rfl, .ty "int", t2, kit_ty (by decide +kernel), _, rfl, iteF ?_⟩
      refine ⟨_, rfl, _, _, _, _, false, rfl, .ty "str", t2, kit_ty (by decide +kernel), _, rfl, iteF ?_⟩
      refine ⟨_, rfl, _, _, _, _, false, rfl, .ty "tuple", t2, kit_ty (by decide +kernel), _, rfl, _, _, _, _, false, rfl, .ty "tuple", t1, kit_ty (by decide +kernel), rfl, _, rfl, iteF ?_⟩
      refine ⟨_, rfl, _, _, _, _, true, rfl, .ty "list", t2, kit_ty (by decide +kernel), _, rfl, _, _, _, _, true, rfl, .ty "list", t1, kit_ty (by decide +kernel), rfl, _, rfl, iteF ?_⟩
      refine ⟨_, rfl, a, xs, rfl, .inl hs, _, rfl, b, ys, rfl, .inl hs2, rfl, _, rfl, ?_⟩
      rw [decI, l1, l2, decide_eq_true rfl]
      refine iteF ?_
      refine ⟨_, rfl, b, ys, rfl, .inl hs2, _, rfl, by omega, by omega, ?_⟩
      rw [show ((ys.length : Nat) : Int).toNat = ys.length by omega]
      refine for_range (lo := 0) (n := ys.length) (fun i σ H2 => H2 = H ∧ ∃ v : Option V, σ = [some (.ref a), some (.ref b), v]) ⟨rfl, none, rfl⟩ ?_ ?_
      · rintro i σ H2 hi ⟨rfl, v, rfl⟩
        obtain ⟨d', hd'⟩ : ∃ d', ds[i]? = some d' := ⟨ds[i]'(by omega), List.getElem?_eq_getElem (by omega)⟩
        obtain ⟨xv, hxv, dxv⟩ := DpAll.at2 ha hd'
        obtain ⟨yv, hyv, dyv⟩ := DpAll.at2 ha2 hd'
        have ax : atI xs (0 + (i : Int)) = some xv := by rw [Int.zero_add]; exact atI_nat hxv
        have ay : atI ys (0 + (i : Int)) = some yv := by rw [Int.zero_add]; exact atI_nat hyv
        have dep := depth_get hd'
        refine ⟨_, rfl, _, rfl, .inl ⟨a, xs, _, xv, rfl, rfl, hs, ax, _, rfl, _, rfl, .inl ⟨b, ys, _, yv, rfl, rfl, hs2, ay, xv, yv, d', rfl, dxv, dyv, okAs_get ok'.1 hd', by omega, true, rfl, iteF ?_⟩⟩⟩
        exact ⟨rfl, _, rfl⟩
      · rintro σ H2 ⟨rfl, v, rfl⟩
        exact k
    | @tup a xs ds hs ha =>
      cases hy with
      | @tup b ys _ hs2 ha2 =>
      have ok' : okAs ds = true ∧ ds.length ≤ 1000 := by simpa [okA] using ok
      have hdd : PyData.depthAll ds < n := by
        simp [PyData.depth] at hd
        omega
      have l1 := DpAll.len ha
      have l2 := DpAll.len ha2
      have t1 := ty_tup hs
      have t2 := ty_tup hs2
      refine ⟨_, rfl, _, rfl, iteF ?_⟩
      refine ⟨_, rfl, _, _, _, _, false, rfl, .ty "bool", t2, kit_ty (by decide +kernel), _, rfl, iteF ?_⟩
      refine ⟨_, rfl, _, _, _, _, false, rfl, .ty "int", t2, kit_ty (by decide +kernel), _, rfl, iteF ?_⟩
      refine ⟨_, rfl, _, _, _, _, false, rfl, .ty "str", t2, kit_ty (by decide +kernel), _, rfl, iteF ?_⟩
      refine ⟨_, rfl, _, _, _, _, true, rfl, .ty "tuple", t2, kit_ty (by decide +kernel), _, rfl, _, _, _, _, true, rfl, .ty "tuple", t1, kit_ty (by decide +kernel), rfl, _, rfl, iteF ?_⟩
      refine ⟨_, rfl, _, _, _, _, false, rfl, .ty "list", t2, kit_ty (by decide +kernel), _, rfl, _, _, _, _, false, rfl, .ty "list", t1, kit_ty (by decide +kernel), rfl, _, rfl, iteF ?_⟩
      refine ⟨_, rfl, a, xs, rfl, .inr hs, _, rfl, b, ys, rfl, .inr hs2, rfl, _, rfl, ?_⟩
      rw [decI, l1, l2, decide_eq_true rfl]
      refine iteF ?_
      refine ⟨_, rfl, b, ys, rfl, .inr hs2, _, rfl, by omega, by omega, ?_⟩
      rw [show ((ys.length : Nat) : Int).toNat = ys.length by omega]
      refine for_range (lo := 0) (n := ys.length) (fun i σ H2 => H2 = H ∧ ∃ v : Option V, σ = [some (.ref a), some (.ref b), v]) ⟨rfl, none, rfl⟩ ?_ ?_
      · rintro i σ H2 hi ⟨rfl, v, rfl⟩
        obtain ⟨d', hd'⟩ : ∃ d', ds[i]? = some d' := ⟨ds[i]'(by omega), List.getElem?_eq_getElem (by omega)⟩
        obtain ⟨xv, hxv, dxv⟩ := DpAll.at2 ha hd'
        obtain ⟨yv, hyv, dyv⟩ := DpAll.at2 ha2 hd'
        have ax : atI xs (0 + (i : Int)) = some xv := by rw [Int.zero_add]; exact atI_nat hxv
        have ay : atI ys (0 + (i : Int)) = some yv := by rw [Int.zero_add]; exact atI_nat hyv
        have dep := depth_get hd'
        refine ⟨_, rfl, _, rfl, .inr (.inl ⟨a, xs, _, xv, rfl, rfl, hs, ax, _, rfl, _, rfl, .inr (.inl ⟨b, ys, _, yv, rfl, rfl, hs2, ay, xv, yv, d', rfl, dxv, dyv, okAs_get ok'.1 hd', by omega, true, rfl, iteF ?_⟩)⟩)⟩
        exact ⟨rfl, _, rfl⟩
      · rintro σ H2 ⟨rfl, v, rfl⟩
        exact k
end
end Kw


set_option Elab.async false
set_option linter.all false
set_option maxRecDepth 100000
set_option maxHeartbeats 4000000
namespace Kw
open PySem PySem.Spec PyProof.Rows L2
section
variable {P : Program} {w : World} {K : PySem.W.Frag} {mg : Str → Option Value} {base : Heap}
theorem BoxAt.upd {H : Hp} {b l p : Addr} {o : HO} (hp : H p = none) (x : BoxAt H b l) : BoxAt (L2.upd H p o) b l := BoxAt.same (same_upd hp) x
theorem numOk_of {r m : Int} (h0 : 0 ≤ r) (h1 : r < m) : numOk r m = true := by
  unfold numOk
  rw [decide_eq_true h0, decide_eq_true h1]
  rfl
theorem numOk_is {r m : Int} (h : numOk r m = true) : 0 ≤ r ∧ r < m := by
  unfold numOk at h
  have h' := Bool.and_eq_true_iff.mp h
  exact ⟨of_decide_eq_true h'.1, of_decide_eq_true h'.2⟩
/-! ### _law_places -/
def spPlaces (K : PySem.W.Frag) : Sp := fun vs H Q _ => ∃ (b l : Addr) (h m : Int), vs = [.ref b, .int h, .int m] ∧ 0 < h ∧ h ≤ 1000 ∧ 0 ≤ m ∧ m ≤ 1000 ∧ BoxAt H b l ∧ ∀ v q H', Dp K H' v (plD q) → plOk q h m = true → BoxAt H' b l → Kb b l H H' → Q v H'
theorem scPlaces : FnScope ["_law_box", "_law_hands_here", "_law_many"] ["_law_box", "_law_hands_here", "_law_many"] (defScope sPlaces) := ⟨rfl, rfl, rfl, by decide +kernel, rfl, by decide +kernel, by decide +kernel⟩
theorem ok_places {f g : Addr} {fd fdg : FuncData} (F : Fun K "_law_places" "_law_places" sPlaces f fd) (G : FnOk P w K mg base CX0 1 g fdg ["_law_box", "_law_many"] spTake) (mG : mg "_law_take" = some (.ref g)) (kG : PySem.W.keepIn K (.ref g) = true) (bG : Binds K fdg ["_law_box", "_law_many"] []) :
    FnOk P w K mg base CX0 2 f fd ["_law_box", "_law_hands_here", "_law_many"] (spPlaces K) := by
  refine F.ok scPlaces (fun vs H Q E h => ?_) (fun cdv A outer s H vs Q E hr h => ?_)
  · obtain ⟨b, l, h, m, rfl, _⟩ := h
    rfl
  · obtain ⟨b, l, h, m, rfl, h0, h1, m0, m1, hB, k⟩ := h
    refine ⟨_, pss_cons (ps_if (PW.pt (pw_and (pt_cmpR op_gt (pv 2) pe_int (nomark _)) (pw_and1 (pt_cmpR op_eq (pe_call G hr rfl mG kG bG .nil pass0 (pa_cons (pv 0) (pa_cons pe_int pa_nil))) pe_int (nomark _)))))
        (pss_one (ps_ret (pe_tup (pa_cons pe_str (pa_cons (pe_call G hr rfl mG kG bG .nil pass0 (pa_cons (pv 0) (pa_cons (pv 2) pa_nil))) pa_nil))))) pss_nil)
      (pss_one (ps_ret (pe_tup (pa_cons pe_str (pa_cons (pe_call G hr rfl mG kG bG .nil pass0 (pa_cons (pv 0) (pa_cons (pv 1) pa_nil))) pa_nil))))), ?_⟩
    have fin : ∀ (H1 : Hp) (wd : Wd) (r : Int), BoxAt H1 b l → Kb b l H H1 → plOk (wd, r) h m = true → ∀ p, H1 p = none → Q (.ref p) (L2.upd H1 p (.tup [.str wd.str, .int r])) := fun H1 wd r hB1 hk ok p hp =>
      k _ (wd, r) _ (.tup (SqT.of upd_same) (.cons (.str _) (.cons (.int _) .nil))) ok (hB1.upd hp) (hk.trans (Kb.same (same_upd hp)))
    have hand : ∀ H1, BoxAt H1 b l → Kb b l H H1 → tRet (tTup (tCons (tC (.str "hand")) (tCons (tCall spTake [] E0 (tCons (tVar 0) (tCons (tVar 1) tNil))) tNil))) { nx := fun _ H' => Q .non H', rt := Q } (L2.start ["_law_box", "_law_hands_here", "_law_many"] [.ref b, .int h, .int m]) H1 := fun H1 hB1 hk => by
      refine ⟨_, rfl, _, rfl, b, l, h, rfl, h0, h1, hB1, fun r H2 r0 r1 hB2 hk2 => ⟨(by show 2 ≤ sizeLine; decide), fin H2 .hand r hB2 (hk.trans hk2) ?_⟩⟩
      exact numOk_of r0 r1
    refine ⟨_, rfl, _, _, rfl, rfl, _, rfl, ?_⟩
    refine ite2 (fun c => ?_) (fun c => iteF (hand H hB (Kb.refl b l H)))
    have c' : 0 < m := of_decide_eq_true c
    refine ⟨_, rfl, b, l, 2, rfl, by decide, by decide, hB, fun r H2 r0 r1 hB2 hk2 => ⟨rfl, _, rfl, ?_⟩⟩
    refine ite2 (fun _ => ?_) (fun _ => hand H2 hB2 hk2)
    refine ⟨_, rfl, _, rfl, b, l, m, rfl, c', m1, hB2, fun r2 H3 r20 r21 hB3 hk3 => ⟨(by show 2 ≤ sizeLine; decide), fin H3 .box r2 hB3 (hk2.trans hk3) ?_⟩⟩
    exact numOk_of r20 r21
/-! ### _law_house -/
theorem bad_none {f : Nat → Pl → Bool} : ∀ (l : List Pl) (k : Nat), (∀ i p, l[i]? = some p → f (k + i) p = false) → firstBad f k l = none
  | [], _, _ => rfl
  | p :: r, k, h => by
    have h0 := h 0 p rfl
    rw [Nat.add_zero] at h0
    show (if f k p = true then some k else firstBad f (k + 1) r) = none
    rw [h0, if_neg (by decide)]
    exact bad_none r (k + 1) fun i q e => by
      have := h (i + 1) q (by simpa using e)
      rw [show k + 1 + i = k + (i + 1) by omega]
      exact this
/-- what a drawn house is -/
structure HsOk (d : Hs) : Prop where
  h0 : 1 ≤ d.hands
  h1 : d.hands ≤ 4
  b0 : 1 ≤ d.bs.length
  b1 : d.bs.length ≤ 3
  t1 : d.ts.length ≤ 4
  s1 : d.ss.length ≤ 3
  okE : errOf d.hands d.bs d.ts d.ss = none
  nb : ∀ p ∈ d.bs, p.1 ≠ .gone
  nt : ∀ p ∈ d.ts, p.1 ≠ .gone
  ns : ∀ p ∈ d.ss, p.1 ≠ .gone
theorem Kb.updD {b l D : Addr} {H H' : Hp} {o : HO} (k : Kb b l H H') (hD : H D = .none) : Kb b l H (L2.upd H' D o) :=
  ⟨⟨fun a u h n1 n2 => by rw [upd_ne (ne_of_none h hD)]; exact k.kp.nl a u h n1 n2, fun a xs h n1 n2 => by rw [upd_ne (ne_of_none h hD)]; exact k.kp.ls a xs h n1 n2⟩, fun a ps h => by rw [upd_ne (ne_of_none h hD)]; exact k.tb a ps h⟩
theorem BoxAt.neL {H : Hp} {b l D : Addr} (x : BoxAt H b l) (hD : H D = .none) : D ≠ b ∧ D ≠ l := by
  obtain ⟨ns, m, h1, h2, _⟩ := x
  exact ⟨(ne_of_none h1 hD).symm, (ne_of_none h2 hD).symm⟩
theorem BoxAt.updD {H : Hp} {b l D : Addr} {o : HO} (x : BoxAt H b l) (n1 : D ≠ b) (n2 : D ≠ l) : BoxAt (L2.upd H D o) b l := by
  obtain ⟨ns, m, h1, h2, h3⟩ := x
  exact ⟨ns, m, by rw [upd_ne n1.symm]; exact h1, by rw [upd_ne n2.symm]; exact h2, h3⟩
theorem tp_lst {H : Hp} {D : Addr} {xs : List V} {o : HO} (h : H D = some (.lst xs)) : Tp H (L2.upd H D o) := fun a us r => by
  rcases r with r | ⟨u, r⟩
  · exact .inl (by rw [upd_ne (ne_of r h (by intro z; cases z))]; exact r)
  · exact .inr ⟨u, by rw [upd_ne (ne_of r h (by intro z; cases z))]; exact r⟩
theorem tp_nl {H H' : Hp} (k : Nl H H') : Tp H H' := fun a us r => by
  rcases r with r | ⟨u, r⟩
  · exact .inl (k _ _ r (fun _ z => nomatch z) fun _ z => nomatch z)
  · exact .inr ⟨u, k _ _ r (fun _ z => nomatch z) fun _ z => nomatch z⟩
/-- [_law_places(box, hands, x) for index in range(n)] -/
theorem lc_pl {σ : L2.St} {H2 : Hp} {D b l : Addr} {Qd : Hp → Prop} (x : Nat) (hands : Int) (g : Nat → Int) (n : Nat) (hn : n ≤ 100) (h0 : ∀ y, ((wipe σ [7]).set 7 y)[0]? = some (some (.ref b))) (h2 : ∀ y, ((wipe σ [7]).set 7 y)[2]? = some (some (.int hands)))
    (hx : ∀ i : Nat, ((wipe σ [7]).set 7 (some (.int (0 + (i : Int)))))[x]? = some (some (.int (g i)))) (hh0 : 0 < hands) (hh1 : hands ≤ 1000) (hg : ∀ i, i < n → 0 ≤ g i ∧ g i ≤ 1000) (hB : BoxAt H2 b l) (hD : H2 D = .none)
    (hd : ∀ (H : Hp) (xs : List V) (ps : List Pl), Kb b l H2 H → BoxAt H b l → H D = some (.lst xs) → DpAll K H xs (ps.map plD) → ps.length = n → (∀ j q, ps[j]? = some q → plOk q hands (g j) = true) → Qd H) :
    ∃ W : Nat → Nat → Hp → Prop, (∃ m, W 0 m (L2.upd H2 D (.lst []))) ∧ ∀ i m H, W i m H →
      ((Itr 0 n).stop i H ∧ Qd H) ∨ ((Itr 0 n).go i H ∧ ∃ Nx : Hp → Prop, (∀ H', Nx H' → ∃ m', m' < m ∧ W (i + 1) m' H') ∧ ∀ y H', (Itr 0 n).yld i H y H' → gName 7 y (wipe σ [7]) H' fun σ2 H2 => wipe σ2 [7] = wipe σ [7] ∧ tYes σ2 H2 fun b H3 =>
        if b = true then tCall (spPlaces K) [] E0 (tCons (tVar 0) (tCons (tVar 2) (tCons (tVar x) tNil))) σ2 H3 fun y H4 => ∃ acc, H4 D = some (.lst acc) ∧ acc.length < sizeLine ∧ Nx (L2.upd H4 D (.lst (acc ++ [y]))) else Nx H3) := by
  obtain ⟨nb, nl⟩ := hB.neL hD
  refine lc_range (lo := 0) (n := n) (fun i H => Kb b l H2 H ∧ BoxAt H b l ∧ ∃ xs ps, H D = some (.lst xs) ∧ DpAll K H xs (ps.map plD) ∧ ps.length = i ∧ ∀ j q, ps[j]? = some q → plOk q hands (g j) = true)
    ⟨(Kb.refl b l H2).updD hD, hB.updD nb nl, [], [], upd_same, .nil, rfl, fun j q e => by simp at e⟩ ?_ ?_
  · rintro i H hi ⟨hk, hB1, xs, ps, hxs, dx, lx, ok⟩
    refine ⟨wipe_one σ 7 _, yes_lc ?_⟩
    refine ⟨_, h0 _, _, h2 _, _, hx i, b, l, hands, g i, rfl, hh0, hh1, (hg i hi).1, (hg i hi).2, hB1, fun v q H' dv okq hB' hk' => ?_⟩
    have hx' := hk'.kp.ls D xs hxs nb nl
    have lxs : xs.length = ps.length := by rw [DpAll.len dx, List.length_map]
    refine ⟨xs, hx', by rw [sizeLine_eq]; omega, (hk.trans hk').updD hD, hB'.updD nb nl, xs ++ [v], ps ++ [q], upd_same, ?_, by rw [List.length_append, lx]; rfl, fun j p e => ?_⟩
    · rw [List.map_append]
      have tp := tp_lst (o := HO.lst (xs ++ [v])) hx'
      exact DpAll.app (Dp.tps tp _ _ (noLs_map _ noL_pl _) (Dp.tps (tp_nl hk'.nl) _ _ (noLs_map _ noL_pl _) dx)) (.cons (Dp.tp tp _ _ (noL_pl q) dv) .nil)
    · by_cases c : j < ps.length
      · rw [List.getElem?_append_left c] at e
        exact ok j p e
      · have ej : j = ps.length := by
          have := (List.getElem?_eq_some_iff.mp e).1
          simp at this
          omega
        subst ej
        rw [List.getElem?_append_right (Nat.le_refl _), Nat.sub_self] at e
        have ep : q = p := by simpa using e
        subst ep
        rw [lx]
        exact okq
  · rintro H ⟨hk, hB1, xs, ps, hxs, dx, lx, ok⟩
    exact hd H xs ps hk hB1 hxs dx lx ok
/-- the seals that are drawn one by one: a hand's, or on a box that has none -/
def OkS (m : Int) (qs : List Pl) : Prop := ∀ (i : Nat) q, qs[i]? = some q → q.1 = .hand ∨ (q.1 = .box ∧ numOk q.2 m = true ∧ q ∉ qs.take i)
theorem OkS.nil (m : Int) : OkS m [] := fun i q e => by simp at e
theorem OkS.add {m : Int} {qs : List Pl} {q : Pl} (h : OkS m qs) (hq : q.1 = .hand ∨ (q.1 = .box ∧ numOk q.2 m = true ∧ q ∉ qs)) : OkS m (qs ++ [q]) := fun j p e => by
  by_cases c : j < qs.length
  · rw [List.getElem?_append_left c] at e
    rw [List.take_append_of_le_length (by omega)]
    exact h j p e
  · have ej : j = qs.length := by
      have := (List.getElem?_eq_some_iff.mp e).1
      simp at this
      omega
    subst ej
    rw [List.getElem?_append_right (Nat.le_refl _), Nat.sub_self] at e
    have ep : q = p := by simpa using e
    subst ep
    rw [List.take_append_of_le_length (Nat.le_refl _), List.take_length]
    exact hq
def fixS (h : Int) (q : Pl) : Pl := if q.1 = .box then q else (.hand, q.2 % h)
theorem fix_ok {h m : Int} {qs : List Pl} (h0 : 0 < h) (ok : OkS m qs) (hl : qs.length ≤ 3) (ss : List Pl) (ess : ss = qs.map (fixS h)) : ∀ (i : Nat) p, ss[i]? = some p → badS h m ss (0 + i) p = false := fun i p e => by
  subst ess
  rw [List.getElem?_map] at e
  cases eq : qs[i]? with
  | none => rw [eq] at e; cases e
  | some q =>
    rw [eq] at e
    have e' : fixS h q = p := Option.some.inj e
    subst e'
    have hi := (List.getElem?_eq_some_iff.mp eq).1
    rw [Nat.zero_add]
    unfold badS
    have n3 : decide (i = 3) = false := decide_eq_false (by omega)
    rw [n3]
    rcases ok i q eq with hq | ⟨hq, hn, hni⟩
    · have ef : fixS h q = (.hand, q.2 % h) := by unfold fixS; rw [if_neg (by rw [hq]; decide)]
      rw [ef]
      have pk : plOk (.hand, q.2 % h) h m = true := numOk_of (Int.emod_nonneg _ (by omega)) (Int.emod_lt_of_pos _ h0)
      rw [pk]
      rfl
    · have ef : fixS h q = q := by unfold fixS; rw [if_pos hq]
      rw [ef]
      have pk : plOk q h m = true := by
        unfold plOk
        rw [if_neg (by rw [hq]; decide), hq, hn]
        rfl
      rw [pk]
      have na : ((qs.map (fixS h)).take i).any (fun z => decide (z = q)) = false := by
        rw [List.any_eq_false]
        intro z hz hzq
        have hz' : z = q := of_decide_eq_true hzq
        subst hz'
        rw [← List.map_take] at hz
        obtain ⟨z0, hz0, ez⟩ := List.mem_map.mp hz
        have : z0 = z := by
          unfold fixS at ez
          by_cases c : z0.1 = .box
          · rw [if_pos c] at ez; exact ez
          · rw [if_neg c] at ez
            rw [← ez] at hq
            cases hq
        subst this
        exact hni hz0
      rw [na]
      simp
theorem plOk_gone {p : Pl} {h m : Int} (k : plOk p h m = true) : p.1 ≠ .gone := fun z => by
  unfold plOk at k
  rw [z] at k
  cases k
theorem err_none {h : Int} {bs ts ss : List Pl} (h0 : 1 ≤ h) (h1 : h ≤ 4) (b0 : 1 ≤ bs.length) (b1 : bs.length ≤ 3) (okb : ∀ (i : Nat) p, bs[i]? = some p → plOk p h i = true) (t1 : ts.length ≤ 4) (okt : ∀ (i : Nat) p, ts[i]? = some p → plOk p h bs.length = true)
    (oks : ∀ (i : Nat) p, ss[i]? = some p → badS h bs.length ss (0 + i) p = false) : errOf h bs ts ss = none := by
  unfold errOf
  have hn : numOk h 5 = true := numOk_of (by omega) (by omega)
  have hz : decide (h = 0) = false := decide_eq_false (by omega)
  rw [hn, hz, if_neg (by decide)]
  have eb : badBoxes h bs = none := by
    unfold badBoxes
    rw [if_neg (by omega)]
    refine bad_none bs 0 fun i p e => ?_
    have hi := (List.getElem?_eq_some_iff.mp e).1
    unfold badB
    rw [Nat.zero_add, okb i p e, decide_eq_false (show ¬ i = 3 by omega)]
    rfl
  have et : firstBad (badT h bs.length) 0 ts = none := by
    refine bad_none ts 0 fun i p e => ?_
    have hi := (List.getElem?_eq_some_iff.mp e).1
    unfold badT
    rw [Nat.zero_add, okt i p e, decide_eq_false (show ¬ i = 4 by omega)]
    rfl
  rw [eb, et, bad_none ss 0 oks]
theorem mem_get {α : Type} {l : List α} {p : α} (h : p ∈ l) : ∃ i : Nat, l[i]? = some p := by
  obtain ⟨i, hi, e⟩ := List.getElem_of_mem h
  exact ⟨i, List.getElem?_eq_some_iff.mpr ⟨hi, e⟩⟩
def spLHouse (K : PySem.W.Frag) (C : Addr) : Sp := fun vs H Q _ => ∃ (b l t : Addr) (s0 s1 s2 s3 : Int), vs = [.ref b, .ref t] ∧ SqT K H t [.int s0, .int s1, .int s2, .int s3] ∧ (1 ≤ s0 ∧ s0 ≤ 4) ∧ (1 ≤ s1 ∧ s1 ≤ 3) ∧ (0 ≤ s2 ∧ s2 ≤ 4) ∧ (0 ≤ s3 ∧ s3 ≤ 3) ∧ BoxAt H b l ∧
  ∀ h d H', HouseAt K C H' h d → HouseF K C H' h d → HsOk d → BoxAt H' b l → Kb b l H H' → Q (.ref h) H'
theorem scHouse : FnScope ["_law_box", "_law_sizes", "_law_hands_here", "_law_many", "_law_boxes", "_law_things", "_law_seals", "_law_index", "_law_place"] ["_law_box", "_law_sizes"] (defScope sHouse) := ⟨rfl, rfl, rfl, by decide +kernel, rfl, by decide +kernel, by decide +kernel⟩
theorem ok_lhouse {f gT gP gH C CE : Addr} {fd fdT fdP fdH : FuncData} (F : Fun K "_law_house" "_law_house" sHouse f fd) (B : Bt mg)
    (GT : FnOk P w K mg base CX0 1 gT fdT ["_law_box", "_law_many"] spTake) (mT : mg "_law_take" = some (.ref gT)) (kT : PySem.W.keepIn K (.ref gT) = true) (bT : Binds K fdT ["_law_box", "_law_many"] [])
    (GP : FnOk P w K mg base CX0 2 gP fdP ["_law_box", "_law_hands_here", "_law_many"] (spPlaces K)) (mP : mg "_law_places" = some (.ref gP)) (kP : PySem.W.keepIn K (.ref gP) = true) (bP : Binds K fdP ["_law_box", "_law_hands_here", "_law_many"] [])
    (M : Mk K C gH) (GH : FnOk P w K mg base (L2.CX P w) 5 gH fdH ["self", "hands", "boxes", "things", "seals"] (spHouse K C CE)) (mH : mg "House" = some (.ref C)) (bH : Binds K fdH ["self", "hands", "boxes", "things", "seals"] []) :
    FnOk P w K mg base CX0 7 f fd ["_law_box", "_law_sizes"] (spLHouse K C) := by
  refine F.ok scHouse (fun vs H Q E h => ?_) (fun cdv A outer s H vs Q E hr h => ?_)
  · obtain ⟨b, l, t, s0, s1, s2, s3, rfl, _⟩ := h
    rfl
  · obtain ⟨b, l, t, s0, s1, s2, s3, rfl, ht, b0, b1, b2, b3, hB, k⟩ := h
    have hr1 : Room 1 _ := hr.mono (by decide)
    have hr2 : Room 2 _ := hr.mono (by decide)
    have hu65 : (cxOf CX0 P w K mg base ["_law_box", "_law_sizes", "_law_hands_here", "_law_many", "_law_boxes", "_law_things", "_law_seals", "_law_index", "_law_place"] "_law_house" (defScope sHouse) f cdv A outer s H E).nox.A.units + 65 < cLine := by have := hr.un; show (A.deeper _).units + 65 < cLine; omega
    refine ⟨_, pss_cons (ps_set (i := 2) scHouse.nd rfl (.inr rfl) (pe_op op_add pe_int (pe_call GT hr1 rfl mT kT bT .nil pass0 (pa_cons (pv 0) (pa_cons (pe_ix ix_tup (pv 1) pe_int (fun _ _ => rfl)) pa_nil)))))
      (pss_cons (ps_set (i := 3) scHouse.nd rfl (.inr rfl) (pe_op op_add pe_int (pe_call GT hr1 rfl mT kT bT .nil pass0 (pa_cons (pv 0) (pa_cons (pe_ix ix_tup (pv 1) pe_int (fun _ _ => rfl)) pa_nil)))))
      (pss_cons (ps_set (i := 4) scHouse.nd rfl (.inl rfl) (pe_callTy call_tuple_of (by rfl) B.tup (by decide +kernel) (pa_cons (pe_lc (own := [("_law_index", 7)]) (g := gName 7) (tt := tYes) (te := tCall (spPlaces K) [] E0 (tCons (tVar 0) (tCons (tVar 2) (tCons (tVar 7) tNil)))) rfl scHouse.nd (pi_range1 rfl B.rng (pa_cons (pv 3) pa_nil))
        (blkOk_by (own := [("_law_index", 7)]) (N := ["_law_box", "_law_sizes", "_law_hands_here", "_law_many", "_law_boxes", "_law_things", "_law_seals", "_law_index", "_law_place"]) (sc := defScope sHouse) (by decide +kernel)) (fun _ _ _ _ _ => pg_name (i := 7) scHouse.nd rfl (.inl rfl)) (fun _ _ _ _ _ => pts_nil) (fun _ _ _ _ _ => (pe_call GP hr2 rfl mP kP bP .nil pass0 (pa_cons (pv 0) (pa_cons (pv 2) (pa_cons (pv 7) pa_nil)))))) pa_nil)))
      (pss_cons (ps_set (i := 5) scHouse.nd rfl (.inl rfl) (pe_callTy call_tuple_of (by rfl) B.tup (by decide +kernel) (pa_cons (pe_lc (own := [("_law_index", 7)]) (g := gName 7) (tt := tYes) (te := tCall (spPlaces K) [] E0 (tCons (tVar 0) (tCons (tVar 2) (tCons (tVar 3) tNil)))) rfl scHouse.nd (pi_range1 rfl B.rng (pa_cons (pe_call GT hr1 rfl mT kT bT .nil pass0 (pa_cons (pv 0) (pa_cons (pe_op op_add (pe_ix ix_tup (pv 1) pe_int (fun _ _ => rfl)) pe_int) pa_nil))) pa_nil))
        (blkOk_by (own := [("_law_index", 7)]) (N := ["_law_box", "_law_sizes", "_law_hands_here", "_law_many", "_law_boxes", "_law_things", "_law_seals", "_law_index", "_law_place"]) (sc := defScope sHouse) (by decide +kernel)) (fun _ _ _ _ _ => pg_name (i := 7) scHouse.nd rfl (.inl rfl)) (fun _ _ _ _ _ => pts_nil) (fun _ _ _ _ _ => (pe_call GP hr2 rfl mP kP bP .nil pass0 (pa_cons (pv 0) (pa_cons (pv 2) (pa_cons (pv 3) pa_nil)))))) pa_nil)))
      (pss_cons (ps_set (i := 6) scHouse.nd rfl (.inl rfl) (pe_tup pa_nil))
      (pss_cons (ps_for PassesOwn.never rfl (pi_range1 rfl B.rng (pa_cons (pe_call GT hr1 rfl mT kT bT .nil pass0 (pa_cons (pv 0) (pa_cons (pe_op op_add (pe_ix ix_tup (pv 1) pe_int (fun _ _ => rfl)) pe_int) pa_nil))) pa_nil)) (pg_name (i := 7) scHouse.nd rfl (.inl rfl))
        (pss_cons (ps_set (i := 8) scHouse.nd rfl (.inl rfl) (pe_call GP hr2 rfl mP kP bP .nil pass0 (pa_cons (pv 0) (pa_cons (pv 2) (pa_cons (pv 3) pa_nil)))))
        (pss_one (ps_set (i := 6) scHouse.nd rfl (.inl rfl) (pe_op op_catA (pv 6) (pe_tup (pa_cons (pe_ifExp (PW.pt (pw_or (pt_cmpR op_eq (pe_ix ix_tup (pv 8) pe_int (fun _ _ => rfl)) pe_str (nomark _)) (pw_or1 (pt_cmpR (op_inDT hu65) (pv 8) (pv 6) (by rfl)))))
          (pe_tup (pa_cons pe_str (pa_cons (pe_ix ix_tup (pv 8) pe_int (fun _ _ => rfl)) pa_nil))) (pv 8)) pa_nil)))))))
      (pss_cons (ps_set (i := 6) scHouse.nd rfl (.inl rfl) (pe_callTy call_tupleF (by rfl) B.tup (by decide +kernel) (pa_cons (pe_lc (own := [("_law_place", 8)]) (g := gName 8) (tt := tYes)
          (te := tIf (tTest (tOp rEq (tOp (rIxT K) (tVar 8) (tC (.int 0))) (tC (.str "box")))) (tVar 8) (tTup (tCons (tC (.str "hand")) (tCons (tOp (rI (fun _ j => 0 < j) fun i j => .int (i % j)) (tCB (fun xs H Q => (∃ i, xs = [.int i] ∧ Q (.int i) H) ∨ ∃ k, xs = [.bl k] ∧ Q (.int (if k then 1 else 0)) H) (tCons (tOp (rIxT K) (tVar 8) (tC (.int 1))) tNil)) (tVar 2)) tNil))))
          rfl scHouse.nd (pi_tup (pv 6)) (blkOk_by (own := [("_law_place", 8)]) (N := ["_law_box", "_law_sizes", "_law_hands_here", "_law_many", "_law_boxes", "_law_things", "_law_seals", "_law_index", "_law_place"]) (sc := defScope sHouse) (by decide +kernel)) (fun _ _ _ _ _ => pg_name (i := 8) scHouse.nd rfl (.inl rfl)) (fun _ _ _ _ _ => pts_nil)
          (fun _ _ _ _ _ => pe_ifExp (pt_cmpR op_eq (pe_ix ix_tup (pv 8) pe_int (fun _ _ => rfl)) pe_str (nomark _)) (pv 8) (pe_tup (pa_cons pe_str (pa_cons (pe_op op_mod (pe_callTy call_int1 (by rfl) B.int (by decide +kernel) (pa_cons (pe_ix ix_tup (pv 8) pe_int (fun _ _ => rfl)) pa_nil)) (pv 2)) pa_nil))))) pa_nil)))
      (pss_one (ps_ret (pe_make M GH hr rfl mH bH .nil passL (pa_cons (pv 2) (pa_cons (pv 4) (pa_cons (pv 5) (pa_cons (pv 6) pa_nil))))))))))))), ?_⟩
    -- the numbers
    refine ⟨_, rfl, _, rfl, t, _, 0, _, rfl, rfl, ht, rfl, b, l, s0, rfl, by omega, by omega, hB, fun n H1 n0 n1 hB1 k1 => ⟨_, _, rfl, rfl, ?_⟩⟩
    refine ⟨_, rfl, _, rfl, t, _, 1, _, rfl, rfl, SqT.nl k1.nl ht, rfl, b, l, s1, rfl, by omega, by omega, hB1, fun m H2 m0 m1 hB2 k2 => ⟨_, _, rfl, rfl, ?_⟩⟩
    have nn : ∀ z : Int, 0 ≤ z → ((z.toNat : Nat) : Int) = z := fun z hz => by omega
    -- boxes
    refine ⟨_, rfl, _, rfl, by omega, by omega, fun D1 hD1 => ?_⟩
    refine lc_pl (K := K) 7 (1 + n) (fun i => 0 + (i : Int)) (1 + m).toNat (by omega) (fun _ => rfl) (fun _ => rfl) (fun i => rfl) (by omega) (by omega) (fun i hi => ⟨by omega, by omega⟩) hB2 hD1 fun H3 xb bs k3 hB3 hx3 db lb okb => ?_
    refine ⟨D1, xb, rfl, .inl ⟨SqL.of hx3, fun ab hab => ?_⟩⟩
    have hB3' := hB3.upd (o := HO.tup xb) hab
    have k3' : Kb b l H (L2.upd H3 ab (.tup xb)) := (((k1.trans k2).trans k3)).trans (Kb.same (same_upd hab))
    have dpb : Dp K (L2.upd H3 ab (.tup xb)) (.ref ab) (plsD bs) := .tup (SqT.of upd_same) (Dp.sames (same_upd hab) _ _ db)
    -- things
    refine ⟨_, rfl, _, rfl, t, _, 2, _, rfl, rfl, SqT.nl k3'.nl ht, rfl, _, _, rfl, rfl, b, l, s2 + 1, rfl, by omega, by omega, hB3', fun m2 H4 m20 m21 hB4 k4 => ⟨m2, rfl, by omega, by omega, fun D2 hD2 => ?_⟩⟩
    refine lc_pl (K := K) 3 (1 + n) (fun _ => 1 + m) m2.toNat (by omega) (fun _ => rfl) (fun _ => rfl) (fun i => rfl) (by omega) (by omega) (fun i hi => ⟨by omega, by omega⟩) hB4 hD2 fun H5 xt ts k5 hB5 hx5 dt lt okt => ?_
    refine ⟨D2, xt, rfl, .inl ⟨SqL.of hx5, fun at' hat => ?_⟩⟩
    have hB5' := hB5.upd (o := HO.tup xt) hat
    have k45 : Kb b l (L2.upd H3 ab (.tup xb)) (L2.upd H5 at' (.tup xt)) := (k4.trans k5).trans (Kb.same (same_upd hat))
    have k5' : Kb b l H (L2.upd H5 at' (.tup xt)) := k3'.trans k45
    have dpt : Dp K (L2.upd H5 at' (.tup xt)) (.ref at') (plsD ts) := .tup (SqT.of upd_same) (Dp.sames (same_upd hat) _ _ dt)
    have dpb5 := Dp.nl k45.nl _ _ (noL_pls bs) dpb
    -- seals, one by one
    refine ⟨(by show 0 ≤ sizeLine; decide), fun a0 ha0 => ?_⟩
    have hB6 := hB5'.upd (o := HO.tup []) ha0
    have k6 : Kb b l (L2.upd H5 at' (.tup xt)) (L2.upd (L2.upd H5 at' (.tup xt)) a0 (.tup [])) := Kb.same (same_upd ha0)
    refine ⟨_, rfl, _, rfl, t, _, 3, _, rfl, rfl, SqT.nl (k5'.trans k6).nl ht, rfl, _, _, rfl, rfl, b, l, s3 + 1, rfl, by omega, by omega, hB6, fun m3 H7 m30 m31 hB7 k7 => ⟨m3, rfl, by omega, by omega, ?_⟩⟩
    refine for_range (lo := 0) (n := m3.toNat) (fun i σ Hn => ∃ (vi vp : Option V) (a : Addr) (xs : List V) (qs : List Pl), σ = [some (.ref b), some (.ref t), some (.int (1 + n)), some (.int (1 + m)), some (.ref ab), some (.ref at'), some (.ref a), vi, vp] ∧ Kb b l (L2.upd H5 at' (.tup xt)) Hn ∧ BoxAt Hn b l ∧ SqT K Hn a xs ∧ DpAll K Hn xs (qs.map plD) ∧ qs.length = i ∧ OkS (1 + m) qs)
      ⟨none, none, a0, [], [], rfl, k6.trans k7, hB7, SqT.nl k7.nl (SqT.of upd_same), .nil, rfl, OkS.nil _⟩ ?_ ?_
    · rintro i σ Hn hi ⟨vi, vp, a, xs, qs, rfl, kn, hBn, qa, da, la, oks⟩
      refine ⟨_, rfl, _, rfl, _, rfl, b, l, 1 + n, 1 + m, rfl, by omega, by omega, by omega, by omega, hBn, fun v q Hm dv okq hBm km => ?_⟩
      obtain ⟨av, rfl, qv⟩ := pl_at dv
      have cat : ∀ (y0 : V) (q' : Pl) (H2 : Hp), Same Hm H2 → Dp K H2 y0 (plD q') → (q'.1 = .hand ∨ (q'.1 = .box ∧ numOk q'.2 (1 + m) = true ∧ q' ∉ qs)) → ∀ p : Addr, H2 p = none → ∀ R : V → Hp → Prop,
          (∀ (c : Addr) (xs' : List V) (H3 : Hp), Kb b l (L2.upd H5 at' (.tup xt)) H3 → BoxAt H3 b l → SqT K H3 c xs' → DpAll K H3 xs' ((qs ++ [q']).map plD) → (qs ++ [q']).length = i + 1 → OkS (1 + m) (qs ++ [q']) → R (.ref c) H3) →
          rCatA K (.ref a) (.ref p) (L2.upd H2 p (.tup [y0])) R := fun y0 q' H2 e2 d2 hq p hp R kR => by
        have e3 : Same Hm (L2.upd H2 p (.tup [y0])) := Same.upd2 e2 hp
        have lxs : xs.length = qs.length := by rw [DpAll.len da, List.length_map]
        have dxs : ∀ H3, Same Hm H3 → DpAll K H3 xs (qs.map plD) := fun H3 e => Dp.sames e _ _ (Dp.nls km.nl _ _ (noLs_map _ noL_pl _) da)
        have dy : Dp K (L2.upd H2 p (.tup [y0])) y0 (plD q') := Dp.same (same_upd hp) _ _ d2
        have lq : (qs ++ [q']).length = i + 1 := by rw [List.length_append, la]; rfl
        refine ⟨a, p, xs, [y0], rfl, rfl, SqT.same e3 (SqT.nl km.nl qa), SqT.of upd_same, (by rw [sizeLine_eq]; show xs.length + 1 ≤ _; omega), fun ex => ?_, (fun _ z => by cases z), fun _ _ c hc => ?_⟩
        · subst ex
          have eq0 : qs = [] := List.eq_nil_of_length_eq_zero (by rw [← lxs]; rfl)
          subst eq0
          exact kR p [y0] _ ((kn.trans km).trans (Kb.same e3)) (hBm.same e3) (SqT.of upd_same) (.cons dy .nil) lq (oks.add hq)
        · have e4 : Same Hm (L2.upd (L2.upd H2 p (.tup [y0])) c (.tup (xs ++ [y0]))) := Same.upd2 e3 hc
          refine kR c (xs ++ [y0]) _ ((kn.trans km).trans (Kb.same e4)) (hBm.same e4) (SqT.of upd_same) ?_ lq (oks.add hq)
          rw [List.map_append]
          exact DpAll.app (dxs _ e4) (.cons (Dp.same (same_upd hc) _ _ dy) .nil)
      have fin : ∀ (y0 : V) (q' : Pl) (H2 : Hp), Same Hm H2 → Dp K H2 y0 (plD q') → (q'.1 = .hand ∨ (q'.1 = .box ∧ numOk q'.2 (1 + m) = true ∧ q' ∉ qs)) → ∀ p : Addr, H2 p = none → rCatA K (.ref a) (.ref p) (L2.upd H2 p (.tup [y0])) fun x H1 => gName 6 x (([some (V.ref b), some (V.ref t), some (V.int (1 + n)), some (V.int (1 + m)), some (V.ref ab), some (V.ref at'), some (V.ref a), vi, vp].set 7 (some (V.int (0 + (i : Int))))).set 8 (some (V.ref av))) H1 fun σ Hn => ∃ (vi vp : Option V) (a : Addr) (xs : List V) (qs : List Pl), σ = [some (.ref b), some (.ref t), some (.int (1 + n)), some (.int (1 + m)), some (.ref ab), some (.ref at'), some (.ref a), vi, vp] ∧ Kb b l (L2.upd H5 at' (.tup xt)) Hn ∧ BoxAt Hn b l ∧ SqT K Hn a xs ∧ DpAll K Hn xs (qs.map plD) ∧ qs.length = i + 1 ∧ OkS (1 + m) qs :=
        fun y0 q' H2 e2 d2 hq p hp => cat y0 q' H2 e2 d2 hq p hp _ fun c xs' H3 k1 k2 k3 k4 k5 k6 => ⟨_, _, c, xs', _, rfl, k1, k2, k3, k4, k5, k6⟩
      refine ⟨_, rfl, _, rfl, av, _, 0, _, rfl, rfl, qv, rfl, rfl, _, rfl, ?_⟩
      rw [decS]
      have isn : ∀ p : Addr, Hm p = none → SqT K (L2.upd Hm p (.tup [.str ("hand" : Str), .int q.2])) p [.str ("hand" : Str), .int q.2] := fun p hp => SqT.of upd_same
      have dh : ∀ p : Addr, Hm p = none → Dp K (L2.upd Hm p (.tup [.str ("hand" : Str), .int q.2])) (.ref p) (plD (.hand, q.2)) := fun p hp => .tup (isn p hp) (.cons (.str _) (.cons (.int _) .nil))
      by_cases c1 : q.1 = .hand
      · rw [show decide (q.1.str = ("hand" : Str)) = true from decide_eq_true (by rw [c1]; rfl)]
        refine iteT (iteT ?_)
        refine ⟨_, rfl, av, _, 1, _, rfl, rfl, qv, rfl, (by show 2 ≤ sizeLine; decide), fun p hp => ⟨(by show 1 ≤ sizeLine; decide), fun p2 hp2 => ?_⟩⟩
        exact fin _ (.hand, q.2) _ (same_upd hp) (dh p hp) (.inl rfl) p2 hp2
      · rw [show decide (q.1.str = ("hand" : Str)) = false from decide_eq_false fun z => c1 (wd_inj (v := .hand) z)]
        have okb2 : q.1 = .box ∧ numOk q.2 (1 + m) = true := by
          unfold plOk at okq
          rw [if_neg c1, Bool.and_eq_true] at okq
          exact ⟨of_decide_eq_true okq.1, okq.2⟩
        refine iteF ⟨_, rfl, _, rfl, plD q, qs.map plD, dv, .tup (SqT.nl km.nl qa) (Dp.nls km.nl _ _ (noLs_map _ noL_pl _) da), shaped_pl q, shaped_pls qs, _, rfl, ?_⟩
        rw [any_pl, if_neg (show ¬ (false = true) by decide)]
        cases ca : qs.any fun z => decide (z = q) with
        | true =>
          refine iteT ⟨_, rfl, av, _, 1, _, rfl, rfl, qv, rfl, (by show 2 ≤ sizeLine; decide), fun p hp => ⟨(by show 1 ≤ sizeLine; decide), fun p2 hp2 => ?_⟩⟩
          exact fin _ (.hand, q.2) _ (same_upd hp) (dh p hp) (.inl rfl) p2 hp2
        | false =>
          refine iteF ⟨_, rfl, (by show 1 ≤ sizeLine; decide), fun p2 hp2 => ?_⟩
          refine fin _ q _ (fun _ _ e => e) dv (.inr ⟨okb2.1, okb2.2, fun z => ?_⟩) p2 hp2
          have := List.any_eq_false.mp ca q z
          exact this (decide_eq_true rfl)
    · rintro σ Hn ⟨vi, vp, a, xs, qs, rfl, kn, hBn, qa, da, la, oks⟩
      refine ⟨_, rfl, a, rfl, ⟨xs, qa⟩, fun D hD => ?_⟩
      have lxs : xs.length = qs.length := by rw [DpAll.len da, List.length_map]
      have e0 : ∀ (H : Hp) (o : HO), Same Hn H → Same Hn (L2.upd H D o) := fun H o e a o' h => by rw [upd_ne (ne_of_none h hD)]; exact e a o' h
      refine lc_tup (K := K) (a := a) (xs := xs) (fun i H => Same Hn H ∧ ∃ ys, H D = some (.lst ys) ∧ ys.length = i ∧ DpAll K H ys ((qs.take i).map fun q => plD (fixS (1 + n) q)))
        ⟨same_upd hD, [], upd_same, rfl, .nil⟩ (fun i H _ ⟨e, _⟩ => SqT.same e qa) ?_ ?_
      · rintro i y H' hi ⟨e, ys, hys, lys, dys⟩
        have hi1 := (List.getElem?_eq_some_iff.mp hi).1
        obtain ⟨d, hd1, hd2⟩ := DpAll.get da hi
        obtain ⟨q, hq⟩ : ∃ q, qs[i]? = some q := ⟨_, List.getElem?_eq_getElem (by omega)⟩
        have ed : plD q = d := by
          rw [List.getElem?_map, hq] at hd1
          exact Option.some.inj hd1
        subst ed
        have dy := Dp.same e _ _ hd2
        have fin : ∀ (y0 : V) (H4 : Hp), Same Hn H4 → H4 D = some (.lst ys) → DpAll K H4 ys ((qs.take i).map fun q => plD (fixS (1 + n) q)) → Dp K H4 y0 (plD (fixS (1 + n) q)) → ∃ acc, H4 D = some (.lst acc) ∧ acc.length < sizeLine ∧ Same Hn (L2.upd H4 D (.lst (acc ++ [y0]))) ∧ ∃ zs, (L2.upd H4 D (.lst (acc ++ [y0]))) D = some (.lst zs) ∧ zs.length = i + 1 ∧ DpAll K (L2.upd H4 D (.lst (acc ++ [y0]))) zs ((qs.take (i + 1)).map fun q => plD (fixS (1 + n) q)) := fun y0 H4 e4 h4 d4 dy4 => by
          refine ⟨ys, h4, by rw [sizeLine_eq]; omega, e0 _ _ e4, ys ++ [y0], upd_same, by rw [List.length_append, lys]; rfl, ?_⟩
          have tp := tp_lst (o := HO.lst (ys ++ [y0])) h4
          have et : (qs.take (i + 1)).map (fun q => plD (fixS (1 + n) q)) = (qs.take i).map (fun q => plD (fixS (1 + n) q)) ++ [plD (fixS (1 + n) q)] := by
            rw [List.take_add_one, hq]
            simp
          rw [et]
          exact DpAll.app (Dp.tps tp _ _ (noLs_map (fun q => plD (fixS (1 + n) q)) (fun q => noL_pl _) _) d4) (.cons (Dp.tp tp _ _ (noL_pl _) dy4) .nil)
        obtain ⟨av, rfl, qv⟩ := pl_at dy
        refine ⟨wipe_one _ 8 _, yes_lc ?_⟩
        refine ⟨_, rfl, av, _, 0, _, rfl, rfl, qv, rfl, rfl, _, rfl, ?_⟩
        rw [decS]
        by_cases c1 : q.1 = .box
        · rw [show decide (q.1.str = ("box" : Str)) = true from decide_eq_true (by rw [c1]; rfl)]
          refine iteT ⟨_, rfl, fin _ _ e hys dys ?_⟩
          unfold fixS
          rw [if_pos c1]
          exact dy
        · rw [show decide (q.1.str = ("box" : Str)) = false from decide_eq_false fun z => c1 (wd_inj (v := .box) z)]
          refine iteF ⟨_, rfl, av, _, 1, _, rfl, rfl, qv, rfl, .inl ⟨_, rfl, _, rfl, _, _, rfl, rfl, (by omega), (by show 2 ≤ sizeLine; decide), fun p hp => ?_⟩⟩
          refine fin _ _ (Same.upd2 e hp) (by rw [upd_ne (ne_of_none hys hp)]; exact hys) (Dp.sames (same_upd hp) _ _ dys) ?_
          unfold fixS
          rw [if_neg c1]
          exact .tup (SqT.of upd_same) (.cons (.str _) (.cons (.int _) .nil))
      · rintro H' ⟨e, ys, hys, lys, dys⟩
        refine ⟨D, ys, rfl, SqL.of hys, fun as o has oc od => ?_⟩
        rw [lxs, List.take_length] at dys
        have e5 : Same Hn (L2.upd H' as (.frz o (.tup ys))) := Same.upd2 e has
        have dps : Dp K (L2.upd H' as (.frz o (.tup ys))) (.ref as) (plsD (qs.map (fixS (1 + n)))) := .tup (Fz.sq ⟨o, upd_same, oc, od⟩) (by rw [List.map_map]; exact Dp.sames (same_upd has) _ _ dys)
        have k6' := (kn.trans (Kb.same e5))
        have dpb6 := Dp.nl k6'.nl _ _ (noL_pls bs) dpb5
        have dpt6 := Dp.nl k6'.nl _ _ (noL_pls ts) dpt
        have hB6' := hBn.same e5
        have kAll := k5'.trans k6'
        have lb1 : bs.length = (1 + m).toNat := lb
        have err : errOf (1 + n) bs ts (qs.map (fixS (1 + n))) = none := by
          refine err_none (by omega) (by omega) (by omega) (by omega) (fun i p e => ?_) (by omega) (fun i p e => ?_) ?_
          · have := okb i p e
            rwa [Int.zero_add] at this
          · have := okt i p e
            rwa [show ((bs.length : Nat) : Int) = 1 + m by omega]
          · rw [show ((bs.length : Nat) : Int) = 1 + m by omega]
            exact fix_ok (by omega) oks (by omega) _ rfl
        have fzs : Fv (L2.upd H' as (.frz o (.tup ys))) (.ref as) := ⟨as, ys, rfl, o, upd_same, oc, od⟩
        generalize hHe : L2.upd H' as (.frz o (.tup ys)) = He at *
        refine ⟨_, rfl, _, rfl, _, rfl, _, rfl, fun x dx hx hdx ne => ?_⟩
        have hdx' : (L2.upd He dx (.own x)) x = none := by rw [upd_ne ne.symm]; exact hx
        have e7 : Same He (L2.upd (L2.upd He dx (.own x)) x (.ins C dx [])) := Same.upd2 (same_upd hdx) hdx'
        refine ⟨x, dx, 1 + n, _, _, _, bs, ts, qs.map (fixS (1 + n)), rfl, upd_same, Dp.same e7 _ _ dpb6, Dp.same e7 _ _ dpt6, Dp.same e7 _ _ dps, by omega, by omega, by rw [List.length_map]; omega, fun z i e => ?_, fun _ H8 hb8 hh8 hf8 => ⟨rfl, ?_⟩⟩
        · rw [err] at e
          cases e
        · have e8 : Same He H8 := fun a o h => hb8 a o (e7 a o h) (ne_of_none h hx)
          refine k x _ H8 hh8 (hf8 (fzs.nl fun a o h _ _ => e7 a o h)) ⟨by show 1 ≤ 1 + n; omega, by show 1 + n ≤ 4; omega, by show 1 ≤ bs.length; omega, by show bs.length ≤ 3; omega, by show ts.length ≤ 4; omega, by show (qs.map _).length ≤ 3; rw [List.length_map]; omega, err, fun p hp => ?_, fun p hp => ?_, fun p hp => ?_⟩ (hB6'.same e8) (kAll.trans (Kb.same e8))
          · obtain ⟨i, hi⟩ := mem_get hp
            exact plOk_gone (okb i p hi)
          · obtain ⟨i, hi⟩ := mem_get hp
            exact plOk_gone (okt i p hi)
          · obtain ⟨q, hq, rfl⟩ := List.mem_map.mp hp
            obtain ⟨i, hi⟩ := mem_get hq
            unfold fixS
            rcases oks i q hi with z | ⟨z, _⟩
            · rw [if_neg (by rw [z]; decide)]
              intro z'
              cases z'
            · rw [if_pos z, z]
              intro z'
              cases z'
end
end Kw


set_option Elab.async false
set_option linter.all false
set_option maxRecDepth 100000
set_option maxHeartbeats 4000000
namespace Kw
open PySem PySem.Spec PyProof.Rows L2
section
variable {P : Program} {w : World} {K : PySem.W.Frag} {mg : Str → Option Value} {base : Heap}
def dueD : Option (Str × Nat) → PyData
  | none => .str ""
  | some (z, i) => .tuple [.str "InvalidHouse", .str z, .int (i : Nat)]
/-! ### _law_error -/
def KindAt (K : PySem.W.Frag) (mg : Str → Option Value) (CE : Addr) (x : Str) (b : Bool) : Prop := ∃ c, mg x = some (.ref c) ∧ PySem.W.kitOne K (.ref CE) (.ref c) = some b
structure ErrF (K : PySem.W.Frag) (mg : Str → Option Value) (CE CW : Addr) : Prop where
  exc : ExcC K CE
  xf : XfC K CE
  nP : PySem.W.findIn K (.ref CE) "part" = some none
  nI : PySem.W.findIn K (.ref CE) "index" = some none
  wat : mg "WatchError" = some (.ref CW)
  exm : PySem.W.exmOne K (.ref CE) (.ref CW) = some true
  ve : mg "ValueError" = none
  kve : PySem.W.kitOne K (.ref CE) (.type "ValueError") = some true
  kInsideItself : KindAt K mg CE "InsideItself" false
  kInvalidCourse : KindAt K mg CE "InvalidCourse" false
  kInvalidHands : KindAt K mg CE "InvalidHands" false
  kInvalidHouse : KindAt K mg CE "InvalidHouse" true
  kInvalidLog : KindAt K mg CE "InvalidLog" false
  kInvalidNumber : KindAt K mg CE "InvalidNumber" false
  kIsSealed : KindAt K mg CE "IsSealed" false
  kNoCourse : KindAt K mg CE "NoCourse" false
  kNotHeld : KindAt K mg CE "NotHeld" false
  kNotInside : KindAt K mg CE "NotInside" false
  kNotSealed : KindAt K mg CE "NotSealed" false
  kUnknownBox : KindAt K mg CE "UnknownBox" false
  kUnknownHand : KindAt K mg CE "UnknownHand" false
  kUnknownItem : KindAt K mg CE "UnknownItem" false
  kUnknownSeal : KindAt K mg CE "UnknownSeal" false
theorem tcat {σ : L2.St} {H : Hp} {Q : VK} {i : Nat} {l : Addr} {xs vs : List V} {args : TA} (h0 : σ[i]? = some (some (.ref l))) (h1 : H l = some (.lst xs)) (ha : ∀ R : List V → Hp → Prop, R vs H → args σ H R) (hl : xs.length + vs.length ≤ sizeLine)
    (k : ∀ (p : Addr) H', Same H H' → H' p = some (.lst (xs ++ vs)) → Q (.ref p) H') : tOp rCat (tVar i) (tLst args) σ H Q :=
  ⟨_, h0, ha _ ⟨by omega, fun p hp => ⟨l, p, xs, vs, rfl, rfl, (same_upd hp) _ _ h1, upd_same, hl, fun p2 hp2 => k _ _ (Same.upd2 (same_upd hp) hp2) upd_same⟩⟩⟩
theorem tisi {σ : L2.St} {H : Hp} {Q : VK} {CE a dd c : Addr} {b : Bool} {fs : List (Str × V)} (h0 : σ[1]? = some (some (.ref a))) (hd : H dd = some (.xd fs)) (ki : PySem.W.kitOne K (.ref CE) (.ref c) = some b) (q : Q (.bl b) H) :
    tCB (fun xs H Q => (∀ d, some dd = some d → ∃ fs, H d = some (.xd fs)) ∧ rIsE K CE a xs H Q) (tCons (tVar 1) (tCons (tC (.ref c)) tNil)) σ H Q :=
  ⟨_, h0, fun d e => by cases e; exact ⟨_, hd⟩, .ref c, .ref c, b, rfl, fun _ z => z, ki, q⟩
def errOut (CE : Addr) (Q : VK) : XK := fun cls d H' => cls = .ref CE ∧ ∃ (dd : Addr) (z : Str) (i : Nat), d = some dd ∧ H' dd = some (.xd (ihFs z i)) ∧ ∀ v H2, Same H' H2 → Dp K H2 v (dueD (some (z, i))) → Q v H2
def TErr (K : PySem.W.Frag) (CE : Addr) : (XK → Hp → VK → Prop) → Hp → VK → Prop := fun tl H Q => tl (errOut (K := K) CE Q) H (fun _ H' => Q (.str "") H')
theorem scErr : FnScope ["_law_work", "error", "_law_kinds", "_law_names", "_law_name"] ["_law_work"] (defScope sErr) := ⟨rfl, rfl, rfl, by decide +kernel, rfl, by decide +kernel, by decide +kernel⟩
def kindsV : List Bool := [false, false, false, true, false, false, false, false, false, false, false, false, false, false, false]
def namesV : List Str := ["InsideItself", "InvalidCourse", "InvalidHands", "InvalidHouse", "InvalidLog", "InvalidNumber", "IsSealed", "NoCourse", "NotHeld", "NotInside", "NotSealed", "UnknownBox", "UnknownHand", "UnknownItem", "UnknownSeal"]
theorem fs_part (z : Str) (i : Int) : (ihFs z i).lookup ("part" : Str) = some (.str z) := by
  unfold ihFs
  rw [List.lookup_cons, show (("part" : Str) == ("index" : Str)) = false from by decide +kernel]
  rfl
theorem fs_index (z : Str) (i : Int) : (ihFs z i).lookup ("index" : Str) = some (.int i) := by
  unfold ihFs
  rw [List.lookup_cons, show (("index" : Str) == ("index" : Str)) = true from by decide +kernel]
theorem iteFe {b : Bool} {A B : Prop} (hb : b = false) (h : B) : if b = true then A else B := by
  rw [hb]
  exact iteF h
theorem iteTe {b : Bool} {A B : Prop} (hb : b = true) (h : A) : if b = true then A else B := by
  rw [hb]
  exact iteT h
def errSuite : List Stmt := match defBody sErr with
  | .Try _ (.ExceptHandler _ _ s _ :: _) _ _ _ :: _ => s
  | _ => []
theorem err_suite {g : Addr} {cdg : Value} {A : Around} {outer : List Env} {s0 : Shared} {H0 : Hp} {CE CW a : Addr} {oe : Obj} {dd : Addr} {pn : List (Addr × Obj)} (T : ErrF K mg CE CW) (B : Bt mg) (hz : Zc (.ref CE) (some dd) oe) (hf : ∃ vs, oe.data = .fields vs)
    (D : Ends) (σ : L2.St) (H : Hp) (v0 v2 v3 v4 : Option V) (z : Str) (i : Nat) (hσ : σ = [v0, some (.ref a), v2, v3, v4]) (hh : H dd = some (.xd (ihFs z i))) (k : ∀ v H2, Same H H2 → Dp K H2 v (dueD (some (z, i))) → D.rt v H2) :
      ∃ T, PSs (Cx.suite ((cxOf CX0 P w K mg base ["_law_work", "error", "_law_kinds", "_law_names", "_law_name"] "_law_error" (defScope sErr) g cdg A outer s0 H0 E0).nox) a ((a, oe) :: pn)) errSuite T ∧ T D σ H := by
    obtain ⟨cInsideItself, mInsideItself, qInsideItself⟩ := T.kInsideItself
    obtain ⟨cInvalidCourse, mInvalidCourse, qInvalidCourse⟩ := T.kInvalidCourse
    obtain ⟨cInvalidHands, mInvalidHands, qInvalidHands⟩ := T.kInvalidHands
    obtain ⟨cInvalidHouse, mInvalidHouse, qInvalidHouse⟩ := T.kInvalidHouse
    obtain ⟨cInvalidLog, mInvalidLog, qInvalidLog⟩ := T.kInvalidLog
    obtain ⟨cInvalidNumber, mInvalidNumber, qInvalidNumber⟩ := T.kInvalidNumber
    obtain ⟨cIsSealed, mIsSealed, qIsSealed⟩ := T.kIsSealed
    obtain ⟨cNoCourse, mNoCourse, qNoCourse⟩ := T.kNoCourse
    obtain ⟨cNotHeld, mNotHeld, qNotHeld⟩ := T.kNotHeld
    obtain ⟨cNotInside, mNotInside, qNotInside⟩ := T.kNotInside
    obtain ⟨cNotSealed, mNotSealed, qNotSealed⟩ := T.kNotSealed
    obtain ⟨cUnknownBox, mUnknownBox, qUnknownBox⟩ := T.kUnknownBox
    obtain ⟨cUnknownHand, mUnknownHand, qUnknownHand⟩ := T.kUnknownHand
    obtain ⟨cUnknownItem, mUnknownItem, qUnknownItem⟩ := T.kUnknownItem
    obtain ⟨cUnknownSeal, mUnknownSeal, qUnknownSeal⟩ := T.kUnknownSeal
    refine ⟨_, (pss_cons (ps_set (i := 2) scErr.nd rfl (.inl rfl) (pe_lst (pa_cons (pe_callB (call_isO T.exc hz hf) (by rfl) B.isi (by decide +kernel) (pa_cons (pv 1) (pa_cons (pe_glob (v := .ref cInsideItself) rfl mInsideItself rfl) pa_nil))) (pa_cons (pe_callB (call_isO T.exc hz hf) (by rfl) B.isi (by decide +kernel) (pa_cons (pv 1) (pa_cons (pe_glob (v := .ref cInvalidCourse) rfl mInvalidCourse rfl) pa_nil))) (pa_cons (pe_callB (call_isO T.exc hz hf) (by rfl) B.isi (by decide +kernel) (pa_cons (pv 1) (pa_cons (pe_glob (v := .ref cInvalidHands) rfl mInvalidHands rfl) pa_nil))) pa_nil)))))
        (pss_cons (ps_set (i := 2) scErr.nd rfl (.inl rfl) (pe_op op_cat (pv 2) (pe_lst (pa_cons (pe_callB (call_isO T.exc hz hf) (by rfl) B.isi (by decide +kernel) (pa_cons (pv 1) (pa_cons (pe_glob (v := .ref cInvalidHouse) rfl mInvalidHouse rfl) pa_nil))) (pa_cons (pe_callB (call_isO T.exc hz hf) (by rfl) B.isi (by decide +kernel) (pa_cons (pv 1) (pa_cons (pe_glob (v := .ref cInvalidLog) rfl mInvalidLog rfl) pa_nil))) pa_nil)))))
        (pss_cons (ps_set (i := 2) scErr.nd rfl (.inl rfl) (pe_op op_cat (pv 2) (pe_lst (pa_cons (pe_callB (call_isO T.exc hz hf) (by rfl) B.isi (by decide +kernel) (pa_cons (pv 1) (pa_cons (pe_glob (v := .ref cInvalidNumber) rfl mInvalidNumber rfl) pa_nil))) (pa_cons (pe_callB (call_isO T.exc hz hf) (by rfl) B.isi (by decide +kernel) (pa_cons (pv 1) (pa_cons (pe_glob (v := .ref cIsSealed) rfl mIsSealed rfl) pa_nil))) (pa_cons (pe_callB (call_isO T.exc hz hf) (by rfl) B.isi (by decide +kernel) (pa_cons (pv 1) (pa_cons (pe_glob (v := .ref cNoCourse) rfl mNoCourse rfl) pa_nil))) pa_nil))))))
        (pss_cons (ps_set (i := 2) scErr.nd rfl (.inl rfl) (pe_op op_cat (pv 2) (pe_lst (pa_cons (pe_callB (call_isO T.exc hz hf) (by rfl) B.isi (by decide +kernel) (pa_cons (pv 1) (pa_cons (pe_glob (v := .ref cNotHeld) rfl mNotHeld rfl) pa_nil))) (pa_cons (pe_callB (call_isO T.exc hz hf) (by rfl) B.isi (by decide +kernel) (pa_cons (pv 1) (pa_cons (pe_glob (v := .ref cNotInside) rfl mNotInside rfl) pa_nil))) (pa_cons (pe_callB (call_isO T.exc hz hf) (by rfl) B.isi (by decide +kernel) (pa_cons (pv 1) (pa_cons (pe_glob (v := .ref cNotSealed) rfl mNotSealed rfl) pa_nil))) pa_nil))))))
        (pss_cons (ps_set (i := 2) scErr.nd rfl (.inl rfl) (pe_op op_cat (pv 2) (pe_lst (pa_cons (pe_callB (call_isO T.exc hz hf) (by rfl) B.isi (by decide +kernel) (pa_cons (pv 1) (pa_cons (pe_glob (v := .ref cUnknownBox) rfl mUnknownBox rfl) pa_nil))) (pa_cons (pe_callB (call_isO T.exc hz hf) (by rfl) B.isi (by decide +kernel) (pa_cons (pv 1) (pa_cons (pe_glob (v := .ref cUnknownHand) rfl mUnknownHand rfl) pa_nil))) pa_nil)))))
        (pss_cons (ps_set (i := 2) scErr.nd rfl (.inl rfl) (pe_op op_cat (pv 2) (pe_lst (pa_cons (pe_callB (call_isO T.exc hz hf) (by rfl) B.isi (by decide +kernel) (pa_cons (pv 1) (pa_cons (pe_glob (v := .ref cUnknownItem) rfl mUnknownItem rfl) pa_nil))) (pa_cons (pe_callB (call_isO T.exc hz hf) (by rfl) B.isi (by decide +kernel) (pa_cons (pv 1) (pa_cons (pe_glob (v := .ref cUnknownSeal) rfl mUnknownSeal rfl) pa_nil))) pa_nil)))))
        (pss_cons (ps_set (i := 3) scErr.nd rfl (.inl rfl) (pe_lst (pa_cons pe_str (pa_cons pe_str (pa_cons pe_str (pa_cons pe_str (pa_cons pe_str (pa_cons pe_str pa_nil))))))))
        (pss_cons (ps_set (i := 3) scErr.nd rfl (.inl rfl) (pe_op op_cat (pv 3) (pe_lst (pa_cons pe_str (pa_cons pe_str (pa_cons pe_str (pa_cons pe_str (pa_cons pe_str (pa_cons pe_str (pa_cons pe_str pa_nil))))))))))
        (pss_cons (ps_set (i := 3) scErr.nd rfl (.inl rfl) (pe_op op_cat (pv 3) (pe_lst (pa_cons pe_str (pa_cons pe_str pa_nil)))))
        (pss_cons (ps_if (PW.pt (pw_or (pt_cmpR op_ne (pe_bm PySem.F.plainAttrs_list PySem.F.slot_list_count PySem.F.type_list_count mt_countB (pv 2) (pa_cons pe_bl pa_nil)) pe_int (nomark _))
        (pw_or1 (pt_not (pt_val (pe_callB (call_isO T.exc hz hf) (by rfl) B.isi (by decide +kernel) (pa_cons (pv 1) (pa_cons (pe_bltn (v := .ty "ValueError") (by rfl) T.ve (by decide +kernel) rfl) pa_nil)))))))) (pss_one (ps_ret pe_str)) pss_nil)
        (pss_cons (ps_set (i := 4) scErr.nd rfl (.inl rfl) (pe_ix ix_list (pv 3) (pe_bm PySem.F.plainAttrs_list PySem.F.slot_list_index PySem.F.type_list_index mt_index (pv 2) (pa_cons pe_bl pa_nil)) (fun _ _ => rfl)))
        (pss_cons (ps_if (pt_cmpR op_eq (pv 4) pe_str (nomark _)) (pss_one (ps_ret (pe_tup (pa_cons (pv 4) (pa_cons (pe_xf T.xf T.nP hz hf (pv 1)) (pa_cons (pe_xf T.xf T.nI hz hf (pv 1)) pa_nil)))))) pss_nil)
        (pss_one (ps_ret (pe_ifExp (pt_cmpR op_in_seq (pv 4) (pe_tup (pa_cons pe_str (pa_cons pe_str pa_nil))) (by rfl)) (pe_tup (pa_cons (pv 4) (pa_cons (pe_xf T.xf T.nI hz hf (pv 1)) pa_nil))) (pv 4)))))))))))))))), ?_⟩
    subst hσ
    refine (tisi rfl hh qInsideItself (tisi rfl hh qInvalidCourse (tisi rfl hh qInvalidHands ⟨(by show 3 ≤ sizeLine; decide), fun p1 hp1 => ?_⟩)))
    have e1 := same_upd (o := HO.lst [V.bl false, V.bl false, V.bl false]) hp1
    have h1 : (L2.upd H p1 (.lst [V.bl false, V.bl false, V.bl false])) p1 = some (.lst [V.bl false, V.bl false, V.bl false]) := upd_same
    have hh1 := e1 _ _ hh
    generalize L2.upd H p1 (.lst [V.bl false, V.bl false, V.bl false]) = H1 at *
    refine tcat (xs := [V.bl false, V.bl false, V.bl false]) (vs := [V.bl true, V.bl false]) rfl h1 (fun R r => (tisi rfl hh1 qInvalidHouse (tisi rfl hh1 qInvalidLog r))) (by decide +kernel) (fun p2 H2 f2 h2 => ?_)
    have e2 := e1.trans f2
    have hh2 := e2 _ _ hh
    refine tcat (xs := [V.bl false, V.bl false, V.bl false, V.bl true, V.bl false]) (vs := [V.bl false, V.bl false, V.bl false]) rfl h2 (fun R r => (tisi rfl hh2 qInvalidNumber (tisi rfl hh2 qIsSealed (tisi rfl hh2 qNoCourse r)))) (by decide +kernel) (fun p3 H3 f3 h3 => ?_)
    have e3 := e2.trans f3
    have hh3 := e3 _ _ hh
    refine tcat (xs := [V.bl false, V.bl false, V.bl false, V.bl true, V.bl false, V.bl false, V.bl false, V.bl false]) (vs := [V.bl false, V.bl false, V.bl false]) rfl h3 (fun R r => (tisi rfl hh3 qNotHeld (tisi rfl hh3 qNotInside (tisi rfl hh3 qNotSealed r)))) (by decide +kernel) (fun p4 H4 f4 h4 => ?_)
    have e4 := e3.trans f4
    have hh4 := e4 _ _ hh
    refine tcat (xs := [V.bl false, V.bl false, V.bl false, V.bl true, V.bl false, V.bl false, V.bl false, V.bl false, V.bl false, V.bl false, V.bl false]) (vs := [V.bl false, V.bl false]) rfl h4 (fun R r => (tisi rfl hh4 qUnknownBox (tisi rfl hh4 qUnknownHand r))) (by decide +kernel) (fun p5 H5 f5 h5 => ?_)
    have e5 := e4.trans f5
    have hh5 := e5 _ _ hh
    refine tcat (xs := [V.bl false, V.bl false, V.bl false, V.bl true, V.bl false, V.bl false, V.bl false, V.bl false, V.bl false, V.bl false, V.bl false, V.bl false, V.bl false]) (vs := [V.bl false, V.bl false]) rfl h5 (fun R r => (tisi rfl hh5 qUnknownItem (tisi rfl hh5 qUnknownSeal r))) (by decide +kernel) (fun p6 H6 f6 h6 => ?_)
    have e6 := e5.trans f6
    have hh6 := e6 _ _ hh
    refine ⟨(by show 6 ≤ sizeLine; decide), fun p7 hp7 => ?_⟩
    have f7 := same_upd (o := HO.lst [V.str ("InsideItself" : Str), V.str ("InvalidCourse" : Str), V.str ("InvalidHands" : Str), V.str ("InvalidHouse" : Str), V.str ("InvalidLog" : Str), V.str ("InvalidNumber" : Str)]) hp7
    have h7 : (L2.upd H6 p7 (.lst [V.str ("InsideItself" : Str), V.str ("InvalidCourse" : Str), V.str ("InvalidHands" : Str), V.str ("InvalidHouse" : Str), V.str ("InvalidLog" : Str), V.str ("InvalidNumber" : Str)])) p7 = some (.lst [V.str ("InsideItself" : Str), V.str ("InvalidCourse" : Str), V.str ("InvalidHands" : Str), V.str ("InvalidHouse" : Str), V.str ("InvalidLog" : Str), V.str ("InvalidNumber" : Str)]) := upd_same
    generalize L2.upd H6 p7 (.lst [V.str ("InsideItself" : Str), V.str ("InvalidCourse" : Str), V.str ("InvalidHands" : Str), V.str ("InvalidHouse" : Str), V.str ("InvalidLog" : Str), V.str ("InvalidNumber" : Str)]) = H7 at *
    have e7 := e6.trans f7
    have hK7 := f7 _ _ h6
    refine tcat (xs := [V.str ("InsideItself" : Str), V.str ("InvalidCourse" : Str), V.str ("InvalidHands" : Str), V.str ("InvalidHouse" : Str), V.str ("InvalidLog" : Str), V.str ("InvalidNumber" : Str)]) (vs := [V.str ("IsSealed" : Str), V.str ("NoCourse" : Str), V.str ("NotHeld" : Str), V.str ("NotInside" : Str), V.str ("NotSealed" : Str), V.str ("UnknownBox" : Str), V.str ("UnknownHand" : Str)]) rfl h7 (fun R r => r) (by decide +kernel) (fun p8 H8 f8 h8 => ?_)
    have e8 := e7.trans f8
    have hK8 := f8 _ _ hK7
    refine tcat (xs := [V.str ("InsideItself" : Str), V.str ("InvalidCourse" : Str), V.str ("InvalidHands" : Str), V.str ("InvalidHouse" : Str), V.str ("InvalidLog" : Str), V.str ("InvalidNumber" : Str), V.str ("IsSealed" : Str), V.str ("NoCourse" : Str), V.str ("NotHeld" : Str), V.str ("NotInside" : Str), V.str ("NotSealed" : Str), V.str ("UnknownBox" : Str), V.str ("UnknownHand" : Str)]) (vs := [V.str ("UnknownItem" : Str), V.str ("UnknownSeal" : Str)]) rfl h8 (fun R r => r) (by decide +kernel) (fun p9 H9 f9 h9 => ?_)
    have e9 := e8.trans f9
    have hK9 := f9 _ _ hK8
    have hhE := e9 _ _ hh
    have hKE : H9 p6 = some (.lst [V.bl false, V.bl false, V.bl false, V.bl true, V.bl false, V.bl false, V.bl false, V.bl false, V.bl false, V.bl false, V.bl false, V.bl false, V.bl false, V.bl false, V.bl false]) := hK9
    have hNE : H9 p9 = some (.lst [V.str ("InsideItself" : Str), V.str ("InvalidCourse" : Str), V.str ("InvalidHands" : Str), V.str ("InvalidHouse" : Str), V.str ("InvalidLog" : Str), V.str ("InvalidNumber" : Str), V.str ("IsSealed" : Str), V.str ("NoCourse" : Str), V.str ("NotHeld" : Str), V.str ("NotInside" : Str), V.str ("NotSealed" : Str), V.str ("UnknownBox" : Str), V.str ("UnknownHand" : Str), V.str ("UnknownItem" : Str), V.str ("UnknownSeal" : Str)]) := h9
    refine ⟨_, rfl, .inl ⟨rfl, _, SqL.of hKE⟩, p6, kindsV, true, rfl, rfl, SqL.of hKE, rfl, _, rfl, iteFe (by decide +kernel) ?_⟩
    refine ⟨_, rfl, fun d e => by cases e; exact ⟨_, hhE⟩, .ty "ValueError", .type "ValueError", true, rfl, fun u z => z, T.kve, _, rfl, iteF ?_⟩
    refine ⟨_, rfl, _, rfl, .inl ⟨rfl, _, SqL.of hKE⟩, p6, [V.bl false, V.bl false, V.bl false, V.bl true, V.bl false, V.bl false, V.bl false, V.bl false, V.bl false, V.bl false, V.bl false, V.bl false, V.bl false, V.bl false, V.bl false], .bl true, 3, .bl true, rfl, rfl, SqL.of hKE, rfl, rfl, rfl, rfl, fun m z' hm e => ?_, p9, [V.str ("InsideItself" : Str), V.str ("InvalidCourse" : Str), V.str ("InvalidHands" : Str), V.str ("InvalidHouse" : Str), V.str ("InvalidLog" : Str), V.str ("InvalidNumber" : Str), V.str ("IsSealed" : Str), V.str ("NoCourse" : Str), V.str ("NotHeld" : Str), V.str ("NotInside" : Str), V.str ("NotSealed" : Str), V.str ("UnknownBox" : Str), V.str ("UnknownHand" : Str), V.str ("UnknownItem" : Str), V.str ("UnknownSeal" : Str)], 3, .str ("InvalidHouse" : Str), rfl, rfl, SqL.of hNE, rfl, ?_⟩
    · match m, hm, e with
      | 0, _, e => cases e; rfl
      | 1, _, e => cases e; rfl
      | 2, _, e => cases e; rfl
      | m + 3, h, _ => exact absurd h (by omega)
    refine ⟨_, rfl, rfl, _, rfl, iteTe (decide_eq_true rfl) ?_⟩
    refine ⟨_, rfl, _, rfl, rfl, rfl, dd, _, _, rfl, hhE, fs_part _ _, _, rfl, rfl, rfl, dd, _, _, rfl, hhE, fs_index _ _, (by show 3 ≤ sizeLine; decide), fun p hp => ?_⟩
    exact k _ _ (e9.trans (same_upd hp)) (.tup (SqT.of upd_same) (.cons (.str _) (.cons (.str _) (.cons (.int _) .nil))))
theorem err_gives {X : Cx} {g CE CW : Addr} {cdg : Value} {q : Str} (T : ErrF X.K X.mg CE CW) (B : Bt X.mg) : LamX.GivesTo X ["_law_work", "error", "_law_kinds", "_law_names", "_law_name"] "_law_error" (defScope sErr) g cdg (defBody sErr) "_law_work" q (TErr X.K CE) := by
  intro f c' s H Q tl act hc h
  have hgl : Gl (cxOf C8.CX0 X.prog X.w X.K X.mg X.base ["_law_work", "error", "_law_kinds", "_law_names", "_law_name"] "_law_error" (defScope sErr) g cdg X.A X.stack s H C8.E0).nox "WatchError" := rfl
  refine ⟨_, pss_cons (ps_try_as (X := (cxOf C8.CX0 X.prog X.w X.K X.mg X.base ["_law_work", "error", "_law_kinds", "_law_names", "_law_name"] "_law_error" (defScope sErr) g cdg X.A X.stack s H C8.E0).nox) (c := .ref CW) (i := 1)
      (tb := fun W D σ H => ∃ Ech : XK, (∀ cls d σ' H', Ech cls d H' → W cls d σ' H') ∧ σ[0]? = some (some (.ref f)) ∧ H c' = some (LamX.CodeO c' q) ∧ tl Ech H (fun _ H' => D.nx σ H'))
      (ts := fun a cls d D σ H => cls = .ref CE ∧ ∃ (σ0 : L2.St) (dd : Addr) (z : Str) (i : Nat), d = some dd ∧ σ = σ0.set 1 (some (.ref a)) ∧ H dd = some (.xd (ihFs z i)) ∧ ∀ v H2, Same H H2 → Dp X.K H2 v (dueD (some (z, i))) → D.rt v H2)
      rfl rfl scErr.nd rfl rfl ⟨hgl, by decide, .inl T.wat⟩ LamX.takes0 (fun W pn xe tk _ => ?_) (fun a oe cls d pn hz hf => ?_)) (pss_one (ps_ret pe_str)), ?_⟩
  · refine ⟨fun pins s' σ H' D I h' => ?_⟩
    obtain ⟨Ech, hW, h1, h2, h3⟩ := h'
    exact (pss_one (ps_expr (act W pn xe Ech _ _ tk hW))).run pins s' σ H' D I ⟨h1, h2, h3⟩
  · refine ⟨fun pins s' σ H' D I h' => ?_⟩
    obtain ⟨rfl, σ0, dd, z, i, rfl, hσ, hh, k⟩ := h'
    have hl : σ0.length = 5 := by
      have q := I.len
      rw [hσ, List.length_set] at q
      exact q
    obtain ⟨v0, v1, v2, v3, v4, e5⟩ : ∃ v0 v1 v2 v3 v4, σ0 = [v0, v1, v2, v3, v4] := by
      match σ0, hl with
      | [v0, v1, v2, v3, v4], _ => exact ⟨v0, v1, v2, v3, v4, rfl⟩
    rw [e5] at hσ
    obtain ⟨t, ht, hq⟩ := err_suite (P := X.prog) (w := X.w) (K := X.K) (mg := X.mg) (base := X.base) (g := g) (cdg := cdg) (A := X.A) (outer := X.stack) (s0 := s) (H0 := H) T B hz hf D σ H' v0 v2 v3 v4 z i hσ hh k
    exact ht.run pins s' σ H' D I hq
  · refine ⟨errOut (K := X.K) CE Q, fun cls d σ' H' ⟨e1, dd, z, i, e2, hh, k⟩ => ?_, rfl, hc, h⟩
    exact ⟨true, by rw [e1]; exact T.exm, fun _ a ha => ⟨e1, σ', dd, z, i, e2, rfl, hh, k⟩, fun z => by cases z⟩
end
end Kw


set_option Elab.async false
set_option linter.all false
set_option maxRecDepth 100000
set_option maxHeartbeats 4000000
namespace Kw
open PySem PySem.Spec PyProof.Rows L2
section
variable {P : Program} {w : World} {K : PySem.W.Frag} {mg : Str → Option Value} {base : Heap}
/-! ### _law_error, any of the plain errors -/
/-- the error class at place j of the law's names -/
structure ErrJ (K : PySem.W.Frag) (mg : Str → Option Value) (CE CW : Addr) (j : Nat) : Prop where
  exc : ExcC K CE
  xf : XfC K CE
  nP : PySem.W.findIn K (.ref CE) "part" = some none
  nI : PySem.W.findIn K (.ref CE) "index" = some none
  wat : mg "WatchError" = some (.ref CW)
  exm : PySem.W.exmOne K (.ref CE) (.ref CW) = some true
  ve : mg "ValueError" = none
  kve : PySem.W.kitOne K (.ref CE) (.type "ValueError") = some true
  kInsideItself : KindAt K mg CE "InsideItself" (decide (0 = j))
  kInvalidCourse : KindAt K mg CE "InvalidCourse" (decide (1 = j))
  kInvalidHands : KindAt K mg CE "InvalidHands" (decide (2 = j))
  kInvalidHouse : KindAt K mg CE "InvalidHouse" (decide (3 = j))
  kInvalidLog : KindAt K mg CE "InvalidLog" (decide (4 = j))
  kInvalidNumber : KindAt K mg CE "InvalidNumber" (decide (5 = j))
  kIsSealed : KindAt K mg CE "IsSealed" (decide (6 = j))
  kNoCourse : KindAt K mg CE "NoCourse" (decide (7 = j))
  kNotHeld : KindAt K mg CE "NotHeld" (decide (8 = j))
  kNotInside : KindAt K mg CE "NotInside" (decide (9 = j))
  kNotSealed : KindAt K mg CE "NotSealed" (decide (10 = j))
  kUnknownBox : KindAt K mg CE "UnknownBox" (decide (11 = j))
  kUnknownHand : KindAt K mg CE "UnknownHand" (decide (12 = j))
  kUnknownItem : KindAt K mg CE "UnknownItem" (decide (13 = j))
  kUnknownSeal : KindAt K mg CE "UnknownSeal" (decide (14 = j))
def DdOk (dd : Option Addr) (H : Hp) : Prop := ∀ d, dd = some d → ∃ fs, H d = some (.xd fs)
theorem DdOk.same {dd : Option Addr} {H H' : Hp} (e : Same H H') (h : DdOk dd H) : DdOk dd H' := fun d hd => by
  obtain ⟨fs, hf⟩ := h d hd
  exact ⟨fs, e _ _ hf⟩
theorem tisiG {σ : L2.St} {H : Hp} {Q : VK} {CE a c : Addr} {dd : Option Addr} {b : Bool} (h0 : σ[1]? = some (some (.ref a))) (hd : DdOk dd H) (ki : PySem.W.kitOne K (.ref CE) (.ref c) = some b) (q : Q (.bl b) H) :
    tCB (fun xs H Q => (∀ d, dd = some d → ∃ fs, H d = some (.xd fs)) ∧ rIsE K CE a xs H Q) (tCons (tVar 1) (tCons (tC (.ref c)) tNil)) σ H Q :=
  ⟨_, h0, hd, .ref c, .ref c, b, rfl, fun _ z => z, ki, q⟩
def kindsJ (j : Nat) : List Bool := (List.range 15).map fun i => decide (i = j)
def nameJ (j : Nat) : Str := namesV.getD j ""
theorem cnt_kinds {j : Nat} (hj : j < 15) : (kindsJ j).count true = 1 := by
  have h : ∀ i : Fin 15, (kindsJ i).count true = 1 := by decide +kernel
  exact h ⟨j, hj⟩
theorem flat_kinds (j : Nat) : ((kindsJ j).map V.bl).all flatV = true := by
  rw [List.all_eq_true]
  intro x hx
  obtain ⟨b, _, rfl⟩ := List.mem_map.mp hx
  rfl
theorem at_kinds {j : Nat} (hj : j < 15) : ((kindsJ j).map V.bl)[j]? = some (.bl true) := by
  have h : ∀ i : Fin 15, (kindsJ i)[i.val]? = some true := by decide +kernel
  rw [List.getElem?_map, h ⟨j, hj⟩]
  rfl
theorem no_kinds {j m : Nat} {z : V} (hj : j < 15) (hm : m < j) (e : ((kindsJ j).map V.bl)[m]? = some z) : eqV z (.bl true) = false := by
  have h : ∀ i k : Fin 15, k.val < i.val → (kindsJ i)[k.val]? = some false := by decide +kernel
  rw [List.getElem?_map, h ⟨j, hj⟩ ⟨m, by omega⟩ hm] at e
  cases e
  rfl
theorem at_names {j : Nat} (hj : j < 15) : atI (namesV.map V.str) (j : Nat) = some (.str (nameJ j)) := by
  have h : ∀ i : Fin 15, namesV[i.val]? = some (nameJ i) := by decide +kernel
  refine atI_nat ?_
  rw [List.getElem?_map, h ⟨j, hj⟩]
  rfl
theorem nm_not {j : Nat} (hj : j < 15) (hn : j ≠ 2 ∧ j ≠ 3 ∧ j ≠ 4) : decide (nameJ j = ("InvalidHouse" : Str)) = false := by
  have h : ∀ i : Fin 15, i.val ≠ 3 → decide (nameJ i = ("InvalidHouse" : Str)) = false := by decide +kernel
  exact h ⟨j, hj⟩ hn.2.1
theorem nm_in {j : Nat} (hj : j < 15) (hn : j ≠ 2 ∧ j ≠ 3 ∧ j ≠ 4) : inV (.str (nameJ j)) [V.str ("InvalidHands" : Str), .str ("InvalidLog" : Str)] = false := by
  have h : ∀ i : Fin 15, i.val ≠ 2 → i.val ≠ 4 → inV (.str (nameJ i)) [V.str ("InvalidHands" : Str), .str ("InvalidLog" : Str)] = false := by decide +kernel
  exact h ⟨j, hj⟩ hn.1 hn.2.2
theorem err_suiteG {g : Addr} {cdg : Value} {A : Around} {outer : List Env} {s0 : Shared} {H0 : Hp} {CE CW a : Addr} {j : Nat} {oe : Obj} {dd : Option Addr} {pn : List (Addr × Obj)} (T : ErrJ K mg CE CW j) (hj : j < 15) (hn : j ≠ 2 ∧ j ≠ 3 ∧ j ≠ 4) (B : Bt mg) (hz : Zc (.ref CE) dd oe) (hf : ∃ vs, oe.data = .fields vs)
    (D : Ends) (σ : L2.St) (H : Hp) (v0 v2 v3 v4 : Option V) (hσ : σ = [v0, some (.ref a), v2, v3, v4]) (hh : DdOk dd H) (k : ∀ H2, Same H H2 → D.rt (.str (nameJ j)) H2) :
      ∃ T, PSs (Cx.suite ((cxOf CX0 P w K mg base ["_law_work", "error", "_law_kinds", "_law_names", "_law_name"] "_law_error" (defScope sErr) g cdg A outer s0 H0 E0).nox) a ((a, oe) :: pn)) errSuite T ∧ T D σ H := by
    obtain ⟨cInsideItself, mInsideItself, qInsideItself⟩ := T.kInsideItself
    obtain ⟨cInvalidCourse, mInvalidCourse, qInvalidCourse⟩ := T.kInvalidCourse
    obtain ⟨cInvalidHands, mInvalidHands, qInvalidHands⟩ := T.kInvalidHands
    obtain ⟨cInvalidHouse, mInvalidHouse, qInvalidHouse⟩ := T.kInvalidHouse
    obtain ⟨cInvalidLog, mInvalidLog, qInvalidLog⟩ := T.kInvalidLog
    obtain ⟨cInvalidNumber, mInvalidNumber, qInvalidNumber⟩ := T.kInvalidNumber
    obtain ⟨cIsSealed, mIsSealed, qIsSealed⟩ := T.kIsSealed
    obtain ⟨cNoCourse, mNoCourse, qNoCourse⟩ := T.kNoCourse
    obtain ⟨cNotHeld, mNotHeld, qNotHeld⟩ := T.kNotHeld
    obtain ⟨cNotInside, mNotInside, qNotInside⟩ := T.kNotInside
    obtain ⟨cNotSealed, mNotSealed, qNotSealed⟩ := T.kNotSealed
    obtain ⟨cUnknownBox, mUnknownBox, qUnknownBox⟩ := T.kUnknownBox
    obtain ⟨cUnknownHand, mUnknownHand, qUnknownHand⟩ := T.kUnknownHand
    obtain ⟨cUnknownItem, mUnknownItem, qUnknownItem⟩ := T.kUnknownItem
    obtain ⟨cUnknownSeal, mUnknownSeal, qUnknownSeal⟩ := T.kUnknownSeal
    refine ⟨_, (pss_cons (ps_set (i := 2) scErr.nd rfl (.inl rfl) (pe_lst (pa_cons (pe_callB (call_isO T.exc hz hf) (by rfl) B.isi (by decide +kernel) (pa_cons (pv 1) (pa_cons (pe_glob (v := .ref cInsideItself) rfl mInsideItself rfl) pa_nil))) (pa_cons (pe_callB (call_isO T.exc hz hf) (by rfl) B.isi (by decide +kernel) (pa_cons (pv 1) (pa_cons (pe_glob (v := .ref cInvalidCourse) rfl mInvalidCourse rfl) pa_nil))) (pa_cons (pe_callB (call_isO T.exc hz hf) (by rfl) B.isi (by decide +kernel) (pa_cons (pv 1) (pa_cons (pe_glob (v := .ref cInvalidHands) rfl mInvalidHands rfl) pa_nil))) pa_nil)))))
        (pss_cons (ps_set (i := 2) scErr.nd rfl (.inl rfl) (pe_op op_cat (pv 2) (pe_lst (pa_cons (pe_callB (call_isO T.exc hz hf) (by rfl) B.isi (by decide +kernel) (pa_cons (pv 1) (pa_cons (pe_glob (v := .ref cInvalidHouse) rfl mInvalidHouse rfl) pa_nil))) (pa_cons (pe_callB (call_isO T.exc hz hf) (by rfl) B.isi (by decide +kernel) (pa_cons (pv 1) (pa_cons (pe_glob (v := .ref cInvalidLog) rfl mInvalidLog rfl) pa_nil))) pa_nil)))))
        (pss_cons (ps_set (i := 2) scErr.nd rfl (.inl rfl) (pe_op op_cat (pv 2) (pe_lst (pa_cons (pe_callB (call_isO T.exc hz hf) (by rfl) B.isi (by decide +kernel) (pa_cons (pv 1) (pa_cons (pe_glob (v := .ref cInvalidNumber) rfl mInvalidNumber rfl) pa_nil))) (pa_cons (pe_callB (call_isO T.exc hz hf) (by rfl) B.isi (by decide +kernel) (pa_cons (pv 1) (pa_cons (pe_glob (v := .ref cIsSealed) rfl mIsSealed rfl) pa_nil))) (pa_cons (pe_callB (call_isO T.exc hz hf) (by rfl) B.isi (by decide +kernel) (pa_cons (pv 1) (pa_cons (pe_glob (v := .ref cNoCourse) rfl mNoCourse rfl) pa_nil))) pa_nil))))))
        (pss_cons (ps_set (i := 2) scErr.nd rfl (.inl rfl) (pe_op op_cat (pv 2) (pe_lst (pa_cons (pe_callB (call_isO T.exc hz hf) (by rfl) B.isi (by decide +kernel) (pa_cons (pv 1) (pa_cons (pe_glob (v := .ref cNotHeld) rfl mNotHeld rfl) pa_nil))) (pa_cons (pe_callB (call_isO T.exc hz hf) (by rfl) B.isi (by decide +kernel) (pa_cons (pv 1) (pa_cons (pe_glob (v := .ref cNotInside) rfl mNotInside rfl) pa_nil))) (pa_cons (pe_callB (call_isO T.exc hz hf) (by rfl) B.isi (by decide +kernel) (pa_cons (pv 1) (pa_cons (pe_glob (v := .ref cNotSealed) rfl mNotSealed rfl) pa_nil))) pa_nil))))))
        (pss_cons (ps_set (i := 2) scErr.nd rfl (.inl rfl) (pe_op op_cat (pv 2) (pe_lst (pa_cons (pe_callB (call_isO T.exc hz hf) (by rfl) B.isi (by decide +kernel) (pa_cons (pv 1) (pa_cons (pe_glob (v := .ref cUnknownBox) rfl mUnknownBox rfl) pa_nil))) (pa_cons (pe_callB (call_isO T.exc hz hf) (by rfl) B.isi (by decide +kernel) (pa_cons (pv 1) (pa_cons (pe_glob (v := .ref cUnknownHand) rfl mUnknownHand rfl) pa_nil))) pa_nil)))))
        (pss_cons (ps_set (i := 2) scErr.nd rfl (.inl rfl) (pe_op op_cat (pv 2) (pe_lst (pa_cons (pe_callB (call_isO T.exc hz hf) (by rfl) B.isi (by decide +kernel) (pa_cons (pv 1) (pa_cons (pe_glob (v := .ref cUnknownItem) rfl mUnknownItem rfl) pa_nil))) (pa_cons (pe_callB (call_isO T.exc hz hf) (by rfl) B.isi (by decide +kernel) (pa_cons (pv 1) (pa_cons (pe_glob (v := .ref cUnknownSeal) rfl mUnknownSeal rfl) pa_nil))) pa_nil)))))
        (pss_cons (ps_set (i := 3) scErr.nd rfl (.inl rfl) (pe_lst (pa_cons pe_str (pa_cons pe_str (pa_cons pe_str (pa_cons pe_str (pa_cons pe_str (pa_cons pe_str pa_nil))))))))
        (pss_cons (ps_set (i := 3) scErr.nd rfl (.inl rfl) (pe_op op_cat (pv 3) (pe_lst (pa_cons pe_str (pa_cons pe_str (pa_cons pe_str (pa_cons pe_str (pa_cons pe_str (pa_cons pe_str (pa_cons pe_str pa_nil))))))))))
        (pss_cons (ps_set (i := 3) scErr.nd rfl (.inl rfl) (pe_op op_cat (pv 3) (pe_lst (pa_cons pe_str (pa_cons pe_str pa_nil)))))
        (pss_cons (ps_if (PW.pt (pw_or (pt_cmpR op_ne (pe_bm PySem.F.plainAttrs_list PySem.F.slot_list_count PySem.F.type_list_count mt_countB (pv 2) (pa_cons pe_bl pa_nil)) pe_int (nomark _))
        (pw_or1 (pt_not (pt_val (pe_callB (call_isO T.exc hz hf) (by rfl) B.isi (by decide +kernel) (pa_cons (pv 1) (pa_cons (pe_bltn (v := .ty "ValueError") (by rfl) T.ve (by decide +kernel) rfl) pa_nil)))))))) (pss_one (ps_ret pe_str)) pss_nil)
        (pss_cons (ps_set (i := 4) scErr.nd rfl (.inl rfl) (pe_ix ix_list (pv 3) (pe_bm PySem.F.plainAttrs_list PySem.F.slot_list_index PySem.F.type_list_index mt_index (pv 2) (pa_cons pe_bl pa_nil)) (fun _ _ => rfl)))
        (pss_cons (ps_if (pt_cmpR op_eq (pv 4) pe_str (nomark _)) (pss_one (ps_ret (pe_tup (pa_cons (pv 4) (pa_cons (pe_xf T.xf T.nP hz hf (pv 1)) (pa_cons (pe_xf T.xf T.nI hz hf (pv 1)) pa_nil)))))) pss_nil)
        (pss_one (ps_ret (pe_ifExp (pt_cmpR op_in_seq (pv 4) (pe_tup (pa_cons pe_str (pa_cons pe_str pa_nil))) (by rfl)) (pe_tup (pa_cons (pv 4) (pa_cons (pe_xf T.xf T.nI hz hf (pv 1)) pa_nil))) (pv 4)))))))))))))))), ?_⟩
    subst hσ
    refine (tisiG rfl hh qInsideItself (tisiG rfl hh qInvalidCourse (tisiG rfl hh qInvalidHands ⟨(by show 3 ≤ sizeLine; decide), fun p1 hp1 => ?_⟩)))
    have e1 := same_upd (o := HO.lst [V.bl (decide (0 = j)), V.bl (decide (1 = j)), V.bl (decide (2 = j))]) hp1
    have h1 : (L2.upd H p1 (.lst [V.bl (decide (0 = j)), V.bl (decide (1 = j)), V.bl (decide (2 = j))])) p1 = some (.lst [V.bl (decide (0 = j)), V.bl (decide (1 = j)), V.bl (decide (2 = j))]) := upd_same
    have hh1 := DdOk.same e1 hh
    generalize L2.upd H p1 (.lst [V.bl (decide (0 = j)), V.bl (decide (1 = j)), V.bl (decide (2 = j))]) = H1 at *
    refine tcat (xs := [V.bl (decide (0 = j)), V.bl (decide (1 = j)), V.bl (decide (2 = j))]) (vs := [V.bl (decide (3 = j)), V.bl (decide (4 = j))]) rfl h1 (fun R r => (tisiG rfl hh1 qInvalidHouse (tisiG rfl hh1 qInvalidLog r))) (by show 3 + 2 ≤ sizeLine; decide) (fun p2 H2 f2 h2 => ?_)
    have e2 := e1.trans f2
    have hh2 := DdOk.same e2 hh
    refine tcat (xs := [V.bl (decide (0 = j)), V.bl (decide (1 = j)), V.bl (decide (2 = j)), V.bl (decide (3 = j)), V.bl (decide (4 = j))]) (vs := [V.bl (decide (5 = j)), V.bl (decide (6 = j)), V.bl (decide (7 = j))]) rfl h2 (fun R r => (tisiG rfl hh2 qInvalidNumber (tisiG rfl hh2 qIsSealed (tisiG rfl hh2 qNoCourse r)))) (by show 5 + 3 ≤ sizeLine; decide) (fun p3 H3 f3 h3 => ?_)
    have e3 := e2.trans f3
    have hh3 := DdOk.same e3 hh
    refine tcat (xs := [V.bl (decide (0 = j)), V.bl (decide (1 = j)), V.bl (decide (2 = j)), V.bl (decide (3 = j)), V.bl (decide (4 = j)), V.bl (decide (5 = j)), V.bl (decide (6 = j)), V.bl (decide (7 = j))]) (vs := [V.bl (decide (8 = j)), V.bl (decide (9 = j)), V.bl (decide (10 = j))]) rfl h3 (fun R r => (tisiG rfl hh3 qNotHeld (tisiG rfl hh3 qNotInside (tisiG rfl hh3 qNotSealed r)))) (by show 8 + 3 ≤ sizeLine; decide) (fun p4 H4 f4 h4 => ?_)
    have e4 := e3.trans f4
    have hh4 := DdOk.same e4 hh
    refine tcat (xs := [V.bl (decide (0 = j)), V.bl (decide (1 = j)), V.bl (decide (2 = j)), V.bl (decide (3 = j)), V.bl (decide (4 = j)), V.bl (decide (5 = j)), V.bl (decide (6 = j)), V.bl (decide (7 = j)), V.bl (decide (8 = j)), V.bl (decide (9 = j)), V.bl (decide (10 = j))]) (vs := [V.bl (decide (11 = j)), V.bl (decide (12 = j))]) rfl h4 (fun R r => (tisiG rfl hh4 qUnknownBox (tisiG rfl hh4 qUnknownHand r))) (by show 11 + 2 ≤ sizeLine; decide) (fun p5 H5 f5 h5 => ?_)
    have e5 := e4.trans f5
    have hh5 := DdOk.same e5 hh
    refine tcat (xs := [V.bl (decide (0 = j)), V.bl (decide (1 = j)), V.bl (decide (2 = j)), V.bl (decide (3 = j)), V.bl (decide (4 = j)), V.bl (decide (5 = j)), V.bl (decide (6 = j)), V.bl (decide (7 = j)), V.bl (decide (8 = j)), V.bl (decide (9 = j)), V.bl (decide (10 = j)), V.bl (decide (11 = j)), V.bl (decide (12 = j))]) (vs := [V.bl (decide (13 = j)), V.bl (decide (14 = j))]) rfl h5 (fun R r => (tisiG rfl hh5 qUnknownItem (tisiG rfl hh5 qUnknownSeal r))) (by show 13 + 2 ≤ sizeLine; decide) (fun p6 H6 f6 h6 => ?_)
    have e6 := e5.trans f6
    have hh6 := DdOk.same e6 hh
    refine ⟨(by show 6 ≤ sizeLine; decide), fun p7 hp7 => ?_⟩
    have f7 := same_upd (o := HO.lst [V.str ("InsideItself" : Str), V.str ("InvalidCourse" : Str), V.str ("InvalidHands" : Str), V.str ("InvalidHouse" : Str), V.str ("InvalidLog" : Str), V.str ("InvalidNumber" : Str)]) hp7
    have h7 : (L2.upd H6 p7 (.lst [V.str ("InsideItself" : Str), V.str ("InvalidCourse" : Str), V.str ("InvalidHands" : Str), V.str ("InvalidHouse" : Str), V.str ("InvalidLog" : Str), V.str ("InvalidNumber" : Str)])) p7 = some (.lst [V.str ("InsideItself" : Str), V.str ("InvalidCourse" : Str), V.str ("InvalidHands" : Str), V.str ("InvalidHouse" : Str), V.str ("InvalidLog" : Str), V.str ("InvalidNumber" : Str)]) := upd_same
    generalize L2.upd H6 p7 (.lst [V.str ("InsideItself" : Str), V.str ("InvalidCourse" : Str), V.str ("InvalidHands" : Str), V.str ("InvalidHouse" : Str), V.str ("InvalidLog" : Str), V.str ("InvalidNumber" : Str)]) = H7 at *
    have e7 := e6.trans f7
    have hK7 := f7 _ _ h6
    refine tcat (xs := [V.str ("InsideItself" : Str), V.str ("InvalidCourse" : Str), V.str ("InvalidHands" : Str), V.str ("InvalidHouse" : Str), V.str ("InvalidLog" : Str), V.str ("InvalidNumber" : Str)]) (vs := [V.str ("IsSealed" : Str), V.str ("NoCourse" : Str), V.str ("NotHeld" : Str), V.str ("NotInside" : Str), V.str ("NotSealed" : Str), V.str ("UnknownBox" : Str), V.str ("UnknownHand" : Str)]) rfl h7 (fun R r => r) (by decide +kernel) (fun p8 H8 f8 h8 => ?_)
    have e8 := e7.trans f8
    have hK8 := f8 _ _ hK7
    refine tcat (xs := [V.str ("InsideItself" : Str), V.str ("InvalidCourse" : Str), V.str ("InvalidHands" : Str), V.str ("InvalidHouse" : Str), V.str ("InvalidLog" : Str), V.str ("InvalidNumber" : Str), V.str ("IsSealed" : Str), V.str ("NoCourse" : Str), V.str ("NotHeld" : Str), V.str ("NotInside" : Str), V.str ("NotSealed" : Str), V.str ("UnknownBox" : Str), V.str ("UnknownHand" : Str)]) (vs := [V.str ("UnknownItem" : Str), V.str ("UnknownSeal" : Str)]) rfl h8 (fun R r => r) (by decide +kernel) (fun p9 H9 f9 h9 => ?_)
    have e9 := e8.trans f9
    have hK9 := f9 _ _ hK8
    have hhE := DdOk.same e9 hh
    have hKE : H9 p6 = some (.lst ((kindsJ j).map V.bl)) := hK9
    have hNE : H9 p9 = some (.lst (namesV.map V.str)) := h9
    refine ⟨_, rfl, .inl ⟨rfl, _, SqL.of hKE⟩, p6, kindsJ j, true, rfl, rfl, SqL.of hKE, rfl, _, rfl, iteFe (by rw [cnt_kinds hj]; rfl) ?_⟩
    refine ⟨_, rfl, hhE, .ty "ValueError", .type "ValueError", true, rfl, fun u z => z, T.kve, _, rfl, iteF ?_⟩
    refine ⟨_, rfl, _, rfl, .inl ⟨rfl, _, SqL.of hKE⟩, p6, (kindsJ j).map V.bl, .bl true, j, .bl true, rfl, rfl, SqL.of hKE, rfl, flat_kinds j, at_kinds hj, rfl, fun m z' hm e => no_kinds hj hm e, p9, namesV.map V.str, (j : Nat), .str (nameJ j), rfl, rfl, SqL.of hNE, at_names hj, ?_⟩
    refine ⟨_, rfl, rfl, _, rfl, iteFe (by rw [decS]; exact nm_not hj hn) ?_⟩
    refine ⟨_, rfl, (by show 2 ≤ sizeLine; decide), fun pz hpz => ⟨pz, [.str ("InvalidHands" : Str), .str ("InvalidLog" : Str)], rfl, .inr (SqT.of upd_same), rfl, rfl, _, rfl, iteFe (nm_in hj hn) ⟨_, rfl, ?_⟩⟩⟩
    exact k _ (e9.trans (same_upd hpz))
end
end Kw


set_option Elab.async false
set_option linter.all false
set_option maxRecDepth 100000
set_option maxHeartbeats 4000000
namespace Kw
open PySem PySem.Spec PyProof.Rows L2
section
variable {X : Cx}
/-! ### match of a tuple against [word, names..] -/
/-- the names behind the word, with their slots; none: the pattern _ -/
inductive Caps (X : Cx) : List Pattern → List (Option Nat) → Prop
  | nil : Caps X [] []
  | wild {pos : Pos} {ps : List Pattern} {is : List (Option Nat)} : Caps X ps is → Caps X (.MatchAs none none pos :: ps) (none :: is)
  | name {x : Str} {i : Nat} {pos : Pos} {ps : List Pattern} {is : List (Option Nat)} : X.N[i]? = some x → X.env.scope.names.lookup x = some .local → Caps X ps is → Caps X (.MatchAs none (some x) pos :: ps) (some i :: is)
def setAll : List (Option Nat) → List V → L2.St → L2.St
  | some i :: is, v :: vs, σ => setAll is vs (σ.set i (some v))
  | none :: is, _ :: vs, σ => setAll is vs σ
  | _, _, σ => σ
structure MCase where
  word : Str
  slots : List (Option Nat)
  body : TS
def mGo (w0 : Str) (rest : List V) (D : Ends) (σ : L2.St) (H : Hp) : List MCase → Prop
  | [] => D.nx σ H
  | c :: cs => if c.slots.length = rest.length ∧ c.word = w0 then c.body D (setAll c.slots rest σ) H else mGo w0 rest D σ H cs
/-- match t: case [word, ..]: .. -/
def tMatch (K : PySem.W.Frag) (te : TE) (cs : List MCase) : TS := fun D σ H => te σ H fun x H1 => ∃ (a : Addr) (w0 : Str) (rest : List V), x = .ref a ∧ SqT K H1 a (.str w0 :: rest) ∧ mGo w0 rest D σ H1 cs
/-- the cases as the text has them -/
inductive Cases (X : Cx) : List MatchCase → List MCase → Prop
  | nil : Cases X [] []
  | cons {s : Str} {j : Nat} {p1 p2 pos : Pos} {ps : List Pattern} {is : List (Option Nat)} {body : List Stmt} {tb : TS} {cs : List MatchCase} {rs : List MCase} (h : Caps X ps is) (hb : PSs X body tb) (hr : Cases X cs rs) :
      Cases X (⟨.MatchSequence (.MatchValue (.Constant (.str s) j p1) p2 :: ps) pos, none, body⟩ :: cs) (⟨s, is, tb⟩ :: rs)
theorem Caps.len {ps : List Pattern} {is : List (Option Nat)} (h : Caps X ps is) : ps.length = is.length := by
  induction h with
  | nil => rfl
  | wild _ ih => simp [ih]
  | name _ _ _ ih => simp [ih]
theorem Caps.nostar {ps : List Pattern} {is : List (Option Nat)} (h : Caps X ps is) : ∀ p ∈ ps, p.isStar = false := by
  induction h with
  | nil => intro p hp; cases hp
  | wild _ ih =>
    intro p hp
    rcases List.mem_cons.mp hp with rfl | hp
    · rfl
    · exact ih p hp
  | name _ _ _ ih =>
    intro p hp
    rcases List.mem_cons.mp hp with rfl | hp
    · rfl
    · exact ih p hp
/-- the captured names and their values -/
def bindsOf : List Pattern → List Value → List (Str × Value)
  | .MatchAs _ (some x) _ :: ps, u :: us => (x, u) :: bindsOf ps us
  | _ :: ps, _ :: us => bindsOf ps us
  | _, _ => []
theorem run_caps {ps : List Pattern} {is : List (Option Nat)} (h : Caps X ps is) : ∀ {us : List Value} {s : Shared} {E : Value → Shared → Prop} {Q : Option (List (Str × Value)) → Shared → Prop}, us.length = ps.length → Q (some (bindsOf ps us)) s →
    wpAny (model X.prog X.w) X.A (matchEach ps X.env us) Q E s := by
  induction h with
  | nil =>
    intro us s E Q hl hq
    cases us with
    | nil => exact wpAny_matchEach_nil hq
    | cons u us => simp at hl
  | wild _ ih =>
    intro us s E Q hl hq
    cases us with
    | nil => simp at hl
    | cons u us =>
      refine wpAny_matchEach_cons (wpAny_matchPattern_Capture ?_)
      exact ih (by simpa using hl) hq
  | name _ _ _ ih =>
    intro us s E Q hl hq
    cases us with
    | nil => simp at hl
    | cons u us =>
      refine wpAny_matchEach_cons (wpAny_matchPattern_Capture ?_)
      exact ih (by simpa using hl) hq
theorem run_binds {ps : List Pattern} {is : List (Option Nat)} (h : Caps X ps is) (hN : X.N.Nodup) : ∀ {us : List Value} {vs : List V} {pins : List (Addr × Obj)} {σ : L2.St} {H : Hp} {s : Shared} {E : Value → Shared → Prop} {Q : Unit → Shared → Prop}, us.length = ps.length → Vals vs us →
    Inv X pins σ H s → (∀ s', Inv X pins (setAll is vs σ) H s' → Q () s') → wpAny (model X.prog X.w) X.A (assignInOrder ((bindsOf ps us).map fun (n, _) => bindName X.env n) ((bindsOf ps us).map (·.2))) Q E s := by
  induction h with
  | nil =>
    intro us vs pins σ H s E Q hl r I k
    cases us with
    | nil => exact wpAny_assignInOrder_none (k s I)
    | cons u us => simp at hl
  | wild _ ih =>
    intro us vs pins σ H s E Q hl r I k
    cases us with
    | nil => simp at hl
    | cons u us =>
      cases r with
      | cons r1 rr => exact ih (by simpa using hl) rr I k
  | name hi hx _ ih =>
    intro us vs pins σ H s E Q hl r I k
    cases us with
    | nil => simp at hl
    | cons u us =>
      cases r with
      | cons r1 rr =>
        refine wpAny_assignInOrder_more (wpAny_bindName (store_ok I hN hi (.inl hx) r1 (fun s' I' => ?_) (.inr hx)))
        exact ih (by simpa using hl) rr I' k
theorem run_cases (hc : X.calm = true) (hN : X.N.Nodup) {a : Addr} {w0 : Str} {rest : List V} {mcs : List MatchCase} {rs : List MCase} (h : Cases X mcs rs) : ∀ {pins : List (Addr × Obj)} {σ : L2.St} {H : Hp} {s : Shared} {D : Ends} {first : Bool}, Inv X pins σ H s → SqT X.K H a (.str w0 :: rest) → mGo w0 rest D σ H rs →
    wpAny (model X.prog X.w) X.A (matchCases mcs X.env (.ref a) first) (fun f s' => SP X pins D f s') X.xe s := by
  induction h with
  | nil =>
    intro pins σ H s D first I hs hq
    exact wpAny_matchCases_nil ⟨σ, H, I, hq⟩
  | @cons w j p1 p2 pos ps is body tb cs rs h hb hr ih =>
    intro pins σ H s D first I hs hq
    obtain ⟨its, rv, ht, hz⟩ := I.tuple hs
    have hlen : its.length = rest.length + 1 := by rw [← rv.length]; rfl
    have pl : (Pattern.MatchValue (.Constant (.str w) j p1) p2 :: ps).length = is.length + 1 := by rw [List.length_cons, h.len]
    have star : (Pattern.MatchValue (.Constant (.str w) j p1) p2 :: ps).findIdx? (·.isStar) = none := List.findIdx?_eq_none_iff.mpr fun p hp => by
      rcases List.mem_cons.mp hp with rfl | hp
      · rfl
      · exact h.nostar p hp
    have wild : ((Pattern.MatchValue (.Constant (.str w) j p1) p2 :: ps).all fun p => p.isWildcard || (p.isStar && p.names.isEmpty)) = false := rfl
    have hz' : rest.length + 1 ≤ sizeLine := hz
    have fit : ((its.toArray.size : Nat) : Int) < 2 ^ 63 := by
      rw [List.size_toArray]
      rw [sizeLine_eq] at hz'
      omega
    refine wpAny_matchCases_cons ?_
    by_cases cl : is.length = rest.length
    · refine matchSeq_tuple_hit ht fit (by rw [pl, List.size_toArray, hlen, cl]) ?_ star wild
      rw [show (Pattern.MatchValue (.Constant (.str w) j p1) p2 :: ps).length = its.toArray.size by rw [pl, List.size_toArray, hlen, cl]]
      refine unpackItems_tuple (I.ok.hd hc) ht fun h' hx => ?_
      have I1 : Inv X pins σ H { s with heap := h', toks := s.toks + 1 + 1 } := I.kept (t' := s.toks + 1 + 1) fun b o e => hx b o (Nat.ne_of_lt (Heap.lt_size e)) e
      have el : its.toArray.toList = its := by simp
      rw [el]
      cases rv with
      | @cons _ u0 _ us r0 rr =>
        have lu : us.length = ps.length := by
          have : us.length + 1 = rest.length + 1 := hlen
          rw [h.len]
          omega
        refine wpAny_matchEach_cons (wpAny_matchPattern_Value ?_)
        refine thn ((pe_str (X := X) (x := w) (j := j) (pos := p1)).run pins _ σ H (fun v H1 => v = .str w ∧ H1 = H) I1 ⟨rfl, rfl⟩) fun u s1 hu => ?_
        obtain ⟨v, H1, I2, r2, ev, eH⟩ := hu
        subst ev eH
        refine thn (op_eq pins s1 σ H1 (V.str w0) (V.str w) u0 u (fun z H2 => z = .bl (decide ((V.str w0) = V.str w)) ∧ H2 = H1) I2 r0 r2 ⟨rfl, rfl, rfl⟩) fun z s2 hz2 => ?_
        obtain ⟨zv, H2, I3, rz, ez, eH2⟩ := hz2
        subst ez eH2
        obtain rfl : z = Value.bool (decide ((V.str w0) = V.str w)) := rz
        refine wpAny_truthy_bool ?_
        by_cases cw : w = w0
        · subst cw
          rw [decide_eq_true rfl]
          show wpAny _ _ _ _ _ _
          refine run_caps h lu ?_
          show wpAny _ _ _ _ _ _
          refine run_binds h hN lu rr I3 fun s3 I4 => ?_
          have hq' : tb D (setAll is rest σ) H2 := by
            have q := hq
            unfold mGo at q
            rwa [if_pos ⟨cl, rfl⟩] at q
          exact hb.run pins s3 _ H2 D I4 hq'
        · have ne : decide ((V.str w0) = V.str w) = false := decide_eq_false fun z => cw (V.str.inj z).symm
          rw [ne]
          show wpAny _ _ _ _ _ _
          have hq' : mGo w0 rest D σ H2 rs := by
            have q := hq
            unfold mGo at q
            rwa [if_neg (fun z => cw z.2)] at q
          exact ih I3 hs hq'
    · refine matchSeq_tuple_miss ht fit (by rw [pl, List.size_toArray, hlen]; omega) ?_ star wild
      have hq' : mGo w0 rest D σ H rs := by
        have q := hq
        unfold mGo at q
        rwa [if_neg (fun z => cl z.1)] at q
      exact ih (I.kept (t' := _) fun _ _ e => e) hs hq'
theorem ps_match {e : Expr} {te : TE} {mcs : List MatchCase} {rs : List MCase} {pos : Pos} (hc : X.calm = true) (hN : X.N.Nodup) (he : PE X e te) (h : Cases X mcs rs) : PS X (.Match e mcs pos) (tMatch X.K te rs) := by
  refine ⟨fun pins s σ H D I q => wpAny_Match (thn (he.run pins s σ H _ I q) fun v s1 hv => ?_)⟩
  obtain ⟨x, H1, I1, r1, a, w0, rest, ex, hs, hg⟩ := hv
  subst ex
  cases r1
  exact run_cases hc hN h I1 hs hg
end
end Kw


set_option Elab.async false
set_option linter.all false
set_option maxRecDepth 100000
set_option maxHeartbeats 4000000
namespace Kw
open PySem PySem.Spec PyProof.Rows L2
section
variable {X : Cx}
/-- {item}, an item: a word and a number; some text that is not long -/
def tFmtI (K : PySem.W.Frag) (te : TE) : TE := fun σ H Q => te σ H fun x H1 => ∃ (a : Addr) (w : Str) (i : Int), x = .ref a ∧ SqT K H1 a [.str w, .int i] ∧ w.length ≤ 20 ∧ (∀ c ∈ w.cps.toList, c < 16 ^ 8) ∧ 0 ≤ i ∧ i ≤ 1000 ∧ ∀ m : Str, m.length ≤ 300 → Q (.str m) H1
theorem log2_le {i : Int} (h0 : 0 ≤ i) (h1 : i ≤ 1000) : i.natAbs.log2 < 1920 := by
  have h2 : i.natAbs ≤ 1000 := by omega
  by_cases h3 : i.natAbs = 0
  · rw [h3]; decide
  · have := (Nat.log2_lt h3 (k := 10)).mpr (by omega)
    omega
theorem pe_fmtI {e : Expr} {te : TE} {pos : Pos} {k : Nat} (hr : Room k X.A) (he : PE X e te) : PE X (.FormattedValue e (-1) none pos) (tFmtI X.K te) := by
  refine ⟨fun pins s σ H Q I h => ?_⟩
  refine wpAny_FormattedValue_plain (thn (he.run pins s σ H _ I h) fun v s1 hv => ?_)
  obtain ⟨x, H1, I1, r1, a, w, i, rfl, ht, hw, hc, i0, i1, q⟩ := hv
  cases r1
  obtain ⟨its, rv, ⟨o, ho, hcl, n, hd⟩, _⟩ := I1.tuple ht
  have h1 := StrLaws.reprText_len w hc
  have h2 : (toString i : Str).length ≤ 4 := toString_length_le i0 (k := 4) (by decide) (by omega)
  have hp : piled [reprText w, (toString i : Str)] ≤ 230 := by
    rw [piled_cons, piled_cons, piled_nil]
    omega
  have htx := fmt_text [reprText w, (toString i : Str)]
  have hz : sizeLine ≥ 100000 := by rw [sizeLine_eq]; omega
  have hT : ReprAll X.prog X.w its.toArray.toList [reprText w, (toString i : Str)] := by
    rw [show its.toArray.toList = its by simp]
    cases rv with
    | cons ra rr =>
      cases rr with
      | cons rb rr =>
        cases rr
        obtain ⟨t1, rfl⟩ := ra
        obtain ⟨t2, rfl⟩ := rb
        exact .cons (ReprIs.str w t1 (by omega)) (.cons (ReprIs.int t2 (log2_le i0 i1)) .nil)
  have hu := hr.units
  exact fmt_tuple (by omega) ho hcl hd hT (by omega) fun m u tk hm => ⟨.str m, H1, I1.tok _, ⟨u, rfl⟩, q m (by omega)⟩
end
end Kw


set_option Elab.async false
set_option linter.all false
set_option maxRecDepth 100000
set_option maxHeartbeats 4000000
namespace Kw
open PySem PySem.Spec PyProof.Rows L2
/-! ### sorted over tuples of words, numbers and tuples of these -/
/-- x < y is told: numbers, words, tuples place by place -/
def cmpE : PyData → PyData → Bool
  | .int _, .int _ => true
  | .str _, .str _ => true
  | .tuple [.str _, .int _], .tuple [.str _, .int _] => true
  | _, _ => false
/-- .. of two tuples, at the first place where they differ -/
def topCmp : List PyData → List PyData → Bool
  | x :: xs, y :: ys => if PyData.eqv x y = true then topCmp xs ys else cmpE x y
  | _, _ => true
section
variable {prog : Program} {w : World}
theorem rc_str {A : Around} {s : Shared} (a b : Str) (t u : Tok) : Ob.RcOp .Lt A s (.str a t) (.str b u) (decide (a.cps.toList < b.cps.toList)) := fun _ _ _ _ h => PyProof.Rows.lt_str h
theorem reads_len {h : Heap} : ∀ {vs : List Value} {ds : List PyData} {as : List Addr}, ReadsAll h vs ds as → vs.length = ds.length
  | _, _, _, .nil => rfl
  | _, _, _, .cons _ r => by simp [reads_len r]
/-- x < y -/
theorem lt_reads {A : Around} {s : Shared} {v u : Value} {d e : PyData} {as bs : List Addr} (r1 : Reads s.heap v d as) (r2 : Reads s.heap u e bs) (hu : A.units + 3 < cLine) (h : cmpE d e = true) : ∃ b, Ob.RcOp .Lt A s v u b := by
  unfold cmpE at h
  split at h
  · cases r1
    cases r2
    exact ⟨_, Ob.RcOp.lt_int _ _ _ _⟩
  · cases r1
    cases r2
    exact ⟨_, rc_str _ _ _ _⟩
  · rename_i w1 i1 w2 i2
    cases r1 with
    | @tuple a o vs n _ as1 g1 g2 g3 g4 =>
      cases r2 with
      | @tuple a' o' vs' n' _ as2 k1 k2 k3 k4 =>
        have hv : ∃ t1 t2, vs.toList = [.str w1 t1, .int i1 t2] := by
          generalize vs.toList = l at g4
          cases g4 with
          | cons p1 q1 =>
            cases q1 with
            | cons p2 q2 =>
              cases q2
              cases p1
              cases p2
              exact ⟨_, _, rfl⟩
        have hv' : ∃ t1 t2, vs'.toList = [.str w2 t1, .int i2 t2] := by
          generalize vs'.toList = l at k4
          cases k4 with
          | cons p1 q1 =>
            cases q1 with
            | cons p2 q2 =>
              cases q2
              cases p1
              cases p2
              exact ⟨_, _, rfl⟩
        obtain ⟨t1, t2, e1⟩ := hv
        obtain ⟨t3, t4, e2⟩ := hv'
        obtain rfl : vs = #[.str w1 t1, .int i1 t2] := by rw [← Array.toArray_toList (xs := vs), e1]
        obtain rfl : vs' = #[.str w2 t3, .int i2 t4] := by rw [← Array.toArray_toList (xs := vs'), e2]
        refine ⟨_, Ob.RcOp.tuples_lt (e := fun j => if j = 0 then w1 == w2 else i1 == i2) (r := fun j => if j = 0 then decide (w1.cps.toList < w2.cps.toList) else decide (i1 < i2)) ⟨_, g1, g2, _, g3⟩ ⟨_, k1, k2, _, k3⟩ (by omega) (fun j h1 h2 => ?_) (fun j h1 h2 _ => ?_)⟩
        · match j, h1, h2 with
          | 0, _, _ => exact SeqAt.EqAt.str_str _ _ _ _
          | 1, _, _ => exact SeqAt.EqAt.int_int _ _ _ _
          | j + 2, h1, _ => simp at h1; omega
        · match j, h1, h2 with
          | 0, _, _ => exact rc_str _ _ _ _
          | 1, _, _ => exact Ob.RcOp.lt_int _ _ _ _
          | j + 2, h1, _ => simp at h1; omega
  · cases h
/-- what is sorted: the first place is a word, all may be laid, shallow -/
structure SortD (d : PyData) : Prop where
  ex : ∃ w rest, d = .tuple (.str w :: rest)
  lay : d.canLay0 = true
  dep : d.depth ≤ 10
theorem lex_reads {A : Around} {s : Shared} {b : Bool} (fin : Bool) (hu : A.units + 20 < cLine) : ∀ (xs ys : List PyData) (vs us : List Value) (as bs : List Addr) (i : Nat), ReadsAll s.heap vs xs as → ReadsAll s.heap us ys bs → PyData.canLayAll0 xs = true → PyData.canLayAll0 ys = true → PyData.depthAll xs ≤ 10 →
    topCmp xs ys = true → (i = 0 → ∀ x y xr yr, xs = x :: xr → ys = y :: yr → (∃ w, x = .str w) ∧ ∃ w, y = .str w) → ∃ r, PySem.W.KatLex prog w A b fin (fun r' s' => s' = s ∧ r' = r) (vs.zip us) i s
  | [], ys, vs, us, as, bs, i, h1, h2, _, _, _, _, _ => by
    cases h1
    exact ⟨fin, PySem.W.kat_nil ⟨rfl, rfl⟩⟩
  | x :: xs, [], vs, us, as, bs, i, h1, h2, _, _, _, _, _ => by
    cases h2
    rw [List.zip_nil_right]
    exact ⟨fin, PySem.W.kat_nil ⟨rfl, rfl⟩⟩
  | x :: xs, y :: ys, vs, us, as, bs, i, h1, h2, c1, c2, d1, ht, h0 => by
    cases h1 with
    | @cons v vr _ _ as1 as2 p1 q1 =>
      cases h2 with
      | @cons u ur _ _ bs1 bs2 p2 q2 =>
        simp only [PyData.canLayAll0, Bool.and_eq_true] at c1 c2
        simp only [PyData.depthAll] at d1
        have eq := SeqAt.eqAt_reads x y A s v u as1 bs1 p1 p2 c1.1 c2.1 (by have : min x.depth y.depth ≤ x.depth := Nat.min_le_left _ _; omega)
        unfold topCmp at ht
        cases ce : PyData.eqv x y with
        | true =>
          rw [ce, if_pos rfl] at ht
          obtain ⟨r, hr⟩ := lex_reads (b := b) fin hu xs ys vr ur as2 bs2 (i + 1) q1 q2 c1.2 c2.2 (by omega) ht (fun z => by omega)
          rw [ce] at eq
          exact ⟨r, PySem.W.kat_cons (eq prog w _ _ (PySem.W.kat_yes hr))⟩
        | false =>
          rw [ce, if_neg (by decide)] at ht
          rw [ce] at eq
          cases cb : (b && i == 0) with
          | true =>
            have hi : i = 0 := by
              have := (Bool.and_eq_true_iff.mp cb).2
              simpa using this
            obtain ⟨⟨w1, e1⟩, ⟨w2, e2⟩⟩ := h0 hi x y xs ys rfl rfl
            subst e1 e2
            cases p1
            cases p2
            refine ⟨decide (w1.cps.toList < w2.cps.toList), PySem.W.kat_cons (eq prog w _ _ (PySem.W.kat_no ?_))⟩
            rw [cb]
            exact oneLt_str ⟨rfl, rfl⟩
          | false =>
            obtain ⟨k, hk⟩ := lt_reads (A := A) p1 p2 (by omega) ht
            refine ⟨k, PySem.W.kat_cons (eq prog w _ _ (PySem.W.kat_no ?_))⟩
            rw [cb]
            exact PySem.W.kat_one _ _ (hk prog w _ _ ⟨rfl, rfl⟩)
mutual
theorem reads_keep {h h' : Heap} (k : ∀ b o, h.get? b = some o → o.cls = .type "tuple" → h'.get? b = some o) : ∀ (d : PyData) {v : Value} {as : List Addr}, noL d = true → Reads h v d as → Reads h' v d as
  | .none, _, _, _, r => by cases r; exact .none
  | .bool b, _, _, _, r => by cases r; exact .bool b
  | .int i, _, _, _, r => by cases r; exact .int i _
  | .str x, _, _, _, r => by cases r; exact .str x _
  | .list _, _, _, n, _ => by simp [noL] at n
  | .dict _, _, _, n, _ => by simp [noL] at n
  | .tuple ds, _, _, n, r => by
    cases r with
    | tuple g1 g2 g3 g4 => exact .tuple (k _ _ g1 g2) g2 g3 (reads_keeps k ds (by simpa [noL] using n) g4)
theorem reads_keeps {h h' : Heap} (k : ∀ b o, h.get? b = some o → o.cls = .type "tuple" → h'.get? b = some o) : ∀ (ds : List PyData) {vs : List Value} {as : List Addr}, noLs ds = true → ReadsAll h vs ds as → ReadsAll h' vs ds as
  | [], _, _, _, r => by cases r; exact .nil
  | d :: ds, _, _, n, r => by
    cases r with
    | cons r1 rr =>
      have n' : noL d = true ∧ noLs ds = true := by simpa [noLs] using n
      exact .cons (reads_keep k d n'.1 r1) (reads_keeps k ds n'.2 rr)
end
/-- what is sorted -/
structure Sd (d : PyData) : Prop where
  ex : ∃ w rest, d = .tuple (.str w :: rest)
  lay : d.canLay0 = true
  dep : d.depth ≤ 10
  nol : noL d = true
def itemsD' : PyData → List PyData
  | .tuple ds => ds
  | _ => []
/-- every two of them compare -/
def Cmps (ds : List PyData) : Prop := ∀ d ∈ ds, ∀ e ∈ ds, topCmp (itemsD' d) (itemsD' e) = true
theorem tot_reads {A : Around} {s : Shared} {b : Bool} {vs : List Value} (hu : A.units + 20 < cLine) (P : PyData → Prop) (hP : ∀ d, P d → Sd d) (hc : ∀ d e, P d → P e → topCmp (itemsD' d) (itemsD' e) = true)
    (hv : ∀ v ∈ vs, ∃ d as, P d ∧ Reads s.heap v d as) : Srt.Tot prog w A s (tuples' b) (fun p => p.1 ∈ vs) := by
  intro p q hm hm'
  obtain ⟨d, as, pd, r1⟩ := hv _ hm
  obtain ⟨e, bs, pe, r2⟩ := hv _ hm'
  have s1 := hP d pd
  have s2 := hP e pe
  have c := hc d e pd pe
  obtain ⟨w1, t1, e1⟩ := s1.ex
  obtain ⟨w2, t2, e2⟩ := s2.ex
  have l1 := s1.lay
  have l2 := s2.lay
  have dp := s1.dep
  subst e1 e2
  generalize p.1 = v at *
  generalize q.1 = u at *
  cases r1 with
  | tuple g1 g2 g3 g4 =>
    cases r2 with
    | tuple k1 k2 k3 k4 =>
      simp only [PyData.canLay0] at l1 l2
      simp only [PyData.depth] at dp
      obtain ⟨r, hr⟩ := lex_reads (prog := prog) (w := w) (b := b) _ hu _ _ _ _ _ _ 0 g4 k4 l1 l2 (by omega) c (fun _ x y xr yr ex ey => by
        cases ex
        cases ey
        exact ⟨⟨_, rfl⟩, ⟨_, rfl⟩⟩)
      exact ⟨r, PySem.W.kat_lt g1 g3 k1 k3 hr⟩
theorem firsts_reads {h : Heap} {P : PyData → Prop} (hP : ∀ d, P d → Sd d) : ∀ {vs : List Value}, (∀ v ∈ vs, ∃ d as, P d ∧ Reads h v d as) → ∃ fs : List Value, PySem.W.KatTups h vs fs ∧ fs.length = vs.length ∧ ∀ f ∈ fs, ∃ x t, f = Value.str x t
  | [], _ => ⟨[], PySem.W.KatTups.nil, rfl, fun _ hm => by simp at hm⟩
  | v :: vs, hp => by
    obtain ⟨fs, h1, h2, h3⟩ := firsts_reads hP (vs := vs) fun v' hm => hp v' (List.mem_cons_of_mem _ hm)
    obtain ⟨d, as, pd, r⟩ := hp v List.mem_cons_self
    obtain ⟨w1, t1, e1⟩ := (hP d pd).ex
    subst e1
    cases r with
    | @tuple a o xs n _ _ g1 g2 g3 g4 =>
      obtain ⟨t, rest, e⟩ : ∃ t rest, xs.toList = Value.str w1 t :: rest := by
        generalize xs.toList = l at g4
        cases g4 with
        | cons p1 q1 =>
          cases p1
          exact ⟨_, _, rfl⟩
      have hf : xs[0]? = some (Value.str w1 t) := by rw [← Array.getElem?_toList, e]; rfl
      refine ⟨.str w1 t :: fs, PySem.W.KatTups.cons g1 g2 g3 hf h1, by rw [List.length_cons, List.length_cons, h2], fun f hm => ?_⟩
      rcases List.mem_cons.mp hm with rfl | hm
      · exact ⟨w1, t, rfl⟩
      · exact h3 f hm
theorem sortable_reads {A : Around} {s : Shared} {a : Addr} {vs : List Value} (hu : A.units + 20 < cLine) (h0 : 0 < vs.length) (P : PyData → Prop) (hP : ∀ d, P d → Sd d) (hc : ∀ d e, P d → P e → topCmp (itemsD' d) (itemsD' e) = true)
    (hv : ∀ v ∈ vs, ∃ d as, P d ∧ Reads s.heap v d as) (ha : ∀ o, s.heap.get? a = some o → o.cls ≠ .type "tuple") : Srt.Sortable prog w A s a vs := by
  intro h' keep
  have hv' : ∀ v ∈ vs, ∃ d as, P d ∧ Reads h' v d as := fun v hm => by
    obtain ⟨d, as, pd, r⟩ := hv v hm
    exact ⟨d, as, pd, reads_keep (fun b o e c => keep b o (fun z => by subst z; exact ha o e c) e) d (hP d pd).nol r⟩
  obtain ⟨fs, h1, h2, h3⟩ := firsts_reads hP hv'
  refine ⟨tuples' true, fun Q E hq => ?_, tot_reads (s := { s with heap := h' }) hu P hP hc hv'⟩
  refine PySem.W.kat_kind (T := .type "str") h1 (by omega) (fun f hm => ?_) (by rfl) ?_
  · obtain ⟨x, t, rfl⟩ := h3 f hm
    exact PySem.W.Looks.now
  · have e : (Value.type "str" != Value.type "tuple") = true := by first | decide +kernel | rfl | decide
    rw [e]
    exact hq
end
theorem vals_perm {out its : List Value} (h : out.Perm its) : ∀ {xs : List V}, Vals xs its → ∃ ys, Vals ys out ∧ ys.Perm xs := by
  induction h with
  | nil =>
    intro xs r
    cases r
    exact ⟨[], .nil, List.Perm.refl _⟩
  | cons u _ ih =>
    intro xs r
    cases r with
    | cons r1 rr =>
      obtain ⟨ys, r2, p⟩ := ih rr
      exact ⟨_ :: ys, .cons r1 r2, p.cons _⟩
  | swap u v l =>
    intro xs r
    cases r with
    | cons r1 rr =>
      cases rr with
      | cons r2 rr => exact ⟨_, .cons r2 (.cons r1 rr), List.Perm.swap _ _ _⟩
  | trans _ _ ih1 ih2 =>
    intro xs r
    obtain ⟨ys, r2, p2⟩ := ih2 r
    obtain ⟨zs, r3, p3⟩ := ih1 r2
    exact ⟨zs, r3, p3.trans p2⟩
theorem reads_mem {h : Heap} : ∀ {vs : List Value} {ds : List PyData} {as : List Addr}, ReadsAll h vs ds as → ∀ v ∈ vs, ∃ d as, d ∈ ds ∧ Reads h v d as
  | _, _, _, .nil, v, hv => by cases hv
  | _, _, _, .cons r1 rr, v, hv => by
    rcases List.mem_cons.mp hv with rfl | hv
    · exact ⟨_, _, List.mem_cons_self, r1⟩
    · obtain ⟨d, as, h1, h2⟩ := reads_mem rr v hv
      exact ⟨d, as, List.mem_cons_of_mem _ h1, h2⟩
/-- sorted(l), l a list of tuples of words, numbers and small tuples: the same in some order -/
def rSortD (K : PySem.W.Frag) : List V → Hp → VK → Prop := fun vs H Q => ∃ (a : Addr) (xs : List V) (ds : List PyData), vs = [.ref a] ∧ SqL K H a xs ∧ DpAll K H xs ds ∧ (∀ d ∈ ds, Sd d) ∧ Cmps ds ∧
  ∀ (ys : List V) (p : Addr), ys.Perm xs → H p = none → Q (.ref p) (L2.upd H p (.lst ys))
theorem cr_sortD {X : Cx} (hu : X.A.units + 60 < cLine) : CallR X (.builtin "sorted") (rSortD X.K) := by
  intro pins s σ H vs us Q I r h
  obtain ⟨a, xs, ds, rfl, hs, hd, hS, hC, q⟩ := h
  obtain ⟨its, rv, hl, hz⟩ := I.list hs
  rw [Vals.ref1 r]
  have lx : its.length = xs.length := rv.length.symm
  obtain ⟨as, ra⟩ := Dp.readsAll I ds xs its hd rv
  refine Srt.sorted_any hl.isList (by rw [lx]; exact hz) (fun h2 h1 a' ha' k => ?_) fun out ho => ?_
  · refine sortable_reads (s := { s with heap := h1 }) (by show X.A.units + 1 + 1 + 20 < cLine; omega) (by omega) (fun d => d ∈ ds) hS (fun d e hd he => hC d hd e he) (fun v hv => ?_) fun o e => ?_
    · obtain ⟨d, as, hd1, r1⟩ := reads_mem ra v hv
      exact ⟨d, as, hd1, reads_keep (fun b o e _ => (k b o e).2) d (hS d hd1).nol r1⟩
    · have e' : some o = some (seqObj "list" its.toArray 0) := e.symm.trans ha'
      cases e'
      intro c
      exact absurd (Value.type.inj c) (by decide)
  · obtain ⟨ys, ry, py⟩ := vals_perm ho rv
    obtain ⟨ep, he'⟩ := PyProof.Rows.sortedAll_at s.heap its out.toArray
    have hlen : ys.length ≤ sizeLine := by rw [py.length_eq]; exact hz
    exact ⟨.ref _, L2.upd H (s.heap.objs.size + 1) (.lst ys), I.laid (t' := s.toks) (fun _ _ => PyProof.Rows.sortedAll_old) (Nat.le_succ _) ⟨hlen, out, ep, ry, he'⟩, rfl, q ys _ py (I.hok.fresh (Nat.le_succ _))⟩
end Kw


set_option Elab.async false
set_option linter.all false
set_option maxRecDepth 100000
set_option maxHeartbeats 4000000
/-! o(..), o an instance of a class with an own __call__. -/
namespace Kw
open PySem PySem.Spec PySem.Calls PyProof.Rows L2
section
variable {M : Model} {A : Around} {E : Value → Shared → Prop} {s : Shared} {pos : Pos} {x : Addr} {fs : List Value} {Q : Value → Shared → Prop}
/-- what a plain object's call goes by -/
theorem keeper_plain {h : Heap} {o : Obj} (hx : h.get? x = some o) (hd : o.data = .plain) : PySem.W.Looks M h (keeperOf (.ref x)) .caller :=
  (PySem.W.Looks.ld (part := none) hx).andThen (by simp only [hd]; exact .now)
theorem callWith_obj {as : List (Bool × Sem Value)} {ks : List (Option Str × Sem Value)} (hp : (as.any (·.1) || ks.any (·.1.isNone)) = false)
    (h : wpAny M A (evalArgs (.ref x) true as ks) (fun a s1 => (∃ o, s1.heap.get? x = some o ∧ o.data = .plain) ∧ wpAny M A (call (.ref x) (fs ++ a.pos) a.kw) Q E s1) E s) :
    wpAny M A (callWith pos (.ref x) fs as ks) Q E s := by
  unfold callWith
  refine wpAny_bind (wpAny_holding (wpAny_mono h (fun a s1 ha => ?_) (fun _ _ q => q)))
  obtain ⟨⟨o, ho, hd⟩, hc⟩ := ha
  refine wpAny_bind (wpAny_standAt ?_)
  simp only [hp]
  refine wpAny_bind ((keeper_plain (M := M) ho hd).here ?_)
  refine wpAny_bind (wpAny_operateT (wpAny_mono hc (fun r s2 hr => ?_) (fun _ _ q => q)))
  exact wpAny_bind (wpAny_holding (wpAny_point (wpAny_pure hr)))
end
section
variable {X : Cx} {CX : CXT} {C f : Addr} {fd : FuncData} {k : Nat} {ps : List Str} {sp : Sp} {E : XK} {x : Str} {p pos : Pos} {e : Expr} {es : List Expr} {to : TE} {t : TA}
def tObj (C : Addr) (sp : Sp) (E : XK) (to : TE) (t : TA) : TE := fun σ H Q => to σ H fun v H1 => ∃ a, v = .ref a ∧ t σ H1 fun vs H2 => (∃ dx fs, H2 a = some (.ins C dx fs)) ∧ sp (.ref a :: vs) H2 Q E
theorem pe_callObj (F : FnOk X.prog X.w X.K X.mg X.base CX k f fd ps sp) (hs : PySem.W.findIn X.K (.ref C) "__call__" = some (some (.ref f))) (hf : PySem.W.isFn X.K (.ref f) = true) (hfn : PySem.W.fnIn X.K f = true) (hr : Room k X.A) (hb : Binds X.K fd ps []) (hx : Passes CX X E)
    (ho : PE X (.Name x p) to) (ha : PA X (e :: es) t) (he : starEach (e :: es) X.env = (false, eval e X.env) :: starEach es X.env := by rfl) (hpl : (backTo pos (starEach es X.env)).any (·.1) = false := by rfl) :
    PE X (.Call (.Name x p) (e :: es) [] pos) (tObj C sp E to t) := by
  refine ⟨fun pins s σ H Q I h => ?_⟩
  refine wpAny_Call_Name_kw (thn (ho.run pins s σ H _ I h) fun u s1 hv => ?_)
  obtain ⟨v, H1, I1, rv, a, rfl, q⟩ := hv
  cases rv
  have hA := ha.run pos pins s1 σ H1 _ I1 q
  rw [he] at hA ⊢
  refine callWith_obj (by show ((false || (backTo pos (starEach es X.env)).any (·.1)) || false) = false; rw [hpl]; rfl) (evalArgs_plain (thn hA fun us s2 hu => ?_))
  obtain ⟨vs, H2, I2, r2, ⟨dx, gs, hH⟩, hsp⟩ := hu
  obtain ⟨mA, J, _⟩ := ins_get I2.hok hH
  obtain ⟨od, J, _⟩ := J.look
  refine ⟨⟨_, J.at_, rfl⟩, ?_⟩
  have r3 : Vals (.ref a :: vs) (.ref a :: us) := .cons rfl r2
  have hl : ((Value.ref a :: us) ++ []).length = ps.length := by rw [List.append_nil, ← r3.length]; have := F.len _ _ _ _ hsp; exact this
  refine wpAny_call (PySem.W.kco_code I2.kIn J rfl hs hf hfn (codeAny_mono (F.run X.A X.stack s2 H2 ⟨.ref a :: us, []⟩ ((.ref a :: us) ++ []) (.ref a :: vs) Q E hr I2.env0 (hb s2 (.ref a :: us) I2.kIn hl) (by rw [List.append_nil]; exact r3) hsp) fun r s' hq => ?_))
  cases r with
  | error e => exact hx pins σ H2 s2 e s' I2 hq
  | ok fl =>
    cases fl with
    | ret u => exact I2.after hq
    | next => exact False.elim hq
    | brk => exact False.elim hq
    | cont => exact False.elim hq
end
end Kw


set_option Elab.async false
set_option linter.all false
set_option maxRecDepth 100000
set_option maxHeartbeats 4000000
namespace Kw
open PySem PySem.Spec PyProof.Rows L2
/-! ### defs of which what is raised has no context; an error class made where an exception is handled -/
/-- the context of the body, where an exception is handled -/
def supCxH (CX : CXT) (P : Program) (w : World) (K : PySem.W.Frag) (mg : Str → Option Value) (base : Heap) (N : List Str) (qual : Str) (scope : Scope) (f : Addr) (cd : Value) (cc : Addr) (A : Around) (outer : List Env) (s : Shared) (H : Hp) (E : XK) (p : Addr × Obj) : Cx where
  prog := P
  w := w
  K := K
  mg := mg
  base := base
  A := A.deeper (sEnv qual scope s.heap.objs.size f cd cc)
  N := N
  s_0 := s
  H_0 := H
  env := sEnv qual scope s.heap.objs.size f cd cc
  outer := outer
  stack := sEnv qual scope s.heap.objs.size f cd cc :: outer
  ex := []
  calm := false
  fn := fun _ => false
  pn := [p]
  xe := fun e s' => wpAny (model P w) (A.deeper (sEnv qual scope s.heap.objs.size f cd cc)) (leaving (sEnv qual scope s.heap.objs.size f cd cc) e) (fun _ s'' => CX outer H s E e s'') (fun e' s'' => CX outer H s E e' s'') s'

section
variable {CX : CXT} {P : Program} {w : World} {K : PySem.W.Frag} {mg : Str → Option Value} {base : Heap} {N : List Str} {qual : Str} {scope : Scope} {f cc : Addr} {cd : Value} {A : Around} {outer : List Env} {s : Shared} {H : Hp} {E : XK}
theorem sup_startH {us : List Value} {vs : List V} {h1 : Heap} {tk : Nat} {D : Addr} {ccl : Value} {ccd : Option Addr} {ccs : Array (Option Value)} (S : SupScope N scope) {p : Addr × Obj} (hpin : L2H.PinOk outer H s p) (e0 : Env0 P w K mg base A outer s H) (hl : vs.length = N.length) (r : Vals vs us)
    (hcell : K.lookup cc = some ⟨ccl, ccd, .cell (some (.ref D)), ccs⟩)
    (hns : h1.Ns s.heap.objs.size (fun x => (N.zip us).reverse.lookup x)) (hk : ∀ b o, s.heap.get? b = some o → h1.get? b = some o) :
    Inv (supCxH CX P w K mg base N qual scope f cd cc A outer s H E p) [] (vs.map some) H { s with heap := h1, toks := tk } := by
  have noA : ∀ b : Addr, b ∉ (supCxH CX P w K mg base N qual scope f cd cc A outer s H E p).ex := fun b z => absurd (show b ∈ ([] : List Addr) from z) (by simp)
  have KX := e0.mod.kin
  have hcb := KX _ _ hcell
  have cells : ∀ {y c}, (supCxH CX P w K mg base N qual scope f cd cc A outer s H E p).env.cells.lookup y = some c → y = ("__class__" : Str) ∧ c = cc := fun {y c} h => by
    have h' : List.lookup y [(("__class__" : Str), cc)] = some c := h
    by_cases e : y = ("__class__" : Str)
    · subst e
      have q : List.lookup ("__class__" : Str) [(("__class__" : Str), cc)] = some cc := by simp [List.lookup]
      rw [q] at h'
      exact ⟨rfl, (Option.some.inj h').symm⟩
    · have q : (y == ("__class__" : Str)) = false := by simpa using e
      simp [List.lookup, q] at h'
  refine ⟨⟨e0.mod, S.kind, rfl, rfl, Nat.le_refl _, fun y z c h1 h2 => (cells h1).1.trans (cells h2).1.symm, fun y hy => ?_, fun y c h _ => Bool.noConfusion (show false = true from h), (fun z => Bool.noConfusion (show false = true from z)), Around.frames_deeper e0.frames, .inr ⟨rfl, rfl⟩, fun b z => absurd z (noA b), e0.bs, e0.bsz, fun b _ _ => noA b, fun b z => absurd z (noA b), e0.funs, e0.frf⟩,
    rfl, e0.bare, Un.kept hk, ⟨_, hns, fun i y v h1 h2 h3 => ?_⟩, fun y c h => ?_, e0.hok.fresh (Nat.le_refl _), fun y c h => ?_, fun q hq => ?_, e0.hok.kept hk, ?_⟩
  · have hy : scope.names.lookup y = some .cell ∨ scope.names.lookup y = some .free := hy
    rcases hy with hy | hy
    · exact absurd rfl (S.nocell _ (PySem.mem_of_lookup hy))
    · have e := S.onlyFree y hy
      subst e
      exact ⟨cc, by show List.lookup ("__class__" : Str) [(("__class__" : Str), cc)] = some cc; simp [List.lookup]⟩
  · rw [List.getElem?_map] at h2
    cases e : vs[i]? with
    | none =>
      rw [e] at h2
      cases h2
    | some a =>
      rw [e] at h2
      cases h2
      obtain ⟨u, hu, rv⟩ := r.get e
      have hp : N[i]? = some y := h1
      refine ⟨u, rv, .inl ⟨S.par y (List.mem_of_getElem? hp), ?_⟩⟩
      have hlen := r.length
      -- the place of y in the reversed bindings
      have key : ∀ (N : List Str) (us : List Value) (i : Nat), N.Nodup → N[i]? = some y → us[i]? = some u → (N.zip us).reverse.lookup y = some u := by
        intro N
        induction N with
        | nil => intro us i _ h; simp at h
        | cons n N ih =>
          intro us i nd h1 h2
          cases us with
          | nil => simp at h2
          | cons u0 us =>
            rw [List.zip_cons_cons, List.reverse_cons]
            cases i with
            | zero =>
              simp at h1 h2
              subst h1 h2
              have hn : (N.zip us).reverse.lookup n = none := by
                have hnn := (List.nodup_cons.mp nd).1
                cases q : (N.zip us).reverse.lookup n with
                | none => rfl
                | some z =>
                  have hm := PySem.mem_of_lookup q
                  exact absurd (List.of_mem_zip (List.mem_reverse.mp hm)).1 hnn
              rw [List.lookup_append, hn]
              simp [List.lookup]
            | succ i =>
              have q := ih us i (List.nodup_cons.mp nd).2 (by simpa using h1) (by simpa using h2)
              rw [List.lookup_append, q]
              rfl
      exact key N us i S.nd hp hu
  · obtain ⟨_, rfl⟩ := cells h
    exact ⟨_, _, hk _ _ (e0.bs _ _ hcb).1, rfl⟩
  · obtain ⟨_, rfl⟩ := cells h
    exact (e0.bs _ _ hcb).2
  · have eq : q = p := by simpa using (show q ∈ [p] ++ ([] : List (Addr × Obj)) from hq)
    rw [eq]
    exact ⟨hk p.1 p.2 hpin.get, hpin.free, Nat.ne_of_lt (Heap.lt_size hpin.get), hpin.nofs, hpin.nocell⟩
  · show (vs.map some).length = N.length
    rw [List.length_map, hl]
end

section
variable {CX : CXT} {P : Program} {w : World} {K : PySem.W.Frag} {mg : Str → Option Value} {base : Heap} {k : Nat} {N : List Str} {name qual : Str} {scope : Scope} {params : Arguments} {f cc cda C : Addr} {ar : Arg} {vsC : Array Value} {fileS : Str} {tf : Tok}
  {dV kV doc pm ct oc ccl cl : Value} {an od cdd cld : Option Addr} {osl ccs csl : Array (Option Value)} {e : Expr} {rest : List Stmt} {p0 p1 p2 p3 p4 : Pos} {sp : Sp} {pl : Addr → Sem Bool}
theorem fn_superH (T : SupC P K mg C)
    (lk : K.lookup f = some ⟨oc, od, .func (PySem.W.ksFn name qual params (.Expr (supCall e p0 p1 p2 p3) p4 :: rest) scope dV kV doc pm an (.ref cda) ct cc), osl⟩) (hcd : PySem.W.codeIn K (.ref cda) qual = true)
    (hp : (params.posonlyargs ++ params.args).head? = some ar) (hself : N[0]? = some ar.arg)
    (hcode : K.lookup cda = some ⟨ccl, cdd, .fields vsC, ccs⟩) (hvs : vsC[2]? = some (.str fileS tf)) (hfile : ((P.main.file : Str) == fileS) = true)
    (hcell : K.lookup cc = some ⟨cl, cld, .cell (some (.ref C)), csl⟩)
    (S : SupScope N scope) (len : ∀ vs H Q E, sp vs H Q E → vs.length = N.length)
    (hsw : ∀ L, swapsWith (supCall e p0 p1 p2 p3) none p4.line (sEnv qual scope L f (.ref cda) cc) = pure false)
    (hev : ∀ L, eval (supCall e p0 p1 p2 p3) (sEnv qual scope L f (.ref cda) cc) = (do
      let ov ← attributeBase (.Call (.Name "super" p0) [] [] p1) "__init__" (sEnv qual scope L f (.ref cda) cc) (eval (.Call (.Name "super" p0) [] [] p1) (sEnv qual scope L f (.ref cda) cc))
      standAt p2.atName
      let (g, first) ← holding [ov] (getMethod ov "__init__" (pl L))
      callWith p3 g first (backTo p3 (starEach [e] (sEnv qual scope L f (.ref cda) cc))) []))
    (hst : ∀ L, starEach [e] (sEnv qual scope L f (.ref cda) cc) = [(false, eval e (sEnv qual scope L f (.ref cda) cc))])
    (hbody : ∀ (A : Around) (outer : List Env) (s : Shared) (H : Hp) (vs : List V) (Q : VK) (E : XK) (p : Addr × Obj), L2H.Hot1 A p → L2H.RoomH k (A.deeper (sEnv qual scope s.heap.objs.size f (.ref cda) cc)) → sp vs H Q E →
      ∃ te t, PE (supCxH CX P w K mg base N qual scope f (.ref cda) cc A outer s H E p) e te ∧ PSs (supCxH CX P w K mg base N qual scope f (.ref cda) cc A outer s H E p) rest t ∧
        (∃ a, vs[0]? = some (V.ref a) ∧ H a = some (exo a C none)) ∧ tSup C te t { nx := fun _ H' => Q .non H', rt := Q } (vs.map some) H) :
    L2H.FnH P w K mg base CX (k + 1) f (PySem.W.ksFn name qual params (.Expr (supCall e p0 p1 p2 p3) p4 :: rest) scope dV kV doc pm an (.ref cda) ct cc) N sp := by
  refine ⟨len, fun A outer s H args us vs Q E p hr hot hpin e0 hb r hsp => ?_⟩
  have hl := len _ _ _ _ hsp
  have KX : K.In s.heap := e0.mod.kin.keeps fun b o e => (e0.bs b o e).1
  have lim : s.heap.NoLimit := e0.mod.nolimit.keeps fun b o e => (e0.bs b o e).1
  refine PySem.ks_codeAny_call_defAt (binds := N.zip us) hr.depth (KX _ _ lk) rfl lim (PySem.W.codeRec_of KX hcd) rfl hb S.nocell (fun y hy => S.par y.1 (List.of_mem_zip hy).1) (fun h1 hns hk => ?_) S.co S.gen S.kind
  obtain ⟨te, t, pe, pss, ⟨a, hva, hHa⟩, hq⟩ := hbody A outer s H vs Q E p hot (hr.deeper _) hsp
  have I : L2.Inv (supCxH CX P w K mg base N qual scope f (.ref cda) cc A outer s H E p) [] (vs.map some) H { s with heap := h1, toks := s.toks + (N.zip us).length } := sup_startH S hpin e0 hl r hcell hns hk
  have fin : ∀ {σ' : L2.St} {H' : Hp} {v : V} {u : Value} {s' : Shared}, L2.Inv (supCxH CX P w K mg base N qual scope f (.ref cda) cc A outer s H E p) [] σ' H' s' → RelV v u → Q v H' → CE outer P w H s Q u s' :=
    fun {σ' H' v u s'} J rv q => ⟨v, H', J.os, J.bare, J.base, J.hok, rv, q⟩
  show PySem.wpAt _ _ _ (execs _ (sEnv qual scope s.heap.objs.size f (.ref cda) cc)) _ _ _
  refine PySem.ks_wpAt_execs_cons (PySem.ks_wpAt_Expr_any (PySem.ks_wpAt_MethodCall (pl := pl s.heap.objs.size) ?_ (hev _)) I.quiet (hsw _))
  obtain ⟨nm, q, N', bs, bm, sn, sub, ab, col, dd, k0, k1, k2, k3, k5, hC, hbm, hal⟩ := T.along
  have KX1 : K.In h1 := KX.keeps hk
  have hcl : PySem.W.clsIn K C = some { name := nm, bases := bs, mro := .ref C :: bm, ns := N', qualname := q, hasDict := true, slotNames := sn, subclasses := sub, abstract := ab, collection := col, hasDel := false } := by unfold PySem.W.clsIn; rw [hC] <;> rfl
  have e0' : (vs.map some)[0]? = some (some (V.ref a)) := by rw [List.getElem?_map, hva]; rfl
  -- self, a
  obtain ⟨m, hnm, hlm⟩ := id I.loc
  obtain ⟨uS, ruS, lkS⟩ := hlm 0 ar.arg (V.ref a) hself e0' (.inl (S.par _ (List.mem_of_getElem? hself)))
  obtain rfl : uS = Value.ref a := ruS
  have hma : m ar.arg = some (.ref a) := by
    rcases lkS with ⟨_, z⟩ | ⟨z, _⟩
    · exact z
    · have z' : scope.names.lookup ar.arg = some .cell ∨ scope.names.lookup ar.arg = some .free := z
      rw [S.par _ (List.mem_of_getElem? hself)] at z'
      rcases z' with z' | z' <;> cases z'
  obtain ⟨t1, ho⟩ := exo_at I.hok hHa
  obtain ⟨mb, hmb, hmb2⟩ := I.mod.blt
  refine PySem.ks_wpAt_super_base (env := sEnv qual scope s.heap.objs.size f (.ref cda) cc) S.sup S.cls (by decide) rfl (KX1 _ _ lk) rfl hp rfl (KX1 _ _ hcode) rfl hvs hfile T.htop ?_
  refine PySem.W.ks_loadName_global S.kind S.sup (Calls.loadGlobal_builtin (env := sEnv qual scope s.heap.objs.size f (.ref cda) cc) (I.mod.glob.keeps I.bk) T.sup (hmb.keeps I.bk) ((hmb2 _ (by decide +kernel)).trans boot_super) ⟨rfl, ?_⟩)
  refine wpAny_loadName_free S.kind S.cls rfl ⟨_, KX1 _ _ hcell, rfl⟩ ?_
  refine wpAny_loadName_local S.kind (S.par _ (List.mem_of_getElem? hself)) hnm hma ?_
  obtain ⟨oD, hD1, hD2⟩ : ∃ oD, h1.get? C = some oD ∧ oD.data = .cls { name := nm, bases := bs, mro := .ref C :: bm, ns := N', qualname := q, hasDict := true, slotNames := sn, subclasses := sub, abstract := ab, collection := col, hasDel := false } := ⟨_, KX1 _ _ hC, rfl⟩
  refine PySem.ks_wpAny_isType_cls hD1 hD2 ⟨rfl, ?_⟩
  refine PySem.ks_wpAny_call_super hD1 hD2 ho rfl (fun c e => nomatch e) (PySem.W.looks_mroIn KX1 T.self) (fun h2 eso kk => ?_)
  -- the super object stands; its method
  have I2 := I.kept (t' := s.toks + (N.zip us).length) kk
  have KX2 : K.In h2 := KX1.keeps kk
  have ho2 := kk _ _ ho
  have It : PySem.W.InstAt h2 a { cls := .ref C, dict := none, data := .fields #[.ref t1, .none, .none, .none, .bool false, .none] } C none := ⟨ho2, rfl, rfl, trivial⟩
  refine PySem.W.kxs_getMethod PySem.W.kxs_ValueError eso (PySem.W.looks_opaque KX2 T.tp) (l₀ := .ref C :: bm) (fun A Q E s k q => wpAny_bind ((PySem.W.looks_clsIn KX2 hcl) A _ E s k (wpAny_pure q))) rfl KX2 hal (It.type.andThen (PySem.W.looks_subIn KX2 T.isVE)) (PySem.W.ks_ne KX2 It hcl) (by decide) ?_
  have I3 := I2.kept (t' := s.toks + (N.zip us).length + 1) (h' := h2.push (PySem.W.kxs_mw "ValueError.__init__" a)) fun b o e => Heap.get?_push_of_some _ e
  have hu : (h2.push (PySem.W.kxs_mw "ValueError.__init__" a)).get? h2.objs.size = some (PySem.W.kxs_mw "ValueError.__init__" a) := Heap.get?_push_at rfl rfl
  have I4 := I3.pins_of (pins' := [(h2.objs.size, PySem.W.kxs_mw "ValueError.__init__" a)]) (fun p hp => by
    obtain rfl := List.mem_singleton.mp hp
    exact ⟨hu, I2.hok.fresh (Nat.le_refl _), Nat.ne_of_gt I2.lt, I2.nofs (Nat.le_refl _), fun v z => nomatch z⟩)
  show wpAny _ _ (callWith p3 (.ref h2.objs.size) [] (backTo p3 (starEach [e] (sEnv qual scope s.heap.objs.size f (.ref cda) cc))) []) _ _ _
  have pa : PA (supCxH CX P w K mg base N qual scope f (.ref cda) cc A outer s H E p) [e] (tCons te tNil) := pa_cons pe pa_nil (hst _)
  have ru := pa.run p3 _ _ (vs.map some) H (fun ws H1 => match ws with | [v] => (∃ z, v = .str z) ∧ ∃ a, (vs.map some)[0]? = some (some (.ref a)) ∧ H1 a = some (exo a C none) ∧ t { nx := fun _ H' => Q .non H', rt := Q } (vs.map some) H1 | _ => False) I4 hq
  have ehs : starEach [e] (supCxH CX P w K mg base N qual scope f (.ref cda) cc A outer s H E p).env = [(false, eval e (sEnv qual scope s.heap.objs.size f (.ref cda) cc))] := hst _
  rw [ehs] at ru
  rw [hst]
  refine PySem.W.kxs_callWith (i := "ValueError.__init__") (x := a) rfl (Calls.evalArgs_plain (thn ru fun ws s5 hw => ?_))
  obtain ⟨vs5, H5, I5, r5, q5⟩ := hw
  have hu5 : s5.heap.get? h2.objs.size = some (PySem.W.kxs_mw "ValueError.__init__" a) := (I5.pin (h2.objs.size, PySem.W.kxs_mw "ValueError.__init__" a) (List.mem_append.mpr (.inr (List.mem_singleton.mpr rfl)))).1
  refine ⟨hu5, ?_⟩
  cases r5 with
  | nil => exact q5.elim
  | @cons v5 u5 vr ur rv rr =>
    cases rr with
    | cons _ _ => exact q5.elim
    | nil =>
      obtain ⟨_, a', ea', hH5, q5⟩ := q5
      have ea : a' = a := by
        have z := ea'.symm.trans e0'
        cases z
        rfl
      subst ea
      refine bw_ok (X := supCxH CX P w K mg base N qual scope f (.ref cda) cc A outer s H E p) T.oex I5 hH5 hu5 (by show 1 ≤ sizeLine; rw [sizeLine_eq]; decide) fun s6 I6 => ?_
      have I7 : L2.Inv (supCxH CX P w K mg base N qual scope f (.ref cda) cc A outer s H E p) [] (vs.map some) H5 s6 := I6.unpinned (pins := []) (pl := [(h2.objs.size, PySem.W.kxs_mw "ValueError.__init__" a')])
      show PySem.wpAt _ _ _ (execs rest _) _ _ _
      refine PySem.wpAt_of_wpAny (wpAny_mono (pss.run [] s6 (vs.map some) H5 _ I7 q5) (fun fl s' hs => ?_) fun _ _ x => x)
      cases fl with
      | ret u =>
        obtain ⟨v, σ', H', J, rv, q⟩ := hs
        exact fin J rv q
      | next =>
        obtain ⟨σ', H', J, q⟩ := hs
        exact fin (v := V.non) (u := Value.none) J rfl q
      | brk =>
        obtain ⟨_, _, _, q⟩ := hs
        exact False.elim q
      | cont =>
        obtain ⟨_, _, _, q⟩ := hs
        exact False.elim q
end
section
variable {X : Cx} {pos p : Pos} {e : Expr} {es : List Expr} {ta : TA}
theorem pmk_oexN {CX : CXT} {x : Str} {C fI : Addr} {k : Nat} {fd : FuncData} {ps : List Str} {sp : Sp} {ds : List Value} {dvs : List V} (T : OexC X.K C) (iC : PySem.W.findIn X.K (.ref C) "__init__" = some (some (.ref fI))) (tI : PySem.W.typeIn X.K (.ref fI) = some (.type "function"))
    (F1 : FnOk X.prog X.w X.K X.mg X.base CX k fI fd ps sp) (hr : Room (k + 1) X.A) (hb : Binds X.K fd ps ds) (hd : Vals dvs ds) (hx : Passes CX X (fun _ _ _ => False)) (hg : Gl X x) (hm : X.mg x = some (.ref C)) (ha : PA X (e :: es) ta)
    (hdb : (x == ("__debug__" : Str)) = false := by decide) (he : starEach (e :: es) X.env = (false, eval e X.env) :: starEach es X.env := by rfl) (hpl : (backTo pos (starEach es X.env)).any (·.1) = false := by rfl) :
    L2N.PMk X (.Call (.Name x p) (e :: es) [] pos) (tMkO C sp dvs ta) := by
  intro pins s σ H Q I h
  obtain ⟨nm, q, N, bs, bm, sn, sub, ab, col, dd, k0, k1, k2, k3, k5, hC, hbm⟩ := T.cls
  refine wpAny_Call_Name_kw (ld_glob I hg hm ?_ hdb)
  refine PySem.W.callWith_K (h₀ := X.base) I.ok.mod.kin T.kC (thn (ha.run pos pins s σ H _ I h) fun us s1 ⟨vs, H1, I1, r1, hz, q1⟩ => ⟨I1.kIn, ?_⟩) he hpl
  show wpAny _ _ (call (.ref C) us) _ _ _
  obtain ⟨hp, g, dr, tk, os⟩ := s1
  have hsz : hp.objs.size ≤ hp.objs.size + 1 := Nat.le_succ _
  have hn : H1 (hp.objs.size + 1) = none := I1.hok.fresh hsz
  have hq := q1 (hp.objs.size + 1) hn
  have kk : ∀ b o, hp.get? b = some o → ((hp.push (PySem.W.kdv_tup us)).push (PySem.HandSPX.excO C hp.objs.size)).get? b = some o := fun b o e => Heap.get?_push_of_some _ (Heap.get?_push_of_some _ e)
  have hget : ((hp.push (PySem.W.kdv_tup us)).push (PySem.HandSPX.excO C hp.objs.size)).get? (hp.objs.size + 1) = some (PySem.HandSPX.excO C hp.objs.size) := by heap_get
  have I2 : Inv X pins σ (upd H1 (hp.objs.size + 1) (exo (hp.objs.size + 1) C none)) ⟨(hp.push (PySem.W.kdv_tup us)).push (PySem.HandSPX.excO C hp.objs.size), g, dr, tk, os⟩ :=
    I1.laid (t' := tk) (a := hp.objs.size + 1) (o := exo (hp.objs.size + 1) C none) (h' := (hp.push (PySem.W.kdv_tup us)).push (PySem.HandSPX.excO C hp.objs.size)) kk hsz (exo_ok hget)
  have r2 : Vals (V.ref (hp.objs.size + 1) :: (vs ++ dvs)) (Value.ref (hp.objs.size + 1) :: (us ++ ds)) := .cons rfl (r1.append hd)
  have hl : (Value.ref (hp.objs.size + 1) :: us ++ ds).length = ps.length := by
    have e := r2.length
    rw [F1.len _ _ _ _ hq] at e
    exact e.symm
  have hus : us.length ≤ sizeLine := by
    rw [← Paired.length r1, sizeLine_eq]
    omega
  refine wpAny_call (PySem.HandSPX.call_own F.excBase_ValueError (fun Y => PySem.HandSPX.refsVE_contains Y bm hbm) (I1.kIn _ _ hC) (PySem.W.looks_findIn I1.kIn iC) (fun self => PySem.W.bind_fn I1.kIn self tI) hus
    (codeAny_mono (F1.run _ X.stack _ _ ⟨Value.ref (hp.objs.size + 1) :: us, []⟩ (Value.ref (hp.objs.size + 1) :: (us ++ ds)) _ _ (fun _ _ _ => False) (hr.make C us []) (I2.env0.make C us []) (hb _ (Value.ref (hp.objs.size + 1) :: us) I2.kIn hl) r2 hq) fun r s' hq' => ?_))
  cases r with
  | error er => exact hx pins σ _ _ er s' I2 hq'
  | ok fl =>
    cases fl with
    | ret u =>
      obtain ⟨v, H2, os2, bare2, un2, hok2, rv, ev, d, fs, ea, ed, hd1, q2⟩ := hq'
      subst ev
      obtain ⟨h2, g2, d2, t2, os'⟩ := s'
      obtain ⟨t0, G, J, kG, ge, hoe, na⟩ := mk_end0 (d2 := d2) (t2 := t2) I1 hsz kk un2 hok2 os2 bare2 ea ed hd1
      refine ⟨rv, hp.objs.size + 1, _, _, ⟨G, g2, d2, t2, os'⟩, _, .ref C, some d, rfl, J, kG, ge, hoe, ⟨rfl, rfl, fun vs hv => ?_⟩, rfl, rfl, na, rfl, bare2, raises_own T.exC T.tyC, q2⟩
      cases hv
      rfl
    | next => exact False.elim hq'
    | brk => exact False.elim hq'
    | cont => exact False.elim hq'
end
theorem okN {P : Program} {w : World} {K : PySem.W.Frag} {mg : Str → Option Value} {base : Heap} {x qual : Str} {st : Stmt} {f : Addr} {fd : FuncData} {N ps : List Str} {k : Nat} {sp : Sp} (F : Fun K x qual st f fd) (S : FnScope N ps (defScope st)) (len : ∀ vs H Q E, sp vs H Q E → vs.length = ps.length)
    (hbody : ∀ (cdv : Value) (A : Around) (outer : List Env) (s : Shared) (H : Hp) (vs : List V) (Q : VK) (E : XK), Room k (A.deeper (envOfC qual (defScope st) s.heap.objs.size f cdv)) → sp vs H Q E →
      ∃ t, PSs (cxOf (L2N.CX P w) P w K mg base N qual (defScope st) f cdv A outer s H E) (defBody st) t ∧ t { nx := fun _ H' => Q .non H', rt := Q } (L2.start N vs) H) : FnOk P w K mg base (L2N.CX P w) (k + 1) f fd ps sp := by
  obtain ⟨oc, od, kV, doc, pm, an, cdv, ct, osl, rfl, lk, hcd⟩ := F.ex
  exact fn_of lk hcd S len fun A outer s H vs Q E hr hsp => hbody cdv A outer s H vs Q E hr hsp
/-- X(e) -/
theorem pmk_own1N {X : Cx} {C : Addr} {bmB : List Value} {B newId initId : String} {x : Str} {e : Expr} {ta : TE} {p pos : Pos} (F : ExcBaseFacts B newId initId bmB) (q : PySem.W.excIn X.K C bmB newId = true) (gC : X.mg x = some (.ref C)) (kC : PySem.W.keepIn X.K (.ref C) = true) (r : Raises X (.ref C)) (hg : Gl X x)
    (he : PE X e ta) (hs : starEach [e] X.env = (false, eval e X.env) :: starEach [] X.env := by rfl) (hdb : (x == ("__debug__" : Str)) = false := by decide) :
    L2N.PMk X (.Call (.Name x p) [e] [] pos) (fun σ H Q => ta σ H fun _ H1 => Q (.ref C) none H1) := by
  intro pins s σ H Q I h
  refine wpAny_Call_Name_kw (ld_glob I hg gC ?_ hdb)
  refine PySem.W.callWith_K (h₀ := X.base) I.ok.mod.kin kC ?_ hs (by rfl)
  rw [hs]
  show wpAny _ _ (spliced ((false, eval e X.env) :: backTo pos (starEach [] X.env))) _ _ s
  refine Calls.spliced_cons (thn (he.run pins s σ H _ I h) fun u s1 ⟨v, H1, I1, r1, q1⟩ => ?_)
  refine Calls.spliced_nil ⟨I1.kIn, ?_⟩
  show wpAny _ _ (call (.ref C) [u]) _ _ _
  obtain ⟨bm, N, nm, qn, bs, hdct, sn, sub, ab, col, dd, k0, k1, k2, k3, k5, mN, hC, hN, hni, T⟩ := exc_obj I1.kIn q
  refine wpAny_call_exc_subT F T hC hN hni (fun h' e hm => ?_) (by show 1 ≤ sizeLine; rw [sizeLine_eq]; omega)
  exact L2N.mk_of I1 hm r q1 (I1.hok.gone hm.new)
/-- enumerate of a list or of a tuple -/
def iEnumE (K : PySem.W.Frag) (ta : TA) : TI := fun σ H R => ta σ H fun vs H1 => ∃ a xs, vs = [.ref a] ∧ ((SqT K H1 a xs ∧ R (Itet K a) H1) ∨ (SqL K H1 a xs ∧ R (Ite K a) H1))
theorem pi_enumE {X : Cx} {e : Expr} {ta : TA} {p pos tpos : Pos} {elts : List Expr} {kk : Nat} (hg : Gl X "enumerate") (hm : X.mg "enumerate" = none) (ha : PA X [e] ta) (hs : starEach [e] X.env = [(false, eval e X.env)] := by rfl) :
    PI X (.Tuple elts kk tpos) (.Call (.Name "enumerate" p) [e] [] pos) (iEnumE X.K ta) := by
  refine ⟨fun pins s σ H R I h => ?_⟩
  refine Call_ (ld_blt I hg hm boot_enumerate (PyProof.Rows.callWith_type1 (thn (ha.run pos pins s σ H _ I h) fun us s1 ⟨vs, H1, I1, r1, q1⟩ => ?_) hs rfl))
  obtain ⟨a, xs, ex, q1⟩ := q1
  subst ex
  cases r1 with
  | cons r rr =>
    cases rr
    cases r
    rcases q1 with ⟨hq, q⟩ | ⟨hq, q⟩
    · obtain ⟨its, rv, p', hz⟩ := I1.tuple hq
      refine call_enumerate_tuple p' fun h' he hit hsz hk => wpAny_pyIter_enum he ?_
      have I2 : L2.Inv X pins σ H1 { s1 with heap := h' } := I1.kept (t' := s1.toks) hk
      refine ⟨s1.heap.objs.size + 1, [s1.heap.objs.size + 1, s1.heap.objs.size], _, _, H1, rfl, I2, turn_enumT a (s1.heap.objs.size + 1) s1.heap.objs.size, ⟨⟨.none, he⟩, hit, Nat.succ_ne_self _⟩, fun b hb => ?_, q⟩
      have e' : b = s1.heap.objs.size + 1 ∨ b = s1.heap.objs.size := by simpa using hb
      have hle : s1.heap.objs.size ≤ b := by
        rcases e' with z | z
        · rw [z]; exact Nat.le_add_right _ _
        · rw [z]; exact Nat.le_refl _
      exact I1.fpOk hle (I1.hok.fresh hle)
    · obtain ⟨its, rv, p', hz⟩ := I1.list hq
      refine call_enumerate_list p'.isList fun h' he hit hsz hk => wpAny_pyIter_enum he ?_
      have I2 : L2.Inv X pins σ H1 { s1 with heap := h' } := I1.kept (t' := s1.toks) hk
      refine ⟨s1.heap.objs.size + 1, [s1.heap.objs.size + 1, s1.heap.objs.size], _, _, H1, rfl, I2, turn_enum a (s1.heap.objs.size + 1) s1.heap.objs.size, ⟨⟨.none, he⟩, hit, Nat.succ_ne_self _⟩, fun b hb => ?_, q⟩
      have e' : b = s1.heap.objs.size + 1 ∨ b = s1.heap.objs.size := by simpa using hb
      have hle : s1.heap.objs.size ≤ b := by
        rcases e' with z | z
        · rw [z]; exact Nat.le_add_right _ _
        · rw [z]; exact Nat.le_refl _
      exact I1.fpOk hle (I1.hok.fresh hle)
theorem for_enumL {K : PySem.W.Frag} {a : Addr} {xs : List V} {g : TG} {tb : TS} {D : Ends} {σ : L2.St} {H : Hp} (Pv : Nat → L2.St → Hp → Prop) (h0 : Pv 0 σ H) (hl : ∀ i σ H, i ≤ xs.length → Pv i σ H → SqL K H a xs)
    (hs : ∀ i x σ H T, xs[i]? = some x → Pv i σ H → H T = none → g (.ref T) σ (upd H T (.tup [.int (i : Nat), x])) fun σ2 H2 => tb { D with nx := Pv (i + 1), ct := Pv (i + 1), bk := D.nx } σ2 H2)
    (hd : ∀ σ H, Pv xs.length σ H → D.nx σ H) :
    ∃ W : Nat → Nat → L2.St → Hp → Prop, (∃ m, W 0 m σ H) ∧ ∀ i m σ H, W i m σ H →
      ((Ite K a).stop i H ∧ D.nx σ H) ∨ ((Ite K a).go i H ∧ ∃ N : L2.St → Hp → Prop, (∀ σ' H', N σ' H' → ∃ m', m' < m ∧ W (i + 1) m' σ' H') ∧ ∀ x H', (Ite K a).yld i H x H' → g x σ H' fun σ2 H2 => tb { D with nx := N, ct := N, bk := D.nx } σ2 H2) := by
  refine ⟨fun i m σ H => m = xs.length - i ∧ i ≤ xs.length ∧ Pv i σ H, ⟨xs.length, by simp, Nat.zero_le _, h0⟩, ?_⟩
  rintro i m σ H ⟨rfl, hi, p⟩
  have q := hl i σ H hi p
  by_cases hlt : i < xs.length
  · refine .inr ⟨⟨xs, xs[i], q, by simp [hlt]⟩, Pv (i + 1), fun σ' H' p' => ⟨xs.length - (i + 1), by omega, rfl, hlt, p'⟩, fun x H' y => ?_⟩
    obtain ⟨T, x', ev, hT, eH, hx⟩ := y
    subst ev eH
    exact hs i x' σ H T (hx xs q) p hT
  · have e : i = xs.length := by omega
    subst e
    exact .inl ⟨⟨xs, q, Nat.le_refl _⟩, hd σ H p⟩
end Kw

set_option Elab.async false
set_option linter.all false
set_option maxRecDepth 100000
set_option maxHeartbeats 4000000
namespace Kw
open PySem PySem.Spec PyProof.Rows L2
abbrev sWhere : Stmt := top 54
abbrev sSet : Stmt := top 55
abbrev sBar : Stmt := top 56
abbrev sNext : Stmt := top 57
abbrev sDeeds : Stmt := top 58
/-! ### states and items -/
inductive Kd where
  | box | thing | sl
  deriving DecidableEq
def Kd.str : Kd → Str
  | .box => "box"
  | .thing => "thing"
  | .sl => "seal"
def Kd.ix : Kd → Nat
  | .box => 0
  | .thing => 1
  | .sl => 2
def rowOf (d : Hs) : Kd → List Pl
  | .box => d.bs
  | .thing => d.ts
  | .sl => d.ss
def putRow (d : Hs) (k : Kd) (l : List Pl) : Hs := match k with
  | .box => { d with bs := l }
  | .thing => { d with ts := l }
  | .sl => { d with ss := l }
abbrev It := Kd × Nat
def itP (p : It) : PyData := .tuple [.str p.1.str, .int (p.2 : Nat)]
def whereD (d : Hs) (p : It) : Option Pl := (rowOf d p.1)[p.2]?
def setD (d : Hs) (p : It) (q : Pl) : Hs := putRow d p.1 ((rowOf d p.1).set p.2 q)
section
variable {P : Program} {w : World} {K : PySem.W.Frag} {mg : Str → Option Value} {base : Heap}
theorem st_at {H : Hp} {x : V} {d : Hs} (h : Dp K H x (stD d)) : ∃ a v1 v2 v3, x = .ref a ∧ SqT K H a [v1, v2, v3] ∧ Dp K H v1 (plsD d.bs) ∧ Dp K H v2 (plsD d.ts) ∧ Dp K H v3 (plsD d.ss) := by
  cases h with
  | tup hs ha =>
    cases ha with
    | cons d1 r =>
      cases r with
      | cons d2 r =>
        cases r with
        | cons d3 r =>
          cases r
          exact ⟨_, _, _, _, rfl, hs, d1, d2, d3⟩
theorem it_at {H : Hp} {x : V} {p : It} (h : Dp K H x (itP p)) : ∃ a, x = .ref a ∧ SqT K H a [.str p.1.str, .int (p.2 : Nat)] := by
  cases h with
  | tup hs ha =>
    cases ha with
    | cons d1 r =>
      cases r with
      | cons d2 r =>
        cases r
        cases d1
        cases d2
        exact ⟨_, rfl, hs⟩
theorem row_at {H : Hp} {v1 v2 v3 : V} {d : Hs} (h1 : Dp K H v1 (plsD d.bs)) (h2 : Dp K H v2 (plsD d.ts)) (h3 : Dp K H v3 (plsD d.ss)) (k : Kd) : ∃ v, atI [v1, v2, v3] (k.ix : Nat) = some v ∧ Dp K H v (plsD (rowOf d k)) := by
  cases k
  · exact ⟨v1, rfl, h1⟩
  · exact ⟨v2, rfl, h2⟩
  · exact ⟨v3, rfl, h3⟩
def kdL : List V := [.str ("box" : Str), .str ("thing" : Str), .str ("seal" : Str)]
theorem kd_find (k : Kd) : ∃ z, kdL[k.ix]? = some z ∧ eqV z (.str k.str) = true ∧ ∀ (m : Nat) (z' : V), m < k.ix → kdL[m]? = some z' → eqV z' (.str k.str) = false := by
  cases k
  · exact ⟨_, rfl, by decide +kernel, fun m z' h => absurd h (by simp [Kd.ix])⟩
  · refine ⟨_, rfl, by decide +kernel, fun m z' h e => ?_⟩
    have : m = 0 := by simp [Kd.ix] at h; exact h
    subst this
    cases e
    decide +kernel
  · refine ⟨_, rfl, by decide +kernel, fun m z' h e => ?_⟩
    have : m = 0 ∨ m = 1 := by simp [Kd.ix] at h; omega
    rcases this with rfl | rfl <;> (cases e; decide +kernel)
/-! ### _law_where -/
def spWhere (K : PySem.W.Frag) : Sp := fun vs H Q _ => ∃ (x y : V) (d : Hs) (p : It) (q : Pl), vs = [x, y] ∧ Dp K H x (stD d) ∧ Dp K H y (itP p) ∧ whereD d p = some q ∧ ∀ v H', Same H H' → Dp K H' v (plD q) → Q v H'
theorem scWhere : FnScope ["_law_state", "_law_item"] ["_law_state", "_law_item"] (defScope sWhere) := ⟨rfl, rfl, rfl, by decide +kernel, rfl, by decide +kernel, by decide +kernel⟩
theorem ok_where {f : Addr} {fd : FuncData} (F : Fun K "_law_where" "_law_where" sWhere f fd) (B : Bt mg) : FnOk P w K mg base CX0 1 f fd ["_law_state", "_law_item"] (spWhere K) := by
  refine F.ok scWhere (fun vs H Q E h => ?_) (fun cdv A outer s H vs Q E hr h => ?_)
  · obtain ⟨x, y, d, p, q, rfl, _⟩ := h
    rfl
  · obtain ⟨x, y, d, p, q, rfl, hx, hy, hw, k⟩ := h
    obtain ⟨a, v1, v2, v3, rfl, sa, d1, d2, d3⟩ := st_at hx
    obtain ⟨b, rfl, sb⟩ := it_at hy
    obtain ⟨vr, hr1, dr⟩ := row_at d1 d2 d3 p.1
    obtain ⟨ar, xr, rfl, sr, dlr, lr⟩ := pls_at dr
    obtain ⟨vq, hq1, hq2⟩ := DpAll.at2 dlr (i := p.2) (d := plD q) (by rw [List.getElem?_map]; unfold whereD at hw; rw [hw]; rfl)
    obtain ⟨z, z1, z2, z3⟩ := kd_find p.1
    refine ⟨_, pss_one (ps_ret (pe_ix ix_tup (pe_ix ix_tup (pv 0) (pe_bm PySem.F.plainAttrs_list PySem.F.slot_list_index PySem.F.type_list_index mt_index (pe_lst (pa_cons pe_str (pa_cons pe_str (pa_cons pe_str pa_nil)))) (pa_cons (pe_ix ix_tup (pv 1) pe_int (fun _ _ => rfl)) pa_nil)) (fun _ _ => rfl)) (pe_ix ix_tup (pv 1) pe_int (fun _ _ => rfl)) (fun _ _ => rfl))), ?_⟩
    refine ⟨_, rfl, (by show 3 ≤ sizeLine; decide), fun L hL => ?_⟩
    have e1 := same_upd (o := HO.lst [V.str ("box" : Str), .str ("thing" : Str), .str ("seal" : Str)]) hL
    refine ⟨.inl ⟨rfl, _, SqL.of upd_same⟩, _, rfl, b, _, 0, _, rfl, rfl, SqT.same e1 sb, rfl, L, kdL, _, p.1.ix, z, rfl, rfl, SqL.of upd_same, rfl, rfl, z1, z2, z3, a, _, _, _, rfl, rfl, SqT.same e1 sa, hr1, _, rfl, b, _, 1, _, rfl, rfl, SqT.same e1 sb, rfl, ar, xr, _, vq, rfl, rfl, SqT.same e1 sr, atI_nat hq1, ?_⟩
    exact k _ _ e1 (Dp.same e1 _ _ hq2)
theorem nl_updL {H : Hp} {D : Addr} {xs ys : List V} (hD : H D = some (.lst xs)) : Nl H (L2.upd H D (.lst ys)) := fun a o h n _ => by
  rw [upd_ne (ne_of h hD (n _))]
  exact h
theorem DpAll.set {H : Hp} : ∀ {vs : List V} {ds : List PyData} {i : Nat} {x : V} {e : PyData}, DpAll K H vs ds → Dp K H x e → DpAll K H (vs.set i x) (ds.set i e)
  | _, _, _, _, _, .nil, _ => .nil
  | _, _, 0, _, _, .cons _ t, h => .cons h t
  | _, _, i + 1, _, _, .cons h0 t, h => .cons h0 (DpAll.set (i := i) t h)
/-! ### _law_set -/
def rows3 (d : Hs) : List (List Pl) := [d.bs, d.ts, d.ss]
def spSet (K : PySem.W.Frag) : Sp := fun vs H Q _ => ∃ (x y z : V) (d : Hs) (p : It) (q : Pl), vs = [x, y, z] ∧ Dp K H x (stD d) ∧ Dp K H y (itP p) ∧ Dp K H z (plD q) ∧ p.2 < (rowOf d p.1).length ∧ ∀ v H', Same H H' → StF K H' v (setD d p q) → Q v H'
theorem scSet : FnScope ["_law_state", "_law_item", "_law_place", "_law_rows", "_law_row"] ["_law_state", "_law_item", "_law_place"] (defScope sSet) := ⟨rfl, rfl, rfl, by decide +kernel, rfl, by decide +kernel, by decide +kernel⟩
theorem rows_set (d : Hs) (p : It) (q : Pl) : rows3 (setD d p q) = (rows3 d).set p.1.ix ((rowOf d p.1).set p.2 q) := by
  obtain ⟨k, n⟩ := p
  cases k <;> rfl
theorem rows_get (d : Hs) (k : Kd) : (rows3 d)[k.ix]? = some (rowOf d k) := by cases k <;> rfl
theorem ok_set {f : Addr} {fd : FuncData} (F : Fun K "_law_set" "_law_set" sSet f fd) (B : Bt mg) : FnOk P w K mg base CX0 1 f fd ["_law_state", "_law_item", "_law_place"] (spSet K) := by
  refine F.ok scSet (fun vs H Q E h => ?_) (fun cdv A outer s H vs Q E hr h => ?_)
  · obtain ⟨x, y, z, d, p, q, rfl, _⟩ := h
    rfl
  · obtain ⟨x, y, z, d, p, q, rfl, hx, hy, hz, hw, k⟩ := h
    obtain ⟨a, v1, v2, v3, rfl, sa, d1, d2, d3⟩ := st_at hx
    obtain ⟨b, rfl, sb⟩ := it_at hy
    obtain ⟨zk, z1, z2, z3⟩ := kd_find p.1
    refine ⟨_, pss_cons (ps_setLc (i := 3) (own := [("_law_row", 4)]) (g := gName 4) (tt := tYes) (te := tCB (fun xs H Q => ∃ p ys, xs = [V.ref p] ∧ (SqL K H p ys ∨ SqT K H p ys) ∧ ∀ l, H l = none → Q (.ref l) (upd H l (.lst ys))) (tCons (tVar 4) tNil)) rfl scSet.nd rfl rfl (sw_true rfl rfl rfl (by decide +kernel)) (pi_tup (pv 0))
        (blkOk_by (own := [("_law_row", 4)]) (N := ["_law_state", "_law_item", "_law_place", "_law_rows", "_law_row"]) (sc := defScope sSet) (by decide +kernel)) (fun _ _ _ _ _ => pg_name (i := 4) scSet.nd rfl (.inl rfl)) (fun _ _ _ _ _ => pts_nil)
        (fun _ _ _ _ _ => pe_callTy call_list_of (by rfl) B.lst (by decide +kernel) (pa_cons (pv 4) pa_nil)))
      (pss_cons (ps_asg (pv 2) (pg_sub (pe_ix ix_list (pv 3) (pe_bm PySem.F.plainAttrs_list PySem.F.slot_list_index PySem.F.type_list_index mt_index (pe_lst (pa_cons pe_str (pa_cons pe_str (pa_cons pe_str pa_nil)))) (pa_cons (pe_ix ix_tup (pv 1) pe_int (fun _ _ => rfl)) pa_nil)) (fun _ _ => rfl)) (pe_ix ix_tup (pv 1) pe_int (fun _ _ => rfl)) set_list))
      (pss_one (ps_ret (pe_callTy call_tuple_of (by rfl) B.tup (by decide +kernel) (pa_cons (pe_lc (own := [("_law_row", 4)]) (g := gName 4) (tt := tYes) (te := tCB (fun xs H Q => ∃ p ys, xs = [V.ref p] ∧ SqL K H p ys ∧ ∀ (l : Addr) (o : Obj), H l = none → o.cls = .type "tuple" → o.dict = none → Q (V.ref l) (upd H l (.frz o (.tup ys)))) (tCons (tVar 4) tNil)) rfl scSet.nd (pi_list (pv 3))
        (blkOk_by (own := [("_law_row", 4)]) (N := ["_law_state", "_law_item", "_law_place", "_law_rows", "_law_row"]) (sc := defScope sSet) (by decide +kernel)) (fun _ _ _ _ _ => pg_name (i := 4) scSet.nd rfl (.inl rfl)) (fun _ _ _ _ _ => pts_nil)
        (fun _ _ _ _ _ => pe_callTy call_tupleF (by rfl) B.tup (by decide +kernel) (pa_cons (pv 4) pa_nil))) pa_nil))))), ?_⟩
    have ilen : ∀ (j : Nat) (v : V), [v1, v2, v3][j]? = some v → ∃ l, (rows3 d)[j]? = some l ∧ Dp K H v (plsD l) := fun j v e => by
      match j, e with
      | 0, e => cases e; exact ⟨_, rfl, d1⟩
      | 1, e => cases e; exact ⟨_, rfl, d2⟩
      | 2, e => cases e; exact ⟨_, rfl, d3⟩
      | j + 3, e => simp at e
    -- rows = [list(row) for row in state]
    refine ⟨_, rfl, a, rfl, ⟨_, sa⟩, fun Dl hD => ?_⟩
    have e0 : ∀ (H' : Hp) (o : HO), Same H H' → Same H (L2.upd H' Dl o) := fun H' o e c u h => by rw [upd_ne (ne_of_none h hD)]; exact e c u h
    refine lc_tup (K := K) (a := a) (xs := [v1, v2, v3]) (fun i H' => Same H H' ∧ ∃ ls : List (Addr × List V), H' Dl = some (.lst (ls.map fun x => V.ref x.1)) ∧ ls.length = i ∧
        (∀ (j : Nat) x, ls[j]? = some x → H' x.1 = some (.lst x.2) ∧ x.1 ≠ Dl ∧ H x.1 = none ∧ ∃ l, (rows3 d)[j]? = some l ∧ DpAll K H' x.2 (l.map plD)) ∧ (∀ (j k : Nat) x y, ls[j]? = some x → ls[k]? = some y → j ≠ k → x.1 ≠ y.1))
      ⟨same_upd hD, [], upd_same, rfl, fun j x e => by simp at e, fun j k x y e => by simp at e⟩ (fun i H' _ ⟨e, _⟩ => SqT.same e sa) ?_ ?_
    · rintro i y H' hi ⟨e, ls, hls, ll, hall, hdis⟩
      obtain ⟨l, hl1, hl2⟩ := ilen i y hi
      obtain ⟨ar, xr, rfl, sr, dr, lr⟩ := pls_at hl2
      refine ⟨wipe_one _ 4 _, yes_lc ?_⟩
      refine ⟨_, rfl, ar, xr, rfl, .inr (SqT.same e sr), fun pn hpn => ?_⟩
      have nDp : Dl ≠ pn := ne_of_none hls hpn
      have f1 := same_upd (o := HO.lst xr) hpn
      have hls1 := f1 _ _ hls
      have i3 : i < 3 := (List.getElem?_eq_some_iff.mp hi).1
      refine ⟨ls.map fun x => V.ref x.1, hls1, by rw [sizeLine_eq, List.length_map]; omega, e0 _ _ (e.trans f1), ls ++ [(pn, xr)], ?_, by rw [List.length_append, ll]; rfl, fun j x hx => ?_, fun j k x y hx hy hjk => ?_⟩
      · rw [List.map_append]
        exact upd_same
      · have tp := tp_lst (o := HO.lst ((ls.map fun x => V.ref x.1) ++ [V.ref pn])) hls1
        by_cases c : j < ls.length
        · rw [List.getElem?_append_left c] at hx
          obtain ⟨g1, g2, g3, l', g4, g5⟩ := hall j x hx
          exact ⟨by rw [upd_ne g2]; exact f1 _ _ g1, g2, g3, l', g4, Dp.tps tp _ _ (noLs_map _ noL_pl _) (Dp.sames f1 _ _ g5)⟩
        · have ej : j = ls.length := by
            have := (List.getElem?_eq_some_iff.mp hx).1
            simp at this
            omega
          subst ej
          rw [List.getElem?_append_right (Nat.le_refl _), Nat.sub_self] at hx
          have ex : (pn, xr) = x := by simpa using hx
          subst ex
          refine ⟨by rw [upd_ne nDp.symm]; exact upd_same, nDp.symm, ?_, l, by rw [ll]; exact hl1, Dp.tps tp _ _ (noLs_map _ noL_pl _) (Dp.sames (e.trans f1) _ _ dr)⟩
          cases hq : H pn with
          | none => rfl
          | some u =>
            have := e _ _ hq
            rw [hpn] at this
            cases this
      · have old : ∀ (j : Nat) x, ls[j]? = some x → x.1 ≠ pn := fun j x hx => ne_of_none (hall j x hx).1 hpn
        have last : ∀ (j : Nat) (x : Addr × List V), (ls ++ [(pn, xr)])[j]? = some x → (ls[j]? = some x) ∨ (j = ls.length ∧ x.1 = pn) := fun j x hx => by
          by_cases c : j < ls.length
          · rw [List.getElem?_append_left c] at hx
            exact .inl hx
          · have ej : j = ls.length := by
              have := (List.getElem?_eq_some_iff.mp hx).1
              simp at this
              omega
            subst ej
            rw [List.getElem?_append_right (Nat.le_refl _), Nat.sub_self] at hx
            have ex : (pn, xr) = x := by simpa using hx
            exact .inr ⟨rfl, by rw [← ex]⟩
        rcases last j x hx with h1 | ⟨h1, h1'⟩ <;> rcases last k y hy with h2 | ⟨h2, h2'⟩
        · exact hdis j k x y h1 h2 hjk
        · rw [h2']
          exact old j x h1
        · rw [h1']
          exact (old k y h2).symm
        · exact absurd (h1.trans h2.symm) hjk
    rintro H3 ⟨e3, ls, hls, ll, hall, hdis⟩
    have ll : ls.length = 3 := ll
    -- rows[..][..] = place
    obtain ⟨⟨pr, lr⟩, hpr⟩ : ∃ x, ls[p.1.ix]? = some x := ⟨_, List.getElem?_eq_getElem (by rw [ll]; cases p.1 <;> decide)⟩
    obtain ⟨g1, g2, g3, l, g4, g5⟩ := hall _ _ hpr
    rw [rows_get] at g4
    cases g4
    have lrl : lr.length = (rowOf d p.1).length := by rw [DpAll.len g5, List.length_map]
    refine ⟨_, rfl, _, rfl, (by show 3 ≤ sizeLine; decide), fun L hL => ?_⟩
    have e4 := same_upd (o := HO.lst [V.str ("box" : Str), .str ("thing" : Str), .str ("seal" : Str)]) hL
    have sb4 := SqT.same (e3.trans e4) sb
    have hls4 := e4 _ _ hls
    have g14 := e4 _ _ g1
    refine ⟨.inl ⟨rfl, _, SqL.of upd_same⟩, _, rfl, b, _, 0, _, rfl, rfl, sb4, rfl, L, kdL, _, p.1.ix, zk, rfl, rfl, SqL.of upd_same, rfl, rfl, z1, z2, z3, Dl, _, _, V.ref pr, rfl, rfl, SqL.of hls4, atI_nat (by rw [List.getElem?_map, hpr]; rfl), _, rfl, b, _, 1, _, rfl, rfl, sb4, rfl, pr, lr, _, p.2, rfl, rfl, g14, ?_, ?_⟩
    · unfold ixN
      rw [if_pos (by omega), if_pos (by omega)]
      rfl
    have nl5 := nl_updL (ys := lr.set p.2 z) g14
    have e5 : Same H (L2.upd (L2.upd H3 L (.lst [V.str ("box" : Str), .str ("thing" : Str), .str ("seal" : Str)])) pr (.lst (lr.set p.2 z))) := fun c u hc => by
      rw [upd_ne (ne_of_none hc g3)]
      exact e4 _ _ (e3 _ _ hc)
    have hls5 : (L2.upd (L2.upd H3 L (.lst [V.str ("box" : Str), .str ("thing" : Str), .str ("seal" : Str)])) pr (.lst (lr.set p.2 z))) Dl = some (.lst (ls.map fun x => V.ref x.1)) := by rw [upd_ne g2.symm]; exact hls4
    have h5 : ∀ (j : Nat) x, ls[j]? = some x → ∃ ys l, (L2.upd (L2.upd H3 L (.lst [V.str ("box" : Str), .str ("thing" : Str), .str ("seal" : Str)])) pr (.lst (lr.set p.2 z))) x.1 = some (.lst ys) ∧ (rows3 (setD d p q))[j]? = some l ∧ DpAll K (L2.upd (L2.upd H3 L (.lst [V.str ("box" : Str), .str ("thing" : Str), .str ("seal" : Str)])) pr (.lst (lr.set p.2 z))) ys (l.map plD) := fun j x hx => by
      have trans5 : ∀ (vs : List V) (m : List Pl), DpAll K H3 vs (m.map plD) → DpAll K (L2.upd (L2.upd H3 L (.lst [V.str ("box" : Str), .str ("thing" : Str), .str ("seal" : Str)])) pr (.lst (lr.set p.2 z))) vs (m.map plD) := fun vs m hm => Dp.nls nl5 _ _ (noLs_map _ noL_pl _) (Dp.sames e4 _ _ hm)
      by_cases c : j = p.1.ix
      · subst c
        rw [hpr] at hx
        cases hx
        refine ⟨_, (rowOf d p.1).set p.2 q, upd_same, ?_, ?_⟩
        · rw [rows_set, List.getElem?_set_self (List.getElem?_eq_some_iff.mp (rows_get d p.1)).1]
        · rw [List.map_set]
          exact DpAll.set (trans5 _ _ g5) (Dp.same e5 _ _ hz)
      · obtain ⟨k1, k2, k3, l', k4, k5⟩ := hall j x hx
        refine ⟨x.2, l', ?_, ?_, trans5 _ _ k5⟩
        · rw [upd_ne (hdis j p.1.ix x (pr, lr) hx hpr c)]
          exact e4 _ _ k1
        · rw [rows_set, List.getElem?_set_ne (fun z => c z.symm)]
          exact k4
    generalize L2.upd (L2.upd H3 L (.lst [V.str ("box" : Str), .str ("thing" : Str), .str ("seal" : Str)])) pr (.lst (lr.set p.2 z)) = H5 at *
    -- tuple([tuple(row) for row in rows])
    refine ⟨_, rfl, Dl, rfl, ⟨_, SqL.of hls5⟩, fun D2 hD2 => ?_⟩
    have e02 : ∀ (H' : Hp) (o : HO), Same H5 H' → Same H5 (L2.upd H' D2 o) := fun H' o e c u h => by rw [upd_ne (ne_of_none h hD2)]; exact e c u h
    refine lc_list (K := K) (a := Dl) (xs := ls.map fun x => V.ref x.1) (fun i H' => Same H5 H' ∧ ∃ ts : List V, H' D2 = some (.lst ts) ∧ DpAll K H' ts (((rows3 (setD d p q)).take i).map plsD) ∧ ts.length = i ∧ ∀ v ∈ ts, Fv H' v)
      ⟨same_upd hD2, [], upd_same, .nil, rfl, fun v z => nomatch z⟩ (fun i H' _ ⟨e, _⟩ => SqL.of (e _ _ hls5)) ?_ ?_
    · rintro i y H' hi ⟨e, ts, hts, dts, lts, fts⟩
      obtain ⟨x, hx⟩ : ∃ x, ls[i]? = some x := by
        rw [List.getElem?_map] at hi
        cases hq : ls[i]? with
        | none => rw [hq] at hi; cases hi
        | some x => exact ⟨x, rfl⟩
      have ey : V.ref x.1 = y := by
        rw [List.getElem?_map, hx] at hi
        exact Option.some.inj hi
      subst ey
      obtain ⟨ys, l, m1, m2, m3⟩ := h5 i x hx
      have i3 : i < 3 := by rw [← ll]; exact (List.getElem?_eq_some_iff.mp hx).1
      refine ⟨wipe_one _ 4 _, yes_lc ?_⟩
      refine ⟨_, rfl, x.1, ys, rfl, SqL.of (e _ _ m1), fun t o ht oc od => ?_⟩
      have f1 := same_upd (o := HO.frz o (.tup ys)) ht
      have hts1 := f1 _ _ hts
      have tp := tp_lst (o := HO.lst (ts ++ [V.ref t])) hts1
      refine ⟨ts, hts1, by rw [sizeLine_eq]; omega, e02 _ _ (e.trans f1), ts ++ [V.ref t], upd_same, ?_, by rw [List.length_append, lts]; rfl, ?_⟩
      rotate_left
      · intro v hv
        have nlx := nl_updL (ys := ts ++ [V.ref t]) hts1
        rcases List.mem_append.mp hv with hv | hv
        · exact ((fts v hv).nl fun a o h _ _ => f1 a o h).nl nlx
        · have ev : v = .ref t := by simpa using hv
          subst ev
          exact Fv.nl nlx ⟨t, ys, rfl, o, upd_same, oc, od⟩
      have et : ((rows3 (setD d p q)).take (i + 1)).map plsD = ((rows3 (setD d p q)).take i).map plsD ++ [plsD l] := by
        rw [List.take_add_one, m2]
        simp
      rw [et]
      refine DpAll.app (Dp.tps tp _ _ (noLs_map _ noL_pls _) (Dp.sames f1 _ _ dts)) (.cons (Dp.tp tp _ _ (noL_pls _) ?_) .nil)
      exact .tup (Fz.sq ⟨o, upd_same, oc, od⟩) (Dp.sames (e.trans f1) _ _ m3)
    · rintro H6 ⟨e6, ts, hts, dts, lts, fts⟩
      rw [List.length_map, ll] at dts
      refine ⟨D2, ts, rfl, .inl ⟨SqL.of hts, fun r hr => ?_⟩⟩
      have l3 : ts.length = 3 := by rw [lts, List.length_map, ll]
      obtain ⟨t1, t2, t3, et⟩ : ∃ t1 t2 t3, ts = [t1, t2, t3] := by
        match ts, l3 with
        | [t1, t2, t3], _ => exact ⟨t1, t2, t3, rfl⟩
      subst et
      have dd := Dp.sames (same_upd (o := HO.tup [t1, t2, t3]) hr) _ _ dts
      cases dd with
      | cons x1 dd =>
        cases dd with
        | cons x2 dd =>
          cases dd with
          | cons x3 dd =>
            exact k _ _ ((e5.trans e6).trans (same_upd hr)) ⟨_, t1, t2, t3, rfl, SqT.of upd_same, x1, x2, x3, (fts t3 (by simp)).nl fun a o h _ _ => same_upd hr a o h⟩
end
end Kw


set_option Elab.async false
set_option linter.all false
set_option maxRecDepth 100000
set_option maxHeartbeats 4000000
namespace Kw
open PySem PySem.Spec PyProof.Rows L2
/-! ### deeds -/
inductive Dd where
  | give (h : Nat) (p : It) (o : Nat)
  | put (h : Nat) (p : It) (b : Nat)
  | take (h : Nat) (p : It) (b : Nat)
  | lock (h b s : Nat)
  | brk (h b : Nat)
def Dd.word : Dd → Str
  | .give .. => "give"
  | .put .. => "put"
  | .take .. => "take"
  | .lock .. => "seal"
  | .brk .. => "break"
def Dd.hand : Dd → Nat
  | .give h _ _ => h
  | .put h _ _ => h
  | .take h _ _ => h
  | .lock h _ _ => h
  | .brk h _ => h
def Dd.tail : Dd → List PyData
  | .give _ p o => [itP p, .int (o : Nat)]
  | .put _ p b => [itP p, .int (b : Nat)]
  | .take _ p b => [itP p, .int (b : Nat)]
  | .lock _ b s => [.int (b : Nat), .int (s : Nat)]
  | .brk _ b => [.int (b : Nat)]
def ddD (e : Dd) : PyData := .tuple (.str e.word :: .int (e.hand : Nat) :: e.tail)
/-- what the deed names is there -/
def Kn (d : Hs) : Dd → Prop
  | .give _ p _ => (whereD d p).isSome
  | .put _ p b => (whereD d p).isSome ∧ b < d.bs.length
  | .take _ p b => (whereD d p).isSome ∧ b < d.bs.length
  | .lock _ b s => b < d.bs.length ∧ s < d.ss.length
  | .brk _ b => b < d.bs.length
def barOf (d : Hs) : Dd → Str
  | .give h p _ => if whereD d p = some (.hand, (h : Int)) then "" else "NotHeld"
  | .put h p b => if whereD d (.box, b) = some (.hand, (h : Int)) then (if whereD d p = some (.hand, (h : Int)) then (if (.box, (b : Int)) ∈ d.ss then "IsSealed" else "") else "NotHeld") else "NotHeld"
  | .take h p b => if whereD d (.box, b) = some (.hand, (h : Int)) then (if (.box, (b : Int)) ∈ d.ss then "IsSealed" else if whereD d p = some (.box, (b : Int)) then "" else "NotInside") else "NotHeld"
  | .lock h b s => if whereD d (.box, b) = some (.hand, (h : Int)) then (if d.ss[s]? = some (.hand, (h : Int)) then (if (.box, (b : Int)) ∈ d.ss then "IsSealed" else "") else "NotHeld") else "NotHeld"
  | .brk h b => if whereD d (.box, b) = some (.hand, (h : Int)) then (if (.box, (b : Int)) ∈ d.ss then "" else "NotSealed") else "NotHeld"
section
variable {P : Program} {w : World} {K : PySem.W.Frag} {mg : Str → Option Value} {base : Heap}
theorem wNe {σ : L2.St} {H : Hp} {Q : Bool → Hp → Prop} {A : TE} {x y z : V} {d : Hs} {p : It} {q q2 : Pl} {j : Nat} (h0 : σ[0]? = some (some x)) (hx : Dp K H x (stD d)) (hA : ∀ R : V → Hp → Prop, R y H → A σ H R) (hy : Dp K H y (itP p)) (hw : whereD d p = some q) (hj : σ[j]? = some (some z)) (hz : Dp K H z (plD q2))
    (k : ∀ H', Same H H' → Q (!decide (q = q2)) H') : tTest (tOp (rNeD K) (tCall (spWhere K) [] E0 (tCons (tVar 0) (tCons A tNil))) (tVar j)) σ H Q :=
  ⟨_, h0, hA _ ⟨x, y, d, p, q, rfl, hx, hy, hw, fun v H' e dv => ⟨_, hj, plD q, plD q2, dv, Dp.same e _ _ hz, shaped_pl _, shaped_pl _, _, rfl, by rw [eqv_pl]; exact k H' e⟩⟩⟩
theorem wEq {σ : L2.St} {H : Hp} {Q : Bool → Hp → Prop} {A : TE} {x y z : V} {d : Hs} {p : It} {q q2 : Pl} {j : Nat} (h0 : σ[0]? = some (some x)) (hx : Dp K H x (stD d)) (hA : ∀ R : V → Hp → Prop, R y H → A σ H R) (hy : Dp K H y (itP p)) (hw : whereD d p = some q) (hj : σ[j]? = some (some z)) (hz : Dp K H z (plD q2))
    (k : ∀ H', Same H H' → Q (decide (q = q2)) H') : tTest (tOp (rEqD K) (tCall (spWhere K) [] E0 (tCons (tVar 0) (tCons A tNil))) (tVar j)) σ H Q :=
  ⟨_, h0, hA _ ⟨x, y, d, p, q, rfl, hx, hy, hw, fun v H' e dv => ⟨_, hj, plD q, plD q2, dv, Dp.same e _ _ hz, shaped_pl _, shaped_pl _, _, rfl, by rw [eqv_pl]; exact k H' e⟩⟩⟩
theorem dd_at {H : Hp} {y : V} {e : Dd} (h : Dp K H y (ddD e)) : ∃ a vs, y = .ref a ∧ SqT K H a (.str e.word :: .int (e.hand : Nat) :: vs) ∧ DpAll K H vs e.tail := by
  cases h with
  | tup hs ha =>
    cases ha with
    | cons h1 r =>
      cases r with
      | cons h2 r =>
        cases h1
        cases h2
        exact ⟨_, _, rfl, hs, r⟩
theorem where_box {d : Hs} {b : Nat} (h : b < d.bs.length) : ∃ q, whereD d (.box, b) = some q := ⟨_, List.getElem?_eq_getElem h⟩
theorem anyIn (p : Pl) (l : List Pl) : (l.any fun q => decide (q = p)) = decide (p ∈ l) := by
  induction l with
  | nil => simp
  | cons a l ih =>
    rw [List.any_cons, ih]
    by_cases h1 : a = p <;> by_cases h2 : p ∈ l <;> simp [h1, h2, eq_comm]
    · intro h3; exact h1 h3.symm
def spBar (K : PySem.W.Frag) : Sp := fun vs H Q _ => ∃ (x y : V) (d : Hs) (e : Dd), vs = [x, y] ∧ Dp K H x (stD d) ∧ Dp K H y (ddD e) ∧ Kn d e ∧ ∀ H', Same H H' → Q (.str (barOf d e)) H'
theorem scBar : FnScope ["_law_state", "_law_deed", "_law_word", "_law_hand", "_law_mine", "_law_target"] ["_law_state", "_law_deed"] (defScope sBar) := ⟨rfl, rfl, rfl, by decide +kernel, rfl, by decide +kernel, by decide +kernel⟩
theorem ok_bar {f g : Addr} {fd fdg : FuncData} (F : Fun K "_law_bar" "_law_bar" sBar f fd) (B : Bt mg) (G : FnOk P w K mg base CX0 1 g fdg ["_law_state", "_law_item"] (spWhere K)) (mG : mg "_law_where" = some (.ref g)) (kG : PySem.W.keepIn K (.ref g) = true) (bG : Binds K fdg ["_law_state", "_law_item"] []) :
    FnOk P w K mg base CX0 2 f fd ["_law_state", "_law_deed"] (spBar K) := by
  refine F.ok scBar (fun vs H Q E h => ?_) (fun cdv A outer s H vs Q E hr h => ?_)
  · obtain ⟨x, y, d, e, rfl, _⟩ := h
    rfl
  · obtain ⟨x, y, d, e, rfl, hx, hy, hk, k⟩ := h
    have hu : (cxOf CX0 P w K mg base ["_law_state", "_law_deed", "_law_word", "_law_hand", "_law_mine", "_law_target"] "_law_bar" (defScope sBar) f cdv A outer s H E).nox.A.units + 64 < cLine := by have := hr.un; show (A.deeper _).units + 64 < cLine; omega
    have hu65 : (cxOf CX0 P w K mg base ["_law_state", "_law_deed", "_law_word", "_law_hand", "_law_mine", "_law_target"] "_law_bar" (defScope sBar) f cdv A outer s H E).nox.A.units + 65 < cLine := by have := hr.un; show (A.deeper _).units + 65 < cLine; omega
    refine ⟨_, pss_cons (ps_asg (pe_slice sl_tupA (pv 1) po_none (po_some pe_int)) (pg_tup (by rfl) (pgs_cons (pg_name (i := 2) scBar.nd rfl (.inl rfl)) (pgs_cons (pg_name (i := 3) scBar.nd rfl (.inl rfl)) pgs_nil))))
      (pss_cons (ps_par (i := 4) (j := 5) rfl scBar.nd rfl rfl (by decide) rfl rfl (pa_cons (pe_tup (pa_cons pe_str (pa_cons (pv 3) pa_nil))) (pa_cons (pe_tup (pa_cons pe_str (pa_cons (pe_ifExp (pt_cmpR op_in_seq (pv 2) (pe_tup (pa_cons pe_str (pa_cons pe_str pa_nil))) (by rfl)) (pe_ix ix_tup (pv 1) pe_int (fun _ _ => rfl)) (pe_ix ix_tup (pv 1) pe_int (fun _ _ => rfl))) pa_nil))) pa_nil)) (by rfl))
      (pss_cons (ps_if (pt_cmpR op_eq (pv 2) pe_str (nomark _)) (pss_one (ps_ret (pe_ifExp (pt_cmpR (op_eqD hu) (pe_call G hr rfl mG kG bG .nil pass0 (pa_cons (pv 0) (pa_cons (pe_ix ix_tup (pv 1) pe_int (fun _ _ => rfl)) pa_nil))) (pv 4) (nomark _)) pe_str pe_str))) pss_nil)
      (pss_cons (ps_if (PW.pt (pw_or (pt_cmpR (op_neD hu) (pe_call G hr rfl mG kG bG .nil pass0 (pa_cons (pv 0) (pa_cons (pv 5) pa_nil))) (pv 4) (nomark _)) (pw_or1 (PW.pt (pw_and (pt_cmpR op_eq (pv 2) pe_str (nomark _)) (pw_and1 (pt_cmpR (op_neD hu) (pe_call G hr rfl mG kG bG .nil pass0 (pa_cons (pv 0) (pa_cons (pe_ix ix_tup (pv 1) pe_int (fun _ _ => rfl)) pa_nil))) (pv 4) (nomark _))))))))
        (pss_one (ps_ret pe_str)) pss_nil)
      (pss_cons (ps_if (PW.pt (pw_and (pt_cmpR op_eq (pv 2) pe_str (nomark _)) (pw_and1 (pt_cmpR (op_neD hu) (pe_ix ix_tup (pe_ix ix_tup (pv 0) pe_int (fun _ _ => rfl)) (pe_ix ix_tup (pv 1) pe_int (fun _ _ => rfl)) (fun _ _ => rfl)) (pv 4) (nomark _))))) (pss_one (ps_ret pe_str)) pss_nil)
      (pss_cons (ps_if (pt_cmpR op_ne (pe_cmpR (op_inDT hu65) (pv 5) (pe_ix ix_tup (pv 0) pe_int (fun _ _ => rfl)) (by rfl)) (pe_cmpR op_eq (pv 2) pe_str (nomark _)) (nomark _)) (pss_one (ps_ret (pe_ifExp (pt_cmpR op_eq (pv 2) pe_str (nomark _)) pe_str pe_str))) pss_nil)
      (pss_one (ps_ret (pe_ifExp (PW.pt (pw_and (pt_cmpR op_eq (pv 2) pe_str (nomark _)) (pw_and1 (pt_cmpR (op_neD hu) (pe_call G hr rfl mG kG bG .nil pass0 (pa_cons (pv 0) (pa_cons (pe_ix ix_tup (pv 1) pe_int (fun _ _ => rfl)) pa_nil))) (pv 5) (nomark _))))) pe_str pe_str)))))))), ?_⟩
    obtain ⟨a, v1, v2, v3, rfl, sa, d1, d2, d3⟩ := st_at hx
    obtain ⟨yd, vs, rfl, sy, dvs⟩ := dd_at hy
    have lvs : 1 ≤ vs.length := by
      rw [DpAll.len dvs]
      cases e <;> exact Nat.succ_le_succ (Nat.zero_le _)
    refine ⟨_, rfl, _, rfl, yd, _, rfl, sy, fun hw => ?_, fun _ t0 ht0 => ?_⟩
    · exfalso
      have h1 := hw.2
      rw [show (some (2 : Int)) = some ((2 : Nat) : Int) from rfl, HT.sIx_nat] at h1
      simp only [List.length_cons] at h1
      omega
    have ecut : cutV (V.str e.word :: .int (e.hand : Nat) :: vs) none (some 2) = [V.str e.word, .int (e.hand : Nat)] := by
      unfold cutV
      rw [HT.sIx_none, show (some (2 : Int)) = some ((2 : Nat) : Int) from rfl, HT.sIx_nat, List.drop_zero, Nat.sub_zero]
      rw [Nat.min_eq_left (by simp only [List.length_cons]; omega)]
      rfl
    rw [ecut]
    have f1 := same_upd (o := HO.tup [V.str e.word, .int (e.hand : Nat)]) ht0
    refine ⟨t0, _, rfl, SqT.of upd_same, rfl, _, _, rfl, _, _, rfl, rfl, ?_⟩
    refine ⟨_, rfl, (by show 2 ≤ sizeLine; decide), fun m hm => ?_⟩
    have f2 := same_upd (o := HO.tup [V.str ("hand" : Str), .int (e.hand : Nat)]) hm
    refine ⟨_, rfl, (by show 2 ≤ sizeLine; decide), fun w2 hw2 => ?_⟩
    have f3 := same_upd (o := HO.tup [V.str ("seal" : Str), .str ("break" : Str)]) hw2
    have e3 := (f1.trans f2).trans f3
    have cm := f3 _ _ (upd_same (H := L2.upd H t0 (HO.tup [V.str e.word, .int (e.hand : Nat)])) (a := m) (o := HO.tup [V.str ("hand" : Str), .int (e.hand : Nat)]))
    refine ⟨w2, [.str ("seal" : Str), .str ("break" : Str)], rfl, .inr (SqT.of upd_same), rfl, rfl, _, rfl, ?_⟩
    generalize L2.upd (L2.upd (L2.upd H t0 (HO.tup [V.str e.word, .int (e.hand : Nat)])) m (HO.tup [V.str ("hand" : Str), .int (e.hand : Nat)])) w2 (HO.tup [V.str ("seal" : Str), .str ("break" : Str)]) = H3 at *
    have sy3 := SqT.same e3 sy
    cases e with
    | give h p o =>
      cases dvs with
      | cons dp r =>
      cases r with
      | cons do_ r =>
      cases r
      cases do_
      dsimp only [Dd.word, Dd.hand] at *
      refine iteFe (by decide +kernel) ⟨_, rfl, yd, _, 3, _, rfl, rfl, sy3, rfl, (by show 2 ≤ sizeLine; decide), fun t ht => ⟨_, _, rfl, ?_⟩⟩
      have f4 := same_upd (o := HO.tup [V.str ("box" : Str), .int (o : Nat)]) ht
      have ct := upd_same (H := H3) (a := t) (o := HO.tup [V.str ("box" : Str), .int (o : Nat)])
      generalize L2.upd H3 t (HO.tup [V.str ("box" : Str), .int (o : Nat)]) = H4 at *
      have e4 := e3.trans f4
      have dpm : ∀ H', Same H4 H' → Dp K H' (.ref m) (plD (.hand, (h : Int))) := fun H' e => .tup (SqT.of (e _ _ (f4 _ _ cm))) (.cons (.str _) (.cons (.int _) .nil))
      have dpt : ∀ H', Same H4 H' → Dp K H' (.ref t) (plD (.box, (o : Int))) := fun H' e => .tup (SqT.of (e _ _ ct)) (.cons (.str _) (.cons (.int _) .nil))
      have dpi : ∀ H', Same H4 H' → Dp K H' (.ref t) (itP (.box, o)) := fun H' e => .tup (SqT.of (e _ _ ct)) (.cons (.str _) (.cons (.int _) .nil))
      have z4 : Same H4 H4 := Same.refl _
      refine ⟨_, rfl, rfl, _, rfl, iteTe (by decide +kernel) ?_⟩
      obtain ⟨q, hq⟩ := Option.isSome_iff_exists.mp hk
      refine wEq rfl (Dp.same e4 _ _ hx) (fun R r => ⟨_, rfl, yd, _, 2, _, rfl, rfl, SqT.same f4 sy3, rfl, r⟩) (Dp.same e4 _ _ dp) hq rfl (dpm _ z4) fun H5 e5 => ?_
      have kk := k _ (e4.trans e5)
      simp only [barOf, hq] at kk
      by_cases c : q = (.hand, (h : Int))
      · rw [decide_eq_true c]
        rw [if_pos (congrArg some c)] at kk
        exact iteT kk
      · rw [decide_eq_false c]
        rw [if_neg (fun z => c (Option.some.inj z))] at kk
        exact iteF kk
    | put h p b =>
      obtain ⟨hk1, hb⟩ := hk
      cases dvs with
      | cons dp r =>
      cases r with
      | cons do_ r =>
      cases r
      cases do_
      dsimp only [Dd.word, Dd.hand] at *
      refine iteFe (by decide +kernel) ⟨_, rfl, yd, _, 3, _, rfl, rfl, sy3, rfl, (by show 2 ≤ sizeLine; decide), fun t ht => ⟨_, _, rfl, ?_⟩⟩
      have f4 := same_upd (o := HO.tup [V.str ("box" : Str), .int (b : Nat)]) ht
      have ct := upd_same (H := H3) (a := t) (o := HO.tup [V.str ("box" : Str), .int (b : Nat)])
      generalize L2.upd H3 t (HO.tup [V.str ("box" : Str), .int (b : Nat)]) = H4 at *
      have e4 := e3.trans f4
      have dpm : ∀ H', Same H4 H' → Dp K H' (.ref m) (plD (.hand, (h : Int))) := fun H' e => .tup (SqT.of (e _ _ (f4 _ _ cm))) (.cons (.str _) (.cons (.int _) .nil))
      have dpt : ∀ H', Same H4 H' → Dp K H' (.ref t) (plD (.box, (b : Int))) := fun H' e => .tup (SqT.of (e _ _ ct)) (.cons (.str _) (.cons (.int _) .nil))
      have dpi : ∀ H', Same H4 H' → Dp K H' (.ref t) (itP (.box, b)) := fun H' e => .tup (SqT.of (e _ _ ct)) (.cons (.str _) (.cons (.int _) .nil))
      have z4 : Same H4 H4 := Same.refl _
      refine ⟨_, rfl, rfl, _, rfl, iteFe (by decide +kernel) ?_⟩
      obtain ⟨q0, hq0⟩ := where_box hb
      refine wNe rfl (Dp.same e4 _ _ hx) (fun R r => ⟨_, rfl, r⟩) (dpi _ z4) hq0 rfl (dpm _ z4) fun H5 e5 => ?_
      have kk := fun H' (e' : Same H H') => k H' e'
      simp only [barOf, hq0] at kk
      by_cases c0 : ¬ (q0 = (.hand, (h : Int)))
      · rw [decide_eq_false c0]
        simp only [if_neg (fun z => c0 (Option.some.inj z))] at kk
        exact iteT (iteT (kk _ (e4.trans e5)))
      have c0 := Classical.not_not.mp c0
      rw [decide_eq_true c0]
      simp only [if_pos (congrArg some c0)] at kk
      refine iteF ?_
      obtain ⟨q, hq⟩ := Option.isSome_iff_exists.mp hk1
      refine ⟨_, rfl, rfl, _, rfl, iteTe (by decide +kernel) ?_⟩
      refine wNe rfl (Dp.same (e4.trans e5) _ _ hx) (fun R r => ⟨_, rfl, yd, _, 2, _, rfl, rfl, SqT.same (f4.trans e5) sy3, rfl, r⟩) (Dp.same (e4.trans e5) _ _ dp) hq rfl (dpm _ e5) fun H6 e6 => ?_
      simp only [hq] at kk
      have e56 := e5.trans e6
      by_cases c : ¬ (q = (.hand, (h : Int)))
      · rw [decide_eq_false c]
        simp only [if_neg (fun z => c (Option.some.inj z))] at kk
        exact iteT (kk _ (e4.trans e56))
      have c := Classical.not_not.mp c
      rw [decide_eq_true c]
      simp only [if_pos (congrArg some c)] at kk
      refine iteF ?_
      refine ⟨_, rfl, rfl, _, rfl, iteFe (by decide +kernel) (iteF ?_)⟩
      refine ⟨_, rfl, _, rfl, a, _, 2, _, rfl, rfl, SqT.same (e4.trans e56) sa, rfl, plD (.box, (b : Int)), d.ss.map plD, dpt _ e56, Dp.same (e4.trans e56) _ _ d3, shaped_pl _, shaped_pls _, _, rfl, rfl, rfl, _, rfl, ?_⟩
      rw [if_neg (show ¬ (false = true) by decide), any_pl, anyIn]
      by_cases cin : (Wd.box, (b : Int)) ∈ d.ss
      · rw [decide_eq_true cin]
        simp only [if_pos cin] at kk
        exact iteTe (by decide +kernel) ⟨_, rfl, rfl, _, rfl, iteFe (by decide +kernel) (kk _ (e4.trans e56))⟩
      rw [decide_eq_false cin]
      simp only [if_neg cin] at kk
      refine iteFe (by decide +kernel) ?_
      exact ⟨_, rfl, rfl, _, rfl, iteFe (by decide +kernel) (iteF (kk _ (e4.trans e56)))⟩
    | take h p b =>
      obtain ⟨hk1, hb⟩ := hk
      cases dvs with
      | cons dp r =>
      cases r with
      | cons do_ r =>
      cases r
      cases do_
      dsimp only [Dd.word, Dd.hand] at *
      refine iteFe (by decide +kernel) ⟨_, rfl, yd, _, 3, _, rfl, rfl, sy3, rfl, (by show 2 ≤ sizeLine; decide), fun t ht => ⟨_, _, rfl, ?_⟩⟩
      have f4 := same_upd (o := HO.tup [V.str ("box" : Str), .int (b : Nat)]) ht
      have ct := upd_same (H := H3) (a := t) (o := HO.tup [V.str ("box" : Str), .int (b : Nat)])
      generalize L2.upd H3 t (HO.tup [V.str ("box" : Str), .int (b : Nat)]) = H4 at *
      have e4 := e3.trans f4
      have dpm : ∀ H', Same H4 H' → Dp K H' (.ref m) (plD (.hand, (h : Int))) := fun H' e => .tup (SqT.of (e _ _ (f4 _ _ cm))) (.cons (.str _) (.cons (.int _) .nil))
      have dpt : ∀ H', Same H4 H' → Dp K H' (.ref t) (plD (.box, (b : Int))) := fun H' e => .tup (SqT.of (e _ _ ct)) (.cons (.str _) (.cons (.int _) .nil))
      have dpi : ∀ H', Same H4 H' → Dp K H' (.ref t) (itP (.box, b)) := fun H' e => .tup (SqT.of (e _ _ ct)) (.cons (.str _) (.cons (.int _) .nil))
      have z4 : Same H4 H4 := Same.refl _
      refine ⟨_, rfl, rfl, _, rfl, iteFe (by decide +kernel) ?_⟩
      obtain ⟨q0, hq0⟩ := where_box hb
      refine wNe rfl (Dp.same e4 _ _ hx) (fun R r => ⟨_, rfl, r⟩) (dpi _ z4) hq0 rfl (dpm _ z4) fun H5 e5 => ?_
      have kk := fun H' (e' : Same H H') => k H' e'
      simp only [barOf, hq0] at kk
      by_cases c0 : ¬ (q0 = (.hand, (h : Int)))
      · rw [decide_eq_false c0]
        simp only [if_neg (fun z => c0 (Option.some.inj z))] at kk
        exact iteT (iteT (kk _ (e4.trans e5)))
      have c0 := Classical.not_not.mp c0
      rw [decide_eq_true c0]
      simp only [if_pos (congrArg some c0)] at kk
      refine iteF ?_
      refine ⟨_, rfl, rfl, _, rfl, iteFe (by decide +kernel) (iteF ?_)⟩
      refine ⟨_, rfl, rfl, _, rfl, iteFe (by decide +kernel) (iteF ?_)⟩
      refine ⟨_, rfl, _, rfl, a, _, 2, _, rfl, rfl, SqT.same (e4.trans e5) sa, rfl, plD (.box, (b : Int)), d.ss.map plD, dpt _ e5, Dp.same (e4.trans e5) _ _ d3, shaped_pl _, shaped_pls _, _, rfl, rfl, rfl, _, rfl, ?_⟩
      rw [if_neg (show ¬ (false = true) by decide), any_pl, anyIn]
      by_cases cin : (Wd.box, (b : Int)) ∈ d.ss
      · rw [decide_eq_true cin]
        simp only [if_pos cin] at kk
        exact iteTe (by decide +kernel) ⟨_, rfl, rfl, _, rfl, iteFe (by decide +kernel) (kk _ (e4.trans e5))⟩
      rw [decide_eq_false cin]
      simp only [if_neg cin] at kk
      refine iteFe (by decide +kernel) ?_
      obtain ⟨q, hq⟩ := Option.isSome_iff_exists.mp hk1
      simp only [hq] at kk
      refine ⟨_, rfl, rfl, _, rfl, iteTe (by decide +kernel) ?_⟩
      refine wNe rfl (Dp.same (e4.trans e5) _ _ hx) (fun R r => ⟨_, rfl, yd, _, 2, _, rfl, rfl, SqT.same (f4.trans e5) sy3, rfl, r⟩) (Dp.same (e4.trans e5) _ _ dp) hq rfl (dpt _ e5) fun H6 e6 => ?_
      have kk := kk _ (e4.trans (e5.trans e6))
      by_cases c : q = (.box, (b : Int))
      · rw [decide_eq_true c]
        rw [if_pos (congrArg some c)] at kk
        exact iteF kk
      · rw [decide_eq_false c]
        rw [if_neg (fun z => c (Option.some.inj z))] at kk
        exact iteT kk
    | lock h b s =>
      obtain ⟨hb, hsl⟩ := hk
      cases dvs with
      | cons dp r =>
      cases r with
      | cons do_ r =>
      cases r
      cases do_
      cases dp
      dsimp only [Dd.word, Dd.hand] at *
      refine iteTe (by decide +kernel) ⟨_, rfl, yd, _, 2, _, rfl, rfl, sy3, rfl, (by show 2 ≤ sizeLine; decide), fun t ht => ⟨_, _, rfl, ?_⟩⟩
      have f4 := same_upd (o := HO.tup [V.str ("box" : Str), .int (b : Nat)]) ht
      have ct := upd_same (H := H3) (a := t) (o := HO.tup [V.str ("box" : Str), .int (b : Nat)])
      generalize L2.upd H3 t (HO.tup [V.str ("box" : Str), .int (b : Nat)]) = H4 at *
      have e4 := e3.trans f4
      have dpm : ∀ H', Same H4 H' → Dp K H' (.ref m) (plD (.hand, (h : Int))) := fun H' e => .tup (SqT.of (e _ _ (f4 _ _ cm))) (.cons (.str _) (.cons (.int _) .nil))
      have dpt : ∀ H', Same H4 H' → Dp K H' (.ref t) (plD (.box, (b : Int))) := fun H' e => .tup (SqT.of (e _ _ ct)) (.cons (.str _) (.cons (.int _) .nil))
      have dpi : ∀ H', Same H4 H' → Dp K H' (.ref t) (itP (.box, b)) := fun H' e => .tup (SqT.of (e _ _ ct)) (.cons (.str _) (.cons (.int _) .nil))
      have z4 : Same H4 H4 := Same.refl _
      refine ⟨_, rfl, rfl, _, rfl, iteFe (by decide +kernel) ?_⟩
      obtain ⟨q0, hq0⟩ := where_box hb
      refine wNe rfl (Dp.same e4 _ _ hx) (fun R r => ⟨_, rfl, r⟩) (dpi _ z4) hq0 rfl (dpm _ z4) fun H5 e5 => ?_
      have kk := fun H' (e' : Same H H') => k H' e'
      simp only [barOf, hq0] at kk
      by_cases c0 : ¬ (q0 = (.hand, (h : Int)))
      · rw [decide_eq_false c0]
        simp only [if_neg (fun z => c0 (Option.some.inj z))] at kk
        exact iteT (iteT (kk _ (e4.trans e5)))
      have c0 := Classical.not_not.mp c0
      rw [decide_eq_true c0]
      simp only [if_pos (congrArg some c0)] at kk
      refine iteF ?_
      refine ⟨_, rfl, rfl, _, rfl, iteFe (by decide +kernel) (iteF ?_)⟩
      obtain ⟨q, hq⟩ : ∃ q, d.ss[s]? = some q := ⟨_, List.getElem?_eq_getElem hsl⟩
      obtain ⟨ar, xr, rfl, sr, dr, lr⟩ := pls_at d3
      obtain ⟨vq, hv1, hv2⟩ := DpAll.at2 dr (i := s) (d := plD q) (by rw [List.getElem?_map, hq]; rfl)
      simp only [hq] at kk
      have e45 := e4.trans e5
      refine ⟨_, rfl, rfl, _, rfl, iteTe (by decide +kernel) ⟨_, rfl, a, _, 2, _, rfl, rfl, SqT.same e45 sa, rfl, _, rfl, yd, _, 3, _, rfl, rfl, SqT.same (f4.trans e5) sy3, rfl, ar, xr, _, vq, rfl, rfl, SqT.same e45 sr, atI_nat hv1, _, rfl, plD q, plD (.hand, (h : Int)), Dp.same e45 _ _ hv2, dpm _ e5, shaped_pl _, shaped_pl _, _, rfl, ?_⟩⟩
      rw [eqv_pl]
      by_cases c : ¬ (q = (.hand, (h : Int)))
      · rw [decide_eq_false c]
        simp only [if_neg (fun z => c (Option.some.inj z))] at kk
        exact iteT (kk _ e45)
      have c := Classical.not_not.mp c
      rw [decide_eq_true c]
      simp only [if_pos (congrArg some c)] at kk
      refine iteF ?_
      refine ⟨_, rfl, _, rfl, a, _, 2, _, rfl, rfl, SqT.same (e4.trans e5) sa, rfl, plD (.box, (b : Int)), d.ss.map plD, dpt _ e5, Dp.same (e4.trans e5) _ _ d3, shaped_pl _, shaped_pls _, _, rfl, rfl, rfl, _, rfl, ?_⟩
      rw [if_neg (show ¬ (false = true) by decide), any_pl, anyIn]
      by_cases cin : (Wd.box, (b : Int)) ∈ d.ss
      · rw [decide_eq_true cin]
        simp only [if_pos cin] at kk
        exact iteTe (by decide +kernel) ⟨_, rfl, rfl, _, rfl, iteFe (by decide +kernel) (kk _ (e4.trans e5))⟩
      rw [decide_eq_false cin]
      simp only [if_neg cin] at kk
      refine iteFe (by decide +kernel) ?_
      exact ⟨_, rfl, rfl, _, rfl, iteFe (by decide +kernel) (iteF (kk _ (e4.trans e5)))⟩
    | brk h b =>
      have hb : b < d.bs.length := hk
      cases dvs with
      | cons dp r =>
      cases r
      cases dp
      dsimp only [Dd.word, Dd.hand] at *
      refine iteTe (by decide +kernel) ⟨_, rfl, yd, _, 2, _, rfl, rfl, sy3, rfl, (by show 2 ≤ sizeLine; decide), fun t ht => ⟨_, _, rfl, ?_⟩⟩
      have f4 := same_upd (o := HO.tup [V.str ("box" : Str), .int (b : Nat)]) ht
      have ct := upd_same (H := H3) (a := t) (o := HO.tup [V.str ("box" : Str), .int (b : Nat)])
      generalize L2.upd H3 t (HO.tup [V.str ("box" : Str), .int (b : Nat)]) = H4 at *
      have e4 := e3.trans f4
      have dpm : ∀ H', Same H4 H' → Dp K H' (.ref m) (plD (.hand, (h : Int))) := fun H' e => .tup (SqT.of (e _ _ (f4 _ _ cm))) (.cons (.str _) (.cons (.int _) .nil))
      have dpt : ∀ H', Same H4 H' → Dp K H' (.ref t) (plD (.box, (b : Int))) := fun H' e => .tup (SqT.of (e _ _ ct)) (.cons (.str _) (.cons (.int _) .nil))
      have dpi : ∀ H', Same H4 H' → Dp K H' (.ref t) (itP (.box, b)) := fun H' e => .tup (SqT.of (e _ _ ct)) (.cons (.str _) (.cons (.int _) .nil))
      have z4 : Same H4 H4 := Same.refl _
      refine ⟨_, rfl, rfl, _, rfl, iteFe (by decide +kernel) ?_⟩
      obtain ⟨q0, hq0⟩ := where_box hb
      refine wNe rfl (Dp.same e4 _ _ hx) (fun R r => ⟨_, rfl, r⟩) (dpi _ z4) hq0 rfl (dpm _ z4) fun H5 e5 => ?_
      have kk := fun H' (e' : Same H H') => k H' e'
      simp only [barOf, hq0] at kk
      by_cases c0 : ¬ (q0 = (.hand, (h : Int)))
      · rw [decide_eq_false c0]
        simp only [if_neg (fun z => c0 (Option.some.inj z))] at kk
        exact iteT (iteT (kk _ (e4.trans e5)))
      have c0 := Classical.not_not.mp c0
      rw [decide_eq_true c0]
      simp only [if_pos (congrArg some c0)] at kk
      refine iteF ?_
      refine ⟨_, rfl, rfl, _, rfl, iteFe (by decide +kernel) (iteF ?_)⟩
      refine ⟨_, rfl, rfl, _, rfl, iteFe (by decide +kernel) (iteF ?_)⟩
      refine ⟨_, rfl, _, rfl, a, _, 2, _, rfl, rfl, SqT.same (e4.trans e5) sa, rfl, plD (.box, (b : Int)), d.ss.map plD, dpt _ e5, Dp.same (e4.trans e5) _ _ d3, shaped_pl _, shaped_pls _, _, rfl, rfl, rfl, _, rfl, ?_⟩
      rw [if_neg (show ¬ (false = true) by decide), any_pl, anyIn]
      by_cases cin : (Wd.box, (b : Int)) ∈ d.ss
      · rw [decide_eq_true cin]
        simp only [if_pos cin] at kk
        exact iteFe (by decide +kernel) ⟨_, rfl, rfl, _, rfl, iteFe (by decide +kernel) (iteF (kk _ (e4.trans e5)))⟩
      rw [decide_eq_false cin]
      simp only [if_neg cin] at kk
      exact iteTe (by decide +kernel) ⟨_, rfl, rfl, _, rfl, iteTe (by decide +kernel) (kk _ (e4.trans e5))⟩
end
end Kw


set_option Elab.async false
set_option linter.all false
set_option maxRecDepth 100000
set_option maxHeartbeats 4000000
namespace Kw
open PySem PySem.Spec PyProof.Rows L2
/-! ### the state behind a deed -/
def onIx (d : Hs) (b : Nat) : Nat := (d.ss.findIdx? fun q => decide (q = (Wd.box, (b : Int)))).getD 0
def nextOf (d : Hs) : Dd → Hs
  | .give _ p o => setD d p (.hand, (o : Int))
  | .put _ p b => setD d p (.box, (b : Int))
  | .take h p _ => setD d p (.hand, (h : Int))
  | .lock _ b s => setD d (.sl, s) (.box, (b : Int))
  | .brk _ b => setD d (.sl, onIx d b) (.gone, 0)
section
variable {P : Program} {w : World} {K : PySem.W.Frag} {mg : Str → Option Value} {base : Heap}
theorem where_lt {d : Hs} {p : It} {q : Pl} (h : whereD d p = some q) : p.2 < (rowOf d p.1).length := (List.getElem?_eq_some_iff.mp h).1
theorem on_some {d : Hs} {b : Nat} (h : (Wd.box, (b : Int)) ∈ d.ss) : (∃ z, d.ss[onIx d b]? = some z ∧ z = (Wd.box, (b : Int))) ∧ ∀ (m : Nat) z, m < onIx d b → d.ss[m]? = some z → z ≠ (Wd.box, (b : Int)) := by
  unfold onIx
  cases e : d.ss.findIdx? fun q => decide (q = (Wd.box, (b : Int))) with
  | none =>
    have := List.findIdx?_eq_none_iff.mp e _ h
    simp at this
  | some i =>
    obtain ⟨hi, h1, h2⟩ := List.findIdx?_eq_some_iff_getElem.mp e
    refine ⟨⟨d.ss[i], List.getElem?_eq_getElem hi, of_decide_eq_true h1⟩, fun m z hm hz => ?_⟩
    obtain ⟨hm1, hm2⟩ := List.getElem?_eq_some_iff.mp hz
    have := h2 m hm
    rw [← hm2]
    simpa using this
def spNext (K : PySem.W.Frag) : Sp := fun vs H Q _ => ∃ (x y : V) (d : Hs) (e : Dd), vs = [x, y] ∧ StF K H x d ∧ Dp K H y (ddD e) ∧ Kn d e ∧ barOf d e = "" ∧ ∀ v H', Same H H' → StF K H' v (nextOf d e) → Q v H'
theorem scNext : FnScope ["_law_state", "_law_deed", "_law_word"] ["_law_state", "_law_deed"] (defScope sNext) := ⟨rfl, rfl, rfl, by decide +kernel, rfl, by decide +kernel, by decide +kernel⟩
theorem ok_next {f g : Addr} {fd fdg : FuncData} (F : Fun K "_law_next" "_law_next" sNext f fd) (B : Bt mg) (G : FnOk P w K mg base CX0 1 g fdg ["_law_state", "_law_item", "_law_place"] (spSet K)) (mG : mg "_law_set" = some (.ref g)) (kG : PySem.W.keepIn K (.ref g) = true) (bG : Binds K fdg ["_law_state", "_law_item", "_law_place"] []) :
    FnOk P w K mg base CX0 2 f fd ["_law_state", "_law_deed"] (spNext K) := by
  refine F.ok scNext (fun vs H Q E h => ?_) (fun cdv A outer s H vs Q E hr h => ?_)
  · obtain ⟨x, y, d, e, rfl, _⟩ := h
    rfl
  · obtain ⟨x, y, d, e, rfl, hx, hy, hk, hb, k⟩ := h
    have hu65 : (cxOf CX0 P w K mg base ["_law_state", "_law_deed", "_law_word"] "_law_next" (defScope sNext) f cdv A outer s H E).nox.A.units + 65 < cLine := by have := hr.un; show (A.deeper _).units + 65 < cLine; omega
    refine ⟨_, pss_cons (ps_set (i := 2) scNext.nd rfl (.inl rfl) (pe_ix ix_tup (pv 1) pe_int (fun _ _ => rfl)))
      (pss_cons (ps_if (pt_cmpR op_eq (pv 2) pe_str (nomark _)) (pss_one (ps_ret (pe_call G hr rfl mG kG bG .nil pass0 (pa_cons (pv 0) (pa_cons (pe_ix ix_tup (pv 1) pe_int (fun _ _ => rfl)) (pa_cons (pe_tup (pa_cons pe_str (pa_cons (pe_ix ix_tup (pv 1) pe_int (fun _ _ => rfl)) pa_nil))) pa_nil)))))) pss_nil)
      (pss_cons (ps_if (pt_cmpR op_eq (pv 2) pe_str (nomark _)) (pss_one (ps_ret (pe_call G hr rfl mG kG bG .nil pass0 (pa_cons (pv 0) (pa_cons (pe_ix ix_tup (pv 1) pe_int (fun _ _ => rfl)) (pa_cons (pe_tup (pa_cons pe_str (pa_cons (pe_ix ix_tup (pv 1) pe_int (fun _ _ => rfl)) pa_nil))) pa_nil)))))) pss_nil)
      (pss_cons (ps_if (pt_cmpR op_eq (pv 2) pe_str (nomark _)) (pss_one (ps_ret (pe_call G hr rfl mG kG bG .nil pass0 (pa_cons (pv 0) (pa_cons (pe_ix ix_tup (pv 1) pe_int (fun _ _ => rfl)) (pa_cons (pe_tup (pa_cons pe_str (pa_cons (pe_ix ix_tup (pv 1) pe_int (fun _ _ => rfl)) pa_nil))) pa_nil)))))) pss_nil)
      (pss_cons (ps_if (pt_cmpR op_eq (pv 2) pe_str (nomark _)) (pss_one (ps_ret (pe_call G hr rfl mG kG bG .nil pass0 (pa_cons (pv 0) (pa_cons (pe_tup (pa_cons pe_str (pa_cons (pe_ix ix_tup (pv 1) pe_int (fun _ _ => rfl)) pa_nil))) (pa_cons (pe_tup (pa_cons pe_str (pa_cons (pe_ix ix_tup (pv 1) pe_int (fun _ _ => rfl)) pa_nil))) pa_nil)))))) pss_nil)
      (pss_one (ps_ret (pe_call G hr rfl mG kG bG .nil pass0 (pa_cons (pv 0) (pa_cons (pe_tup (pa_cons pe_str (pa_cons (pe_bmF PySem.F.slot_tuple_index PySem.F.type_tuple_index (mt_indexT hu65) (pe_ix ix_tup (pv 0) pe_int (fun _ _ => rfl)) (pa_cons (pe_tup (pa_cons pe_str (pa_cons (pe_ix ix_tup (pv 1) pe_int (fun _ _ => rfl)) pa_nil))) pa_nil)) pa_nil))) (pa_cons (pe_tup (pa_cons pe_str (pa_cons pe_int pa_nil))) pa_nil)))))))))), ?_⟩
    obtain ⟨a, v1, v2, v3, rfl, sa, d1, d2, d3, fz⟩ := hx.ex
    have hx := hx.dp
    obtain ⟨yd, vs, rfl, sy, dvs⟩ := dd_at hy
    refine ⟨_, rfl, yd, _, 0, _, rfl, rfl, sy, atI_nat (j := 0) rfl, ?_⟩
    have mk : ∀ (H1 : Hp) (t : Addr) (wd : Wd) (n : Nat), H1 t = some (.tup [.str wd.str, .int (n : Nat)]) → ∀ H', Same H1 H' → Dp K H' (.ref t) (plD (wd, (n : Int))) := fun H1 t wd n h H' e => .tup (SqT.of (e _ _ h)) (.cons (.str _) (.cons (.int _) .nil))
    cases e with
    | give h p o =>
      cases dvs with
      | cons dp r =>
      cases r with
      | cons do_ r =>
      cases r
      cases do_
      dsimp only [Dd.word, Dd.hand] at *
      refine ⟨_, rfl, rfl, _, rfl, iteTe (by decide +kernel) ?_⟩
      refine ⟨_, rfl, _, rfl, yd, _, 2, _, rfl, rfl, sy, rfl, _, rfl, yd, _, 3, _, rfl, rfl, sy, rfl, (by show 2 ≤ sizeLine; decide), fun t ht => ?_⟩
      have f1 := same_upd (o := HO.tup [V.str ("hand" : Str), .int (o : Nat)]) ht
      exact ⟨.ref a, _, .ref t, d, p, (.hand, (o : Int)), rfl, Dp.same f1 _ _ hx, Dp.same f1 _ _ dp, mk _ t _ _ upd_same _ (Same.refl _), (by obtain ⟨q, hq⟩ := Option.isSome_iff_exists.mp hk; exact where_lt hq), fun v H' e dv => k v H' (f1.trans e) dv⟩
    | put h p b =>
      cases dvs with
      | cons dp r =>
      cases r with
      | cons do_ r =>
      cases r
      cases do_
      dsimp only [Dd.word, Dd.hand] at *
      refine ⟨_, rfl, rfl, _, rfl, iteFe (by decide +kernel) ?_⟩
      refine ⟨_, rfl, rfl, _, rfl, iteTe (by decide +kernel) ?_⟩
      refine ⟨_, rfl, _, rfl, yd, _, 2, _, rfl, rfl, sy, rfl, _, rfl, yd, _, 3, _, rfl, rfl, sy, rfl, (by show 2 ≤ sizeLine; decide), fun t ht => ?_⟩
      have f1 := same_upd (o := HO.tup [V.str ("box" : Str), .int (b : Nat)]) ht
      exact ⟨.ref a, _, .ref t, d, p, (.box, (b : Int)), rfl, Dp.same f1 _ _ hx, Dp.same f1 _ _ dp, mk _ t _ _ upd_same _ (Same.refl _), (by obtain ⟨q, hq⟩ := Option.isSome_iff_exists.mp hk.1; exact where_lt hq), fun v H' e dv => k v H' (f1.trans e) dv⟩
    | take h p b =>
      cases dvs with
      | cons dp r =>
      cases r with
      | cons do_ r =>
      cases r
      cases do_
      dsimp only [Dd.word, Dd.hand] at *
      refine ⟨_, rfl, rfl, _, rfl, iteFe (by decide +kernel) ?_⟩
      refine ⟨_, rfl, rfl, _, rfl, iteFe (by decide +kernel) ?_⟩
      refine ⟨_, rfl, rfl, _, rfl, iteTe (by decide +kernel) ?_⟩
      refine ⟨_, rfl, _, rfl, yd, _, 2, _, rfl, rfl, sy, rfl, _, rfl, yd, _, 1, _, rfl, rfl, sy, rfl, (by show 2 ≤ sizeLine; decide), fun t ht => ?_⟩
      have f1 := same_upd (o := HO.tup [V.str ("hand" : Str), .int (h : Nat)]) ht
      exact ⟨.ref a, _, .ref t, d, p, (.hand, (h : Int)), rfl, Dp.same f1 _ _ hx, Dp.same f1 _ _ dp, mk _ t _ _ upd_same _ (Same.refl _), (by obtain ⟨q, hq⟩ := Option.isSome_iff_exists.mp hk.1; exact where_lt hq), fun v H' e dv => k v H' (f1.trans e) dv⟩
    | lock h b s =>
      cases dvs with
      | cons dp r =>
      cases r with
      | cons do_ r =>
      cases r
      cases do_
      cases dp
      dsimp only [Dd.word, Dd.hand] at *
      refine ⟨_, rfl, rfl, _, rfl, iteFe (by decide +kernel) ?_⟩
      refine ⟨_, rfl, rfl, _, rfl, iteFe (by decide +kernel) ?_⟩
      refine ⟨_, rfl, rfl, _, rfl, iteFe (by decide +kernel) ?_⟩
      refine ⟨_, rfl, rfl, _, rfl, iteTe (by decide +kernel) ?_⟩
      refine ⟨_, rfl, _, rfl, yd, _, 3, _, rfl, rfl, sy, rfl, (by show 2 ≤ sizeLine; decide), fun t1 ht1 => ?_⟩
      have f1 := same_upd (o := HO.tup [V.str ("seal" : Str), .int (s : Nat)]) ht1
      refine ⟨_, rfl, yd, _, 2, _, rfl, rfl, SqT.same f1 sy, rfl, (by show 2 ≤ sizeLine; decide), fun t ht => ?_⟩
      have f2 := same_upd (o := HO.tup [V.str ("box" : Str), .int (b : Nat)]) ht
      have e2 := f1.trans f2
      exact ⟨.ref a, .ref t1, .ref t, d, (.sl, s), (.box, (b : Int)), rfl, Dp.same e2 _ _ hx, .tup (SqT.of (f2 _ _ upd_same)) (.cons (.str _) (.cons (.int _) .nil)), mk _ t _ _ upd_same _ (Same.refl _), hk.2, fun v H' e dv => k v H' (e2.trans e) dv⟩
    | brk h b =>
      cases dvs with
      | cons dp r =>
      cases r
      cases dp
      dsimp only [Dd.word, Dd.hand] at *
      refine ⟨_, rfl, rfl, _, rfl, iteFe (by decide +kernel) ?_⟩
      refine ⟨_, rfl, rfl, _, rfl, iteFe (by decide +kernel) ?_⟩
      refine ⟨_, rfl, rfl, _, rfl, iteFe (by decide +kernel) ?_⟩
      refine ⟨_, rfl, rfl, _, rfl, iteFe (by decide +kernel) ?_⟩
      have hin : (Wd.box, (b : Int)) ∈ d.ss := by
        have q := hb
        simp only [barOf] at q
        by_cases c1 : whereD d (.box, b) = some (.hand, (h : Int))
        · rw [if_pos c1] at q
          by_cases c2 : (Wd.box, (b : Int)) ∈ d.ss
          · exact c2
          · rw [if_neg c2] at q
            exact absurd q (by decide +kernel)
        · rw [if_neg c1] at q
          exact absurd q (by decide +kernel)
      obtain ⟨⟨z, hz1, hz2⟩, hz3⟩ := on_some hin
      subst hz2
      obtain ⟨as, xs, e3, hf⟩ := fz
      subst e3
      refine ⟨_, rfl, _, rfl, a, _, 2, _, rfl, rfl, sa, rfl, ⟨as, xs, rfl, hf⟩, _, rfl, yd, _, 2, _, rfl, rfl, sy, rfl, (by show 2 ≤ sizeLine; decide), fun t1 ht1 => ?_⟩
      have f1 := same_upd (o := HO.tup [V.str ("box" : Str), .int (b : Nat)]) ht1
      refine ⟨as, _, plD (.box, (b : Int)), d.ss.map plD, onIx d b, plD (.box, (b : Int)), rfl, rfl, Dp.same f1 _ _ d3, mk _ t1 _ _ upd_same _ (Same.refl _), shaped_pls _, shaped_pl _, by rw [List.getElem?_map, hz1]; rfl, by rw [eqv_pl]; exact decide_eq_true rfl, fun m z' hm hz' => ?_, ?_⟩
      · rw [List.getElem?_map] at hz'
        cases hq : d.ss[m]? with
        | none => rw [hq] at hz'; cases hz'
        | some q =>
          rw [hq] at hz'
          have e' := Option.some.inj hz'
          subst e'
          rw [eqv_pl]
          exact decide_eq_false (hz3 m q hm hq)
      refine ⟨(by show 2 ≤ sizeLine; decide), fun t2 ht2 => ?_⟩
      have f2 := same_upd (o := HO.tup [V.str ("seal" : Str), .int (onIx d b : Nat)]) ht2
      refine ⟨(by show 2 ≤ sizeLine; decide), fun t ht => ?_⟩
      have f3 := same_upd (o := HO.tup [V.str ("gone" : Str), .int 0]) ht
      have e3 := (f1.trans f2).trans f3
      exact ⟨.ref a, .ref t2, .ref t, d, (.sl, onIx d b), (.gone, 0), rfl, Dp.same e3 _ _ hx, .tup (SqT.of (f3 _ _ upd_same)) (.cons (.str _) (.cons (.int _) .nil)), mk _ t .gone 0 upd_same _ (Same.refl _), where_lt (q := (Wd.box, (b : Int))) hz1, fun v H' e dv => k v H' (e3.trans e) dv⟩
end
end Kw


set_option Elab.async false
set_option linter.all false
set_option maxRecDepth 100000
set_option maxHeartbeats 4000000
namespace Kw
open PySem PySem.Spec PyProof.Rows L2
/-! ### deeds as data -/
theorem sqL_same {K : PySem.W.Frag} {H H' : Hp} {a : Addr} {xs : List V} (k : Same H H') (h : SqL K H a xs) : SqL K H' a xs := by
  rcases h with (h | ⟨o, h⟩) | h
  · exact .inl (.inl (k _ _ h))
  · exact .inl (.inr ⟨o, k _ _ h⟩)
  · exact .inr h
theorem noL_dd (e : Dd) : noL (ddD e) = true := by cases e <;> rfl
theorem lay_it (p : It) : PyData.canLay0 (itP p) = true := by
  obtain ⟨k, n⟩ := p
  have h1 : PyData.strOk ("box" : Str) = true := by decide +kernel
  have h2 : PyData.strOk ("thing" : Str) = true := by decide +kernel
  have h3 : PyData.strOk ("seal" : Str) = true := by decide +kernel
  cases k <;> simp [itP, Kd.str, PyData.canLay0, PyData.canLayAll0, h1, h2, h3]
theorem depth_it (p : It) : PyData.depth (itP p) = 1 := by simp [itP, PyData.depth, PyData.depthAll]
theorem shaped_it (p : It) : SeqAt.shaped (itP p) = true := by simp [SeqAt.shaped, lay_it, depth_it]
theorem kd_inj {k l : Kd} (h : k.str = l.str) : k = l := by
  cases k <;> cases l <;> first | rfl | exact absurd h (by decide +kernel)
theorem eqv_it (p q : It) : PyData.eqv (itP p) (itP q) = decide (p = q) := by
  obtain ⟨k, n⟩ := p
  obtain ⟨l, m⟩ := q
  by_cases h1 : k = l
  · subst h1
    by_cases h2 : n = m
    · subst h2
      simp [itP, PyData.eqv, PyData.eqvAll]
    · have h3 : ¬ ((n : Int) = (m : Int)) := fun z => h2 (by omega)
      simp [itP, PyData.eqv, PyData.eqvAll, h2, h3]
  · have h3 : ¬ (k.str = l.str) := fun z => h1 (kd_inj z)
    simp [itP, PyData.eqv, PyData.eqvAll, h1, h3]
theorem sd_dd (e : Dd) : Sd (ddD e) := by
  have a1 : PyData.strOk ("give" : Str) = true := by decide +kernel
  have a2 : PyData.strOk ("put" : Str) = true := by decide +kernel
  have a3 : PyData.strOk ("take" : Str) = true := by decide +kernel
  have a4 : PyData.strOk ("seal" : Str) = true := by decide +kernel
  have a5 : PyData.strOk ("break" : Str) = true := by decide +kernel
  refine ⟨⟨_, _, rfl⟩, ?_, ?_, noL_dd e⟩
  · cases e <;> simp [ddD, Dd.word, Dd.hand, Dd.tail, PyData.canLay0, PyData.canLayAll0, lay_it, a1, a2, a3, a4, a5]
  · cases e <;> simp [ddD, Dd.word, Dd.hand, Dd.tail, PyData.depth, PyData.depthAll, depth_it]
theorem cmpE_it (p q : It) : cmpE (itP p) (itP q) = true := rfl
theorem tc_two {x y : PyData} {i j : Int} (h : cmpE x y = true) : topCmp [x, .int i] [y, .int j] = true := by
  unfold topCmp
  split
  · unfold topCmp
    split
    · rfl
    · rfl
  · exact h
theorem tc_one {i j : Int} : topCmp [.int i] [.int j] = true := by
  unfold topCmp
  split
  · rfl
  · rfl
theorem tc_tail {e f : Dd} (h : e.word = f.word) : topCmp e.tail f.tail = true := by
  cases e <;> cases f <;> first | exact tc_two (cmpE_it _ _) | exact tc_two rfl | exact tc_one | (dsimp only [Dd.word] at h; exact absurd h (by decide +kernel))
theorem tc_dd (e f : Dd) : topCmp (itemsD' (ddD e)) (itemsD' (ddD f)) = true := by
  show topCmp (.str e.word :: .int (e.hand : Nat) :: e.tail) (.str f.word :: .int (f.hand : Nat) :: f.tail) = true
  unfold topCmp
  split
  · rename_i h
    have hw : e.word = f.word := by simpa [PyData.eqv] using h
    unfold topCmp
    split
    · exact tc_tail hw
    · rfl
  · rfl
/-! ### what the list of deeds has -/
theorem But.refl (L : Addr) (H : Hp) : But L H H := fun _ _ h _ => h
theorem But.trans {L : Addr} {H H1 H2 : Hp} (x : But L H H1) (y : But L H1 H2) : But L H H2 := fun a o h n => y a o (x a o h n) n
theorem But.same {L : Addr} {H H' : Hp} (e : Same H H') : But L H H' := fun a o h _ => e a o h
theorem But.nl {L : Addr} {H H' : Hp} {xs : List V} (hL : H L = some (.lst xs)) (x : But L H H') : Nl H H' := fun a o h n _ => x a o h (ne_of h hL (n _))
section
variable {P : Program} {w : World} {K : PySem.W.Frag} {mg : Str → Option Value} {base : Heap}
/-- small numbers -/
def Sm : Dd → Prop
  | .give h p o => h ≤ 1000 ∧ p.2 ≤ 1000 ∧ o ≤ 1000
  | .put h p b => h ≤ 1000 ∧ p.2 ≤ 1000 ∧ b ≤ 1000
  | .take h p b => h ≤ 1000 ∧ p.2 ≤ 1000 ∧ b ≤ 1000
  | .lock h b s => h ≤ 1000 ∧ b ≤ 1000 ∧ s ≤ 1000
  | .brk h b => h ≤ 1000 ∧ b ≤ 1000
/-- hands that there are -/
def Hb (d : Hs) : Dd → Prop
  | .give h _ o => (h : Int) < d.hands ∧ (o : Int) < d.hands ∧ o ≠ h
  | .put h p b => (h : Int) < d.hands ∧ p ≠ (.box, b) ∧ p.1 ≠ .sl
  | .take h p b => (h : Int) < d.hands ∧ p ≠ (.box, b) ∧ p.1 ≠ .sl
  | .lock h _ _ => (h : Int) < d.hands
  | .brk h _ => (h : Int) < d.hands
def DdV (K : PySem.W.Frag) (d : Hs) (v : V) (H : Hp) : Prop := ∃ e, Dp K H v (ddD e) ∧ (Kn d e ∧ Hb d e ∧ barOf d e = "") ∧ Sm e
theorem DdV.nl {d : Hs} {v : V} {H H' : Hp} (k : Nl H H') (h : DdV K d v H) : DdV K d v H' := by
  obtain ⟨e, h1, h2⟩ := h
  exact ⟨e, Dp.nl k _ _ (noL_dd e) h1, h2⟩
def ItV (K : PySem.W.Frag) (d : Hs) (v : V) (H : Hp) : Prop := ∃ p : It, Dp K H v (itP p) ∧ p.2 < (rowOf d p.1).length
def ItG (K : PySem.W.Frag) (d : Hs) (v : V) (H : Hp) : Prop := ∃ p : It, Dp K H v (itP p) ∧ p.2 < (rowOf d p.1).length ∧ p.1 ≠ .sl
theorem ItG.nl {d : Hs} {v : V} {H H' : Hp} (k : Nl H H') (h : ItG K d v H) : ItG K d v H' := by
  obtain ⟨e, h1, h2⟩ := h
  exact ⟨e, Dp.nl k _ _ rfl h1, h2⟩
theorem ItG.v {d : Hs} {v : V} {H : Hp} (h : ItG K d v H) : ItV K d v H := by
  obtain ⟨e, h1, h2, _⟩ := h
  exact ⟨e, h1, h2⟩
theorem ItV.nl {d : Hs} {v : V} {H H' : Hp} (k : Nl H H') (h : ItV K d v H) : ItV K d v H' := by
  obtain ⟨e, h1, h2⟩ := h
  exact ⟨e, Dp.nl k _ _ rfl h1, h2⟩
theorem nl_same {H H' : Hp} (e : Same H H') : Nl H H' := fun a o h _ _ => e a o h
def DdU (K : PySem.W.Frag) (d : Hs) (v : V) (H : Hp) : Prop := ∃ e, Dp K H v (ddD e) ∧ (Kn d e ∧ Hb d e) ∧ Sm e
theorem DdU.nl {d : Hs} {v : V} {H H' : Hp} (k : Nl H H') (h : DdU K d v H) : DdU K d v H' := by
  obtain ⟨e, h1, h2⟩ := h
  exact ⟨e, Dp.nl k _ _ (noL_dd e) h1, h2⟩
structure Fd (K : PySem.W.Frag) (d : Hs) (L : Addr) (H0 H : Hp) (m : Nat) : Prop where
  bt : But L H0 H
  ex : ∃ xs, H L = some (.lst xs) ∧ xs.length ≤ m ∧ ∀ v ∈ xs, DdU K d v H
theorem Fd.ext {d : Hs} {L : Addr} {H0 H H' : Hp} {m : Nat} (x : Fd K d L H0 H m) (e : Same H H') : ∃ xs, H' L = some (.lst xs) ∧ xs.length ≤ m ∧ ∀ (zs : List V) (n : Nat), zs.length ≤ n → (∀ v ∈ zs, DdU K d v H') → Fd K d L H0 (L2.upd H' L (.lst (xs ++ zs))) (m + n) := by
  obtain ⟨xs, h1, h2, h3⟩ := x.ex
  refine ⟨xs, e _ _ h1, h2, fun zs n hz hzs => ⟨fun a o h ne => ?_, xs ++ zs, upd_same, by rw [List.length_append]; omega, fun v hv => ?_⟩⟩
  · rw [upd_ne ne]
    exact e _ _ (x.bt a o h ne)
  · have k := nl_updL (ys := xs ++ zs) (e _ _ h1)
    rcases List.mem_append.mp hv with hv | hv
    · exact ((h3 v hv).nl (nl_same e)).nl k
    · exact (hzs v hv).nl k
theorem Fd.more {d : Hs} {L : Addr} {H0 H : Hp} {m n : Nat} (x : Fd K d L H0 H m) (h : m ≤ n) : Fd K d L H0 H n := by
  obtain ⟨xs, h1, h2, h3⟩ := x.ex
  exact ⟨x.bt, xs, h1, by omega, h3⟩
/-- a comprehension over a list whose items all have R -/
theorem lc_mk {a D : Addr} {xs : List V} {j : Nat} {σ : L2.St} {H1 : Hp} {tt : TT} {te : TE} {Qd : Hp → Prop} (R : V → Hp → Prop) (hR : ∀ H H' v, Nl H H' → R v H → R v H') (ha : SqL K H1 a xs) (hn : xs.length ≤ 1000000) (hD : H1 D = none)
    (hs : ∀ (i : Nat) (x : V) (H : Hp) (N : Hp → Prop) (Y : V → Hp → Prop), xs[i]? = some x → Same H1 H → (∀ H', Same H H' → N H') → (∀ y H', Same H H' → R y H' → Y y H') → tt ((wipe σ [j]).set j (some x)) H fun b H3 => if b = true then te ((wipe σ [j]).set j (some x)) H3 Y else N H3)
    (hd : ∀ H zs, Same H1 H → H D = some (.lst zs) → zs.length ≤ xs.length → (∀ z ∈ zs, R z H) → Qd H) :
    ∃ W : Nat → Nat → Hp → Prop, (∃ m, W 0 m (upd H1 D (.lst []))) ∧ ∀ i m H, W i m H →
      ((Itl K a).stop i H ∧ Qd H) ∨ ((Itl K a).go i H ∧ ∃ Nx : Hp → Prop, (∀ H', Nx H' → ∃ m', m' < m ∧ W (i + 1) m' H') ∧ ∀ x H', (Itl K a).yld i H x H' → gName j x (wipe σ [j]) H' fun σ2 H2 => wipe σ2 [j] = wipe σ [j] ∧ tt σ2 H2 fun b H3 =>
        if b = true then te σ2 H3 fun y H4 => ∃ acc, H4 D = some (.lst acc) ∧ acc.length < sizeLine ∧ Nx (upd H4 D (.lst (acc ++ [y]))) else Nx H3) := by
  have e0 : ∀ (H' : Hp) (o : HO), Same H1 H' → Same H1 (L2.upd H' D o) := fun H' o e c u h => by rw [upd_ne (ne_of_none h hD)]; exact e c u h
  refine lc_list (K := K) (a := a) (xs := xs) (fun i H => Same H1 H ∧ ∃ zs, H D = some (.lst zs) ∧ zs.length ≤ i ∧ ∀ z ∈ zs, R z H) ⟨same_upd hD, [], upd_same, Nat.le_refl _, fun z hz => nomatch hz⟩ (fun i H _ ⟨e, _⟩ => sqL_same e ha) ?_ ?_
  · rintro i x H hi ⟨e, zs, hz, lz, rz⟩
    have i1 := (List.getElem?_eq_some_iff.mp hi).1
    refine ⟨wipe_one _ j _, hs i x H _ _ hi e (fun H' e' => ⟨e.trans e', zs, e' _ _ hz, by omega, fun z q => hR _ _ _ (nl_same e') (rz z q)⟩) (fun y H' e' ry => ?_)⟩
    have hz' := e' _ _ hz
    have k := nl_updL (ys := zs ++ [y]) hz'
    refine ⟨zs, hz', by rw [sizeLine_eq]; omega, e0 _ _ (e.trans e'), zs ++ [y], upd_same, by rw [List.length_append]; simp; exact lz, fun z q => ?_⟩
    rcases List.mem_append.mp q with q | q
    · exact hR _ _ _ k (hR _ _ _ (nl_same e') (rz z q))
    · have ez : z = y := by simpa using q
      subst ez
      exact hR _ _ _ k ry
  · rintro H ⟨e, zs, hz, lz, rz⟩
    exact hd H zs e hz lz rz
/-- .. over a tuple whose items all have R -/
theorem lc_mkT {a D : Addr} {xs : List V} {j : Nat} {σ : L2.St} {H1 : Hp} {tt : TT} {te : TE} {Qd : Hp → Prop} (R : V → Hp → Prop) (hR : ∀ H H' v, Nl H H' → R v H → R v H') (ha : SqT K H1 a xs) (hn : xs.length ≤ 1000000) (hD : H1 D = none)
    (hs : ∀ (i : Nat) (x : V) (H : Hp) (N : Hp → Prop) (Y : V → Hp → Prop), xs[i]? = some x → Same H1 H → (∀ H', Same H H' → N H') → (∀ y H', Same H H' → R y H' → Y y H') → tt ((wipe σ [j]).set j (some x)) H fun b H3 => if b = true then te ((wipe σ [j]).set j (some x)) H3 Y else N H3)
    (hd : ∀ H zs, Same H1 H → H D = some (.lst zs) → zs.length ≤ xs.length → (∀ z ∈ zs, R z H) → Qd H) :
    ∃ W : Nat → Nat → Hp → Prop, (∃ m, W 0 m (upd H1 D (.lst []))) ∧ ∀ i m H, W i m H →
      ((Itt K a).stop i H ∧ Qd H) ∨ ((Itt K a).go i H ∧ ∃ Nx : Hp → Prop, (∀ H', Nx H' → ∃ m', m' < m ∧ W (i + 1) m' H') ∧ ∀ x H', (Itt K a).yld i H x H' → gName j x (wipe σ [j]) H' fun σ2 H2 => wipe σ2 [j] = wipe σ [j] ∧ tt σ2 H2 fun b H3 =>
        if b = true then te σ2 H3 fun y H4 => ∃ acc, H4 D = some (.lst acc) ∧ acc.length < sizeLine ∧ Nx (upd H4 D (.lst (acc ++ [y]))) else Nx H3) := by
  have e0 : ∀ (H' : Hp) (o : HO), Same H1 H' → Same H1 (L2.upd H' D o) := fun H' o e c u h => by rw [upd_ne (ne_of_none h hD)]; exact e c u h
  refine lc_tup (K := K) (a := a) (xs := xs) (fun i H => Same H1 H ∧ ∃ zs, H D = some (.lst zs) ∧ zs.length ≤ i ∧ ∀ z ∈ zs, R z H) ⟨same_upd hD, [], upd_same, Nat.le_refl _, fun z hz => nomatch hz⟩ (fun i H _ ⟨e, _⟩ => SqT.same e ha) ?_ ?_
  · rintro i x H hi ⟨e, zs, hz, lz, rz⟩
    have i1 := (List.getElem?_eq_some_iff.mp hi).1
    refine ⟨wipe_one _ j _, hs i x H _ _ hi e (fun H' e' => ⟨e.trans e', zs, e' _ _ hz, by omega, fun z q => hR _ _ _ (nl_same e') (rz z q)⟩) (fun y H' e' ry => ?_)⟩
    have hz' := e' _ _ hz
    have k := nl_updL (ys := zs ++ [y]) hz'
    refine ⟨zs, hz', by rw [sizeLine_eq]; omega, e0 _ _ (e.trans e'), zs ++ [y], upd_same, by rw [List.length_append]; simp; exact lz, fun z q => ?_⟩
    rcases List.mem_append.mp q with q | q
    · exact hR _ _ _ k (hR _ _ _ (nl_same e') (rz z q))
    · have ez : z = y := by simpa using q
      subst ez
      exact hR _ _ _ k ry
  · rintro H ⟨e, zs, hz, lz, rz⟩
    exact hd H zs e hz lz rz
def nV (hs : List Nat) : List V := hs.map fun h => V.int (h : Nat)
theorem nv_get {hs : List Nat} {i : Nat} {x : V} (h : (nV hs)[i]? = some x) : ∃ u, u ∈ hs ∧ x = .int (u : Nat) := by
  unfold nV at h
  rw [List.getElem?_map] at h
  cases q : hs[i]? with
  | none => rw [q] at h; cases h
  | some u =>
    rw [q] at h
    exact ⟨u, List.mem_of_getElem? q, (Option.some.inj h).symm⟩
theorem nv_len (hs : List Nat) : (nV hs).length = hs.length := List.length_map _
theorem rg_get {n : Nat} {i : Nat} {x : V} (h : (rgV 0 (n : Int))[i]? = some x) : i < n ∧ x = .int (i : Nat) := by
  have hl := (List.getElem?_eq_some_iff.mp h).1
  rw [rgV_length] at hl
  have hi : i < n := by omega
  refine ⟨hi, ?_⟩
  unfold rgV at h
  rw [List.getElem?_map, List.getElem?_range (by omega)] at h
  have := Option.some.inj h
  rw [← this]
  show V.int (0 + (i : Int)) = _
  rw [Int.zero_add]
theorem rg_len (n : Nat) : (rgV 0 (n : Int)).length = n := by rw [rgV_length]; omega
theorem ne_ints {o u : Nat} (h : (!decide (V.int (o : Nat) = V.int (u : Nat))) = true) : o ≠ u := fun z => by subst z; simp at h
theorem ite_b {A B : Prop} (b : Bool) (h1 : b = true → A) (h2 : b = false → B) : if b = true then A else B := by
  cases b with
  | true => rw [if_pos rfl]; exact h1 rfl
  | false => rw [if_neg (by decide)]; exact h2 rfl
theorem dds_all {d : Hs} {H : Hp} : ∀ {vs : List V}, (∀ v ∈ vs, DdV K d v H) → ∃ es : List Dd, DpAll K H vs (es.map ddD)
  | [], _ => ⟨[], .nil⟩
  | v :: vs, h => by
    obtain ⟨e, h1, _⟩ := h v List.mem_cons_self
    obtain ⟨es, h2⟩ := dds_all (vs := vs) fun u hu => h u (List.mem_cons_of_mem _ hu)
    exact ⟨e :: es, .cons h1 h2⟩
def spDeeds (K : PySem.W.Frag) : Sp := fun vs H Q _ => ∃ (x : V) (hp : Addr) (d : Hs) (hs : List Nat), vs = [x, .ref hp] ∧ Dp K H x (stD d) ∧ H hp = some (.lst (nV hs)) ∧ hs.length ≤ 4 ∧ (∀ u ∈ hs, (u : Int) < d.hands) ∧ d.hands ≤ 4 ∧ d.bs.length ≤ 3 ∧ d.ts.length ≤ 4 ∧ d.ss.length ≤ 3 ∧
  ∀ (p : Addr) (xs : List V) (H' : Hp), Same H H' → H p = none → H' p = some (.lst xs) → xs.length ≤ 400 → (∀ v ∈ xs, DdV K d v H') → Q (.ref p) H'
theorem scDeeds : FnScope ["_law_state", "_law_hands_here", "_law_boxes", "_law_things", "_law_seals", "_law_goods", "_law_found", "_law_hand", "_law_box", "_law_item", "_law_row", "_law_number", "_law_seal", "_law_other", "_law_deed"] ["_law_state", "_law_hands_here"] (defScope sDeeds) := ⟨rfl, rfl, rfl, by decide +kernel, rfl, by decide +kernel, by decide +kernel⟩
theorem ok_deeds {f g : Addr} {fd fdg : FuncData} (F : Fun K "_law_deeds" "_law_deeds" sDeeds f fd) (B : Bt mg) (mS : mg "sorted" = none) (G : FnOk P w K mg base CX0 2 g fdg ["_law_state", "_law_deed"] (spBar K)) (mG : mg "_law_bar" = some (.ref g)) (kG : PySem.W.keepIn K (.ref g) = true) (bG : Binds K fdg ["_law_state", "_law_deed"] []) :
    FnOk P w K mg base CX0 3 f fd ["_law_state", "_law_hands_here"] (spDeeds K) := by
  refine F.ok scDeeds (fun vs H Q E h => ?_) (fun cdv A outer s H vs Q E hr h => ?_)
  · obtain ⟨x, hp, d, hs, rfl, _⟩ := h
    rfl
  · obtain ⟨x, hp, d, hs, rfl, hx, hhp, hn, hub, hd4, lb, lt, ls, k⟩ := h
    have hu : (cxOf CX0 P w K mg base ["_law_state", "_law_hands_here", "_law_boxes", "_law_things", "_law_seals", "_law_goods", "_law_found", "_law_hand", "_law_box", "_law_item", "_law_row", "_law_number", "_law_seal", "_law_other", "_law_deed"] "_law_deeds" (defScope sDeeds) f cdv A outer s H E).nox.A.units + 64 < cLine := by have := hr.un; show (A.deeper _).units + 64 < cLine; omega
    have hu60 : (cxOf CX0 P w K mg base ["_law_state", "_law_hands_here", "_law_boxes", "_law_things", "_law_seals", "_law_goods", "_law_found", "_law_hand", "_law_box", "_law_item", "_law_row", "_law_number", "_law_seal", "_law_other", "_law_deed"] "_law_deeds" (defScope sDeeds) f cdv A outer s H E).nox.A.units + 60 < cLine := by omega
    have hr1 : Room 2 _ := hr
    refine ⟨_, (pss_cons (ps_asg (pe_lc (own := [("_law_row", 10)]) (g := gName 10) (tt := tYes) (te := tLstRg (tRg1 (tCB (fun xs H Q => ∃ p ys, xs = [V.ref p] ∧ (SqL K H p ys ∨ SqT K H p ys) ∧ Q (.int ys.length) H) (tCons (tVar 10) tNil)))) rfl scDeeds.nd (pi_tup (pv 0)) (blkOk_by (own := [("_law_row", 10)]) (N := ["_law_state", "_law_hands_here", "_law_boxes", "_law_things", "_law_seals", "_law_goods", "_law_found", "_law_hand", "_law_box", "_law_item", "_law_row", "_law_number", "_law_seal", "_law_other", "_law_deed"]) (sc := defScope sDeeds) (by decide +kernel)) (fun _ _ _ _ _ => pg_name (i := 10) scDeeds.nd rfl (.inl rfl)) (fun _ _ _ _ _ => pts_nil) (fun _ _ _ _ _ => pe_listRg rfl (by rfl) B.lst (prg_1 (by rfl) B.rng (pe_callB call_len_seq (by rfl) B.len PySem.boot_len (pa_cons (pv 10) pa_nil))))) (pg_lst rfl (pgs_cons (pg_name (i := 2) scDeeds.nd rfl (.inl rfl)) (pgs_cons (pg_name (i := 3) scDeeds.nd rfl (.inl rfl)) (pgs_cons (pg_name (i := 4) scDeeds.nd rfl (.inl rfl)) pgs_nil)))))
      (pss_cons (ps_set (i := 5) scDeeds.nd rfl (.inl rfl) (pe_op op_cat (pe_lc (own := [("_law_number", 11)]) (g := gName 11) (tt := tYes) (te := (tTup (tCons (tC (.str ("box" : Str))) (tCons (tVar 11) (tNil))))) rfl scDeeds.nd (pi_list (pv 2)) (blkOk_by (own := [("_law_number", 11)]) (N := ["_law_state", "_law_hands_here", "_law_boxes", "_law_things", "_law_seals", "_law_goods", "_law_found", "_law_hand", "_law_box", "_law_item", "_law_row", "_law_number", "_law_seal", "_law_other", "_law_deed"]) (sc := defScope sDeeds) (by decide +kernel)) (fun _ _ _ _ _ => pg_name (i := 11) scDeeds.nd rfl (.inl rfl)) (fun _ _ _ _ _ => pts_nil) (fun _ _ _ _ _ => (pe_tup (pa_cons pe_str (pa_cons (pv 11) (pa_nil)))))) (pe_lc (own := [("_law_number", 11)]) (g := gName 11) (tt := tYes) (te := (tTup (tCons (tC (.str ("thing" : Str))) (tCons (tVar 11) (tNil))))) rfl scDeeds.nd (pi_list (pv 3)) (blkOk_by (own := [("_law_number", 11)]) (N := ["_law_state", "_law_hands_here", "_law_boxes", "_law_things", "_law_seals", "_law_goods", "_law_found", "_law_hand", "_law_box", "_law_item", "_law_row", "_law_number", "_law_seal", "_law_other", "_law_deed"]) (sc := defScope sDeeds) (by decide +kernel)) (fun _ _ _ _ _ => pg_name (i := 11) scDeeds.nd rfl (.inl rfl)) (fun _ _ _ _ _ => pts_nil) (fun _ _ _ _ _ => (pe_tup (pa_cons pe_str (pa_cons (pv 11) (pa_nil))))))))
      (pss_cons (ps_set (i := 6) scDeeds.nd rfl (.inl rfl) (pe_lst pa_nil))
      (pss_cons (ps_for PassesOwn.never rfl (pi_list (pv 1)) (pg_name (i := 7) scDeeds.nd rfl (.inr rfl)) (pss_cons (ps_for PassesOwn.never rfl (pi_list (pv 2)) (pg_name (i := 8) scDeeds.nd rfl (.inr rfl)) (pss_cons (ps_expr (pe_bm PySem.F.plainAttrs_list PySem.F.slot_list_append PySem.F.type_list_append mt_append (pv 6) (pa_cons (pe_tup (pa_cons pe_str (pa_cons (pv 7) (pa_cons (pv 8) (pa_nil))))) pa_nil)))
      (pss_cons (ps_expr (pe_bm PySem.F.plainAttrs_list PySem.F.slot_list_extend PySem.F.type_list_extend mt_extend (pv 6) (pa_cons (pe_lc (own := [("_law_seal", 12)]) (g := gName 12) (tt := tYes) (te := (tTup (tCons (tC (.str ("seal" : Str))) (tCons (tVar 7) (tCons (tVar 8) (tCons (tVar 12) (tNil))))))) rfl scDeeds.nd (pi_list (pv 4)) (blkOk_by (own := [("_law_seal", 12)]) (N := ["_law_state", "_law_hands_here", "_law_boxes", "_law_things", "_law_seals", "_law_goods", "_law_found", "_law_hand", "_law_box", "_law_item", "_law_row", "_law_number", "_law_seal", "_law_other", "_law_deed"]) (sc := defScope sDeeds) (by decide +kernel)) (fun _ _ _ _ _ => pg_name (i := 12) scDeeds.nd rfl (.inl rfl)) (fun _ _ _ _ _ => pts_nil) (fun _ _ _ _ _ => (pe_tup (pa_cons pe_str (pa_cons (pv 7) (pa_cons (pv 8) (pa_cons (pv 12) (pa_nil)))))))) pa_nil)))
      (pss_cons (ps_expr (pe_bm PySem.F.plainAttrs_list PySem.F.slot_list_extend PySem.F.type_list_extend mt_extend (pv 6) (pa_cons (pe_lc (own := [("_law_item", 9)]) (g := gName 9) (tt := (tTest (tOp (rNeD K) (tVar 9) (tTup (tCons (tC (.str ("box" : Str))) (tCons (tVar 8) tNil)))))) (te := (tTup (tCons (tC (.str ("put" : Str))) (tCons (tVar 7) (tCons (tVar 9) (tCons (tVar 8) (tNil))))))) rfl scDeeds.nd (pi_list (pv 5)) (blkOk_by (own := [("_law_item", 9)]) (N := ["_law_state", "_law_hands_here", "_law_boxes", "_law_things", "_law_seals", "_law_goods", "_law_found", "_law_hand", "_law_box", "_law_item", "_law_row", "_law_number", "_law_seal", "_law_other", "_law_deed"]) (sc := defScope sDeeds) (by decide +kernel)) (fun _ _ _ _ _ => pg_name (i := 9) scDeeds.nd rfl (.inl rfl)) (fun _ _ _ _ _ => pts_one (pt_cmpR (op_neD hu) (pv 9) (pe_tup (pa_cons pe_str (pa_cons (pv 8) pa_nil))) (nomark _))) (fun _ _ _ _ _ => (pe_tup (pa_cons pe_str (pa_cons (pv 7) (pa_cons (pv 9) (pa_cons (pv 8) (pa_nil)))))))) pa_nil)))
      (pss_one (ps_expr (pe_bm PySem.F.plainAttrs_list PySem.F.slot_list_extend PySem.F.type_list_extend mt_extend (pv 6) (pa_cons (pe_lc (own := [("_law_item", 9)]) (g := gName 9) (tt := (tTest (tOp (rNeD K) (tVar 9) (tTup (tCons (tC (.str ("box" : Str))) (tCons (tVar 8) tNil)))))) (te := (tTup (tCons (tC (.str ("take" : Str))) (tCons (tVar 7) (tCons (tVar 9) (tCons (tVar 8) (tNil))))))) rfl scDeeds.nd (pi_list (pv 5)) (blkOk_by (own := [("_law_item", 9)]) (N := ["_law_state", "_law_hands_here", "_law_boxes", "_law_things", "_law_seals", "_law_goods", "_law_found", "_law_hand", "_law_box", "_law_item", "_law_row", "_law_number", "_law_seal", "_law_other", "_law_deed"]) (sc := defScope sDeeds) (by decide +kernel)) (fun _ _ _ _ _ => pg_name (i := 9) scDeeds.nd rfl (.inl rfl)) (fun _ _ _ _ _ => pts_one (pt_cmpR (op_neD hu) (pv 9) (pe_tup (pa_cons pe_str (pa_cons (pv 8) pa_nil))) (nomark _))) (fun _ _ _ _ _ => (pe_tup (pa_cons pe_str (pa_cons (pv 7) (pa_cons (pv 9) (pa_cons (pv 8) (pa_nil)))))))) pa_nil))))))))
      (pss_one (ps_for PassesOwn.never rfl (pi_list (pe_op op_cat (pv 5) (pe_lc (own := [("_law_seal", 12)]) (g := gName 12) (tt := tYes) (te := (tTup (tCons (tC (.str ("seal" : Str))) (tCons (tVar 12) (tNil))))) rfl scDeeds.nd (pi_list (pv 4)) (blkOk_by (own := [("_law_seal", 12)]) (N := ["_law_state", "_law_hands_here", "_law_boxes", "_law_things", "_law_seals", "_law_goods", "_law_found", "_law_hand", "_law_box", "_law_item", "_law_row", "_law_number", "_law_seal", "_law_other", "_law_deed"]) (sc := defScope sDeeds) (by decide +kernel)) (fun _ _ _ _ _ => pg_name (i := 12) scDeeds.nd rfl (.inl rfl)) (fun _ _ _ _ _ => pts_nil) (fun _ _ _ _ _ => (pe_tup (pa_cons pe_str (pa_cons (pv 12) (pa_nil)))))))) (pg_name (i := 9) scDeeds.nd rfl (.inr rfl)) (pss_one (ps_expr (pe_bm PySem.F.plainAttrs_list PySem.F.slot_list_extend PySem.F.type_list_extend mt_extend (pv 6) (pa_cons (pe_lc (own := [("_law_other", 13)]) (g := gName 13) (tt := (tTest (tOp rNe (tVar 13) (tVar 7)))) (te := (tTup (tCons (tC (.str ("give" : Str))) (tCons (tVar 7) (tCons (tVar 9) (tCons (tVar 13) (tNil))))))) rfl scDeeds.nd (pi_list (pv 1)) (blkOk_by (own := [("_law_other", 13)]) (N := ["_law_state", "_law_hands_here", "_law_boxes", "_law_things", "_law_seals", "_law_goods", "_law_found", "_law_hand", "_law_box", "_law_item", "_law_row", "_law_number", "_law_seal", "_law_other", "_law_deed"]) (sc := defScope sDeeds) (by decide +kernel)) (fun _ _ _ _ _ => pg_name (i := 13) scDeeds.nd rfl (.inl rfl)) (fun _ _ _ _ _ => pts_one (pt_cmpR op_ne (pv 13) (pv 7) (nomark _))) (fun _ _ _ _ _ => (pe_tup (pa_cons pe_str (pa_cons (pv 7) (pa_cons (pv 9) (pa_cons (pv 13) (pa_nil)))))))) pa_nil))))))))
      (pss_one (ps_ret (pe_callB (cr_sortD hu60) (by rfl) mS (by decide +kernel) (pa_cons (pe_lc (own := [("_law_deed", 14)]) (g := gName 14) (tt := (tTest (tOp rEq (tCall (spBar K) [] E0 (tCons (tVar 0) (tCons (tVar 14) tNil))) (tC (.str ("" : Str)))))) (te := tVar 14) rfl scDeeds.nd (pi_list (pv 6)) (blkOk_by (own := [("_law_deed", 14)]) (N := ["_law_state", "_law_hands_here", "_law_boxes", "_law_things", "_law_seals", "_law_goods", "_law_found", "_law_hand", "_law_box", "_law_item", "_law_row", "_law_number", "_law_seal", "_law_other", "_law_deed"]) (sc := defScope sDeeds) (by decide +kernel)) (fun _ _ _ _ _ => pg_name (i := 14) scDeeds.nd rfl (.inl rfl)) (fun _ _ _ _ _ => pts_one (pt_cmpR op_eq (pe_call G hr1 rfl mG kG bG .nil pass0 (pa_cons (pv 0) (pa_cons (pv 14) pa_nil))) pe_str (nomark _))) (fun _ _ _ _ _ => pv 14)) pa_nil)))))))), ?_⟩
    obtain ⟨a, v1, v2, v3, rfl, sa, d1, d2, d3⟩ := st_at hx
    have ilen : ∀ (j : Nat) (v : V), [v1, v2, v3][j]? = some v → ∃ l, (rows3 d)[j]? = some l ∧ Dp K H v (plsD l) := fun j v e => by
      match j, e with
      | 0, e => cases e; exact ⟨_, rfl, d1⟩
      | 1, e => cases e; exact ⟨_, rfl, d2⟩
      | 2, e => cases e; exact ⟨_, rfl, d3⟩
      | j + 3, e => simp at e
    have rlen : ∀ (j : Nat) (l : List Pl), (rows3 d)[j]? = some l → l.length ≤ 4 := fun j l e => by
      match j, e with
      | 0, e => cases e; omega
      | 1, e => cases e; omega
      | 2, e => cases e; omega
      | j + 3, e => simp [rows3] at e
    have rl4 : ∀ k, (rowOf d k).length ≤ 4 := fun k => by
      cases k
      · show d.bs.length ≤ 4; omega
      · show d.ts.length ≤ 4; omega
      · show d.ss.length ≤ 4; omega
    -- the numbers
    refine ⟨_, rfl, a, rfl, ⟨_, sa⟩, fun Dl hD => ?_⟩
    have e0 : ∀ (H' : Hp) (o : HO), Same H H' → Same H (L2.upd H' Dl o) := fun H' o e c u h => by rw [upd_ne (ne_of_none h hD)]; exact e c u h
    refine lc_tup (K := K) (a := a) (xs := [v1, v2, v3]) (fun i H' => Same H H' ∧ ∃ ls : List Addr, H' Dl = some (.lst (ls.map V.ref)) ∧ ls.length = i ∧ ∀ (j : Nat) b, ls[j]? = some b → b ≠ Dl ∧ ∃ l, (rows3 d)[j]? = some l ∧ H' b = some (.lst (rgV 0 (l.length : Nat)))) ⟨same_upd hD, [], upd_same, rfl, fun j b e => by simp at e⟩ (fun i H' _ ⟨e, _⟩ => SqT.same e sa) ?_ ?_
    · rintro i y H' hi ⟨e, ls, hls, ll, hall⟩
      obtain ⟨l, hl1, hl2⟩ := ilen i y hi
      obtain ⟨ar, xr, rfl, sr, dr, lr⟩ := pls_at hl2
      have hl4 := rlen i l hl1
      have i3 : i < 3 := (List.getElem?_eq_some_iff.mp hi).1
      refine ⟨wipe_one _ 10 _, yes_lc ?_⟩
      refine ⟨_, rfl, ar, xr, rfl, .inr (SqT.same e sr), _, rfl, RgOk.of_le (by omega) (by omega) (by omega) (by omega), fun q hq => ?_⟩
      have nq : q ≠ Dl := (ne_of_none hls hq).symm
      have f1 := same_upd (o := HO.lst (rgV 0 (xr.length : Nat))) hq
      have hls1 := f1 _ _ hls
      refine ⟨ls.map V.ref, hls1, by rw [sizeLine_eq, List.length_map]; omega, e0 _ _ (e.trans f1), ls ++ [q], ?_, by rw [List.length_append, ll]; rfl, fun j b hb => ?_⟩
      · rw [List.map_append]
        exact upd_same
      · by_cases c : j < ls.length
        · rw [List.getElem?_append_left c] at hb
          obtain ⟨g1, l', g2, g3⟩ := hall j b hb
          exact ⟨g1, l', g2, by rw [upd_ne g1]; exact f1 _ _ g3⟩
        · have ej : j = ls.length := by
            have := (List.getElem?_eq_some_iff.mp hb).1
            simp at this
            omega
          subst ej
          rw [List.getElem?_append_right (Nat.le_refl _), Nat.sub_self] at hb
          have ex : q = b := by simpa using hb
          subst ex
          exact ⟨nq, l, by rw [ll]; exact hl1, by rw [upd_ne nq, ← lr]; exact upd_same⟩
    rintro H3 ⟨e3, ls, hls, ll, hall⟩
    have ll : ls.length = 3 := ll
    obtain ⟨ab, at', as, rfl⟩ : ∃ x y z, ls = [x, y, z] := by
      match ls, ll with
      | [x, y, z], _ => exact ⟨x, y, z, rfl⟩
    obtain ⟨_, l1, q1, hab⟩ := hall 0 ab rfl
    obtain ⟨_, l2, q2, hat⟩ := hall 1 at' rfl
    obtain ⟨_, l3, q3, has⟩ := hall 2 as rfl
    cases q1
    cases q2
    cases q3
    refine ⟨Dl, _, rfl, SqL.of hls, rfl, _, _, rfl, _, _, rfl, _, _, rfl, rfl, ?_⟩
    -- boxes and things
    refine ⟨_, rfl, ab, rfl, ⟨_, SqL.of hab⟩, fun D1 hD1 => ?_⟩
    refine lc_mk (K := K) (fun v H => ItG K d v H) (fun _ _ _ k h => h.nl k) (SqL.of hab) (by rw [rg_len]; omega) hD1 (fun i x H' N Y hi e hN hY => ?_) (fun H4 g1 e4 hg1 lg1 rg1 => ?_)
    · obtain ⟨hi', rfl⟩ := rg_get hi
      exact yes_lc ⟨_, rfl, (by show 2 ≤ sizeLine; decide), fun t ht => hY _ _ (same_upd ht) ⟨(.box, i), .tup (SqT.of upd_same) (.cons (.str _) (.cons (.int _) .nil)), hi', by intro z; cases z⟩⟩
    refine ⟨_, rfl, at', rfl, ⟨_, SqL.of (e4 _ _ hat)⟩, fun D2 hD2 => ?_⟩
    refine lc_mk (K := K) (fun v H => ItG K d v H) (fun _ _ _ k h => h.nl k) (SqL.of (e4 _ _ hat)) (by rw [rg_len]; omega) hD2 (fun i x H' N Y hi e hN hY => ?_) (fun H5 g2 e5 hg2 lg2 rg2 => ?_)
    · obtain ⟨hi', rfl⟩ := rg_get hi
      exact yes_lc ⟨_, rfl, (by show 2 ≤ sizeLine; decide), fun t ht => hY _ _ (same_upd ht) ⟨(.thing, i), .tup (SqT.of upd_same) (.cons (.str _) (.cons (.int _) .nil)), hi', by intro z; cases z⟩⟩
    rw [rg_len] at lg1 lg2
    refine ⟨D1, D2, g1, g2, rfl, rfl, e5 _ _ hg1, hg2, by rw [sizeLine_eq]; omega, fun pg hpg => ?_⟩
    have e6 := same_upd (o := HO.lst (g1 ++ g2)) hpg
    have hpg6 : (L2.upd H5 pg (.lst (g1 ++ g2))) pg = some (.lst (g1 ++ g2)) := upd_same
    have rg6 : ∀ v ∈ g1 ++ g2, ItG K d v (L2.upd H5 pg (.lst (g1 ++ g2))) := fun v hv => by
      rcases List.mem_append.mp hv with hv | hv
      · exact (rg1 v hv).nl (nl_same (e5.trans e6))
      · exact (rg2 v hv).nl (nl_same e6)
    have lg : (g1 ++ g2).length ≤ 7 := by rw [List.length_append]; omega
    have e36 := e4.trans (e5.trans e6)
    generalize L2.upd H5 pg (.lst (g1 ++ g2)) = H6 at *
    generalize g1 ++ g2 = gs at *
    refine ⟨(by show 0 ≤ sizeLine; decide), fun L hL => ?_⟩
    have e7 := same_upd (o := HO.lst []) hL
    have e37 := e36.trans e7
    have eH := e3.trans e37
    have hL0 : (L2.upd H6 L (.lst [])) L = some (.lst []) := upd_same
    have hab7 := e37 _ _ hab
    have hat7 := e37 _ _ hat
    have has7 := e37 _ _ has
    have hpg7 := e7 _ _ hpg6
    have hhp7 := eH _ _ hhp
    have rg7 : ∀ v ∈ gs, ItG K d v (L2.upd H6 L (.lst [])) := fun v hv => (rg6 v hv).nl (nl_same e7)
    have hx7 := Dp.same eH _ _ hx
    have nab : ab ≠ L := ne_of_none (e36 _ _ hab) hL
    have nat : at' ≠ L := ne_of_none (e36 _ _ hat) hL
    have nas : as ≠ L := ne_of_none (e36 _ _ has) hL
    have npg : pg ≠ L := ne_of_none hpg6 hL
    have nhp : hp ≠ L := ne_of_none (e36 _ _ (e3 _ _ hhp)) hL
    have noldL : ∀ (b : Addr) o, H b = some o → b ≠ L := fun b o h => ne_of_none (e36 _ _ (e3 _ _ h)) hL
    generalize L2.upd H6 L (.lst []) = H0 at *
    have nlf : ∀ {H' : Hp} {m : Nat}, Fd K d L H0 H' m → Nl H0 H' := fun fd => fd.bt.nl hL0
    -- hand by hand
    refine ⟨_, rfl, hp, rfl, ⟨_, SqL.of hhp7⟩, ?_⟩
    refine for_list (K := K) (a := hp) (xs := nV hs) (fun i σ H' => ∃ vh vb vi : Option V, σ = [some (.ref a), some (.ref hp), some (.ref ab), some (.ref at'), some (.ref as), some (.ref pg), some (.ref L), vh, vb, vi, none, none, none, none, none] ∧ Fd K d L H0 H' (i * 100))
      ⟨none, none, none, rfl, But.refl _ _, [], hL0, by simp, fun v hv => nomatch hv⟩ (fun i σ H' _ ⟨_, _, _, _, fd⟩ => SqL.of (fd.bt _ _ hhp7 nhp)) ?_ ?_
    · rintro i y σ H7 hi ⟨vh, vb, vi, rfl, fd⟩
      obtain ⟨u, hu', rfl⟩ := nv_get hi
      have hb' := hub u hu'
      have ul : u ≤ 1000 := by omega
      have hi' : i < hs.length := by have := (List.getElem?_eq_some_iff.mp hi).1; rw [nv_len] at this; exact this
      -- box by box
      refine ⟨_, rfl, ab, rfl, ⟨_, SqL.of (fd.bt _ _ hab7 nab)⟩, ?_⟩
      refine for_list (K := K) (a := ab) (xs := rgV 0 (d.bs.length : Nat)) (fun j σ H' => ∃ vb vi : Option V, σ = [some (.ref a), some (.ref hp), some (.ref ab), some (.ref at'), some (.ref as), some (.ref pg), some (.ref L), some (.int (u : Nat)), vb, vi, none, none, none, none, none] ∧ Fd K d L H0 H' (i * 100 + j * 20))
        ⟨vb, vi, rfl, fd⟩ (fun j σ H' _ ⟨_, _, _, fd⟩ => SqL.of (fd.bt _ _ hab7 nab)) ?_ ?_
      · rintro j y σ H8 hj ⟨vb, vi, rfl, fd⟩
        obtain ⟨hj', rfl⟩ := rg_get hj
        obtain ⟨x0, hx0, lx0, _⟩ := fd.ext (Same.refl _)
        refine ⟨_, rfl, .inl ⟨rfl, _, SqL.of hx0⟩, _, rfl, _, rfl, (by show 3 ≤ sizeLine; decide), fun t1 ht1 => ?_⟩
        have f1 := same_upd (o := HO.tup [V.str ("break" : Str), .int (u : Nat), .int (j : Nat)]) ht1
        obtain ⟨x1, hx1, lx1, gx1⟩ := fd.ext f1
        refine ⟨L, x1, .ref t1, rfl, rfl, hx1, by rw [sizeLine_eq]; omega, ?_⟩
        have fd1 := gx1 [.ref t1] 1 (Nat.le_refl _) (fun v hv => by
          have ev : v = .ref t1 := by simpa using hv
          subst ev
          exact ⟨.brk u j, .tup (SqT.of upd_same) (.cons (.str _) (.cons (.int _) (.cons (.int _) .nil))), ⟨hj', hb'⟩, (⟨ul, by omega⟩ : u ≤ 1000 ∧ j ≤ 1000)⟩)
        generalize L2.upd (L2.upd H8 t1 (HO.tup [V.str ("break" : Str), .int (u : Nat), .int (j : Nat)])) L (.lst (x1 ++ [.ref t1])) = H9 at *
        -- seals
        obtain ⟨x2, hx2, lx2, _⟩ := fd1.ext (Same.refl _)
        refine ⟨_, rfl, .inl ⟨rfl, _, SqL.of hx2⟩, _, rfl, as, rfl, ⟨_, SqL.of (fd1.bt _ _ has7 nas)⟩, fun D3 hD3 => ?_⟩
        refine lc_mk (K := K) (fun v H => DdU K d v H) (fun _ _ _ k h => h.nl k) (SqL.of (fd1.bt _ _ has7 nas)) (by rw [rg_len]; omega) hD3 (fun m x H' N Y hm e hN hY => ?_) (fun HA z1 eA hz1 lz1 rz1 => ?_)
        · obtain ⟨hm', rfl⟩ := rg_get hm
          exact yes_lc ⟨_, rfl, _, rfl, _, rfl, (by show 4 ≤ sizeLine; decide), fun t ht => hY _ _ (same_upd ht) ⟨.lock u j m, .tup (SqT.of upd_same) (.cons (.str _) (.cons (.int _) (.cons (.int _) (.cons (.int _) .nil)))), ⟨⟨hj', hm'⟩, hb'⟩, (⟨ul, by omega, by omega⟩ : u ≤ 1000 ∧ j ≤ 1000 ∧ m ≤ 1000)⟩⟩
        rw [rg_len] at lz1
        obtain ⟨x3, hx3, lx3, gx3⟩ := fd1.ext eA
        refine ⟨L, D3, x3, z1, rfl, rfl, hx3, hz1, by rw [sizeLine_eq]; omega, ?_⟩
        have fd2 := gx3 z1 3 (by omega) rz1
        generalize L2.upd HA L (.lst (x3 ++ z1)) = HB at *
        -- put
        obtain ⟨x4, hx4, lx4, _⟩ := fd2.ext (Same.refl _)
        refine ⟨_, rfl, .inl ⟨rfl, _, SqL.of hx4⟩, _, rfl, pg, rfl, ⟨_, SqL.of (fd2.bt _ _ hpg7 npg)⟩, fun D4 hD4 => ?_⟩
        have nlB := nlf fd2
        refine lc_mk (K := K) (fun v H => DdU K d v H) (fun _ _ _ k h => h.nl k) (SqL.of (fd2.bt _ _ hpg7 npg)) (by omega) hD4 (fun m x H' N Y hm e hN hY => ?_) (fun HC z2 eC hz2 lz2 rz2 => ?_)
        · obtain ⟨p, hp1, hp2, hp3⟩ := ((rg7 x (List.mem_of_getElem? hm)).nl nlB).nl (nl_same e)
          refine ⟨_, rfl, _, rfl, (by show 2 ≤ sizeLine; decide), fun t ht => ?_⟩
          have ft := same_upd (o := HO.tup [V.str ("box" : Str), .int (j : Nat)]) ht
          refine ⟨itP p, itP (.box, j), Dp.same ft _ _ hp1, .tup (SqT.of upd_same) (.cons (.str _) (.cons (.int _) .nil)), shaped_it _, shaped_it _, _, rfl, ite_b _ (fun cne => ?_) (fun _ => hN _ ft)⟩
          refine ⟨_, rfl, _, rfl, _, rfl, (by show 4 ≤ sizeLine; decide), fun t2 ht2 => hY _ _ (ft.trans (same_upd ht2)) ⟨.put u p j, .tup (SqT.of upd_same) (.cons (.str _) (.cons (.int _) (.cons (Dp.same (ft.trans (same_upd ht2)) _ _ hp1) (.cons (.int _) .nil)))), ⟨⟨?_, hj'⟩, hb', (fun z => by rw [eqv_it, decide_eq_true z] at cne; cases cne), hp3⟩, (⟨ul, by have := rl4 p.1; omega, by omega⟩ : u ≤ 1000 ∧ p.2 ≤ 1000 ∧ j ≤ 1000)⟩⟩
          unfold whereD
          rw [List.getElem?_eq_getElem hp2]
          rfl
        obtain ⟨x5, hx5, lx5, gx5⟩ := fd2.ext eC
        refine ⟨L, D4, x5, z2, rfl, rfl, hx5, hz2, by rw [sizeLine_eq]; omega, ?_⟩
        have fd3 := gx5 z2 7 (by omega) rz2
        generalize L2.upd HC L (.lst (x5 ++ z2)) = HE at *
        -- take
        obtain ⟨x6, hx6, lx6, _⟩ := fd3.ext (Same.refl _)
        refine ⟨_, rfl, .inl ⟨rfl, _, SqL.of hx6⟩, _, rfl, pg, rfl, ⟨_, SqL.of (fd3.bt _ _ hpg7 npg)⟩, fun D5 hD5 => ?_⟩
        have nlE := nlf fd3
        refine lc_mk (K := K) (fun v H => DdU K d v H) (fun _ _ _ k h => h.nl k) (SqL.of (fd3.bt _ _ hpg7 npg)) (by omega) hD5 (fun m x H' N Y hm e hN hY => ?_) (fun HF z3 eF hz3 lz3 rz3 => ?_)
        · obtain ⟨p, hp1, hp2, hp3⟩ := ((rg7 x (List.mem_of_getElem? hm)).nl nlE).nl (nl_same e)
          refine ⟨_, rfl, _, rfl, (by show 2 ≤ sizeLine; decide), fun t ht => ?_⟩
          have ft := same_upd (o := HO.tup [V.str ("box" : Str), .int (j : Nat)]) ht
          refine ⟨itP p, itP (.box, j), Dp.same ft _ _ hp1, .tup (SqT.of upd_same) (.cons (.str _) (.cons (.int _) .nil)), shaped_it _, shaped_it _, _, rfl, ite_b _ (fun cne => ?_) (fun _ => hN _ ft)⟩
          refine ⟨_, rfl, _, rfl, _, rfl, (by show 4 ≤ sizeLine; decide), fun t2 ht2 => hY _ _ (ft.trans (same_upd ht2)) ⟨.take u p j, .tup (SqT.of upd_same) (.cons (.str _) (.cons (.int _) (.cons (Dp.same (ft.trans (same_upd ht2)) _ _ hp1) (.cons (.int _) .nil)))), ⟨⟨?_, hj'⟩, hb', (fun z => by rw [eqv_it, decide_eq_true z] at cne; cases cne), hp3⟩, (⟨ul, by have := rl4 p.1; omega, by omega⟩ : u ≤ 1000 ∧ p.2 ≤ 1000 ∧ j ≤ 1000)⟩⟩
          unfold whereD
          rw [List.getElem?_eq_getElem hp2]
          rfl
        obtain ⟨x7, hx7', lx7, gx7⟩ := fd3.ext eF
        refine ⟨L, D5, x7, z3, rfl, rfl, hx7', hz3, by rw [sizeLine_eq]; omega, ?_⟩
        have fd4 := gx7 z3 7 (by omega) rz3
        exact ⟨_, _, rfl, fd4.more (by omega)⟩
      rintro σ H8 ⟨vb, vi, rfl, fd⟩
      rw [rg_len] at fd
      -- what is given
      refine ⟨_, rfl, _, rfl, as, rfl, ⟨_, SqL.of (fd.bt _ _ has7 nas)⟩, fun D6 hD6 => ?_⟩
      refine lc_mk (K := K) (fun v H => ItV K d v H) (fun _ _ _ k h => h.nl k) (SqL.of (fd.bt _ _ has7 nas)) (by rw [rg_len]; omega) hD6 (fun m x H' N Y hm e hN hY => ?_) (fun HA z1 eA hz1 lz1 rz1 => ?_)
      · obtain ⟨hm', rfl⟩ := rg_get hm
        exact yes_lc ⟨_, rfl, (by show 2 ≤ sizeLine; decide), fun t ht => hY _ _ (same_upd ht) ⟨(.sl, m), .tup (SqT.of upd_same) (.cons (.str _) (.cons (.int _) .nil)), hm'⟩⟩
      rw [rg_len] at lz1
      have hpgA := eA _ _ (fd.bt _ _ hpg7 npg)
      refine ⟨pg, D6, gs, z1, rfl, rfl, hpgA, hz1, by rw [sizeLine_eq]; omega, fun pj hpj => ?_⟩
      have fj := eA.trans (same_upd (o := HO.lst (gs ++ z1)) hpj)
      obtain ⟨x8, hx8, lx8, gx8⟩ := fd.ext fj
      have npj : pj ≠ L := (ne_of_none (eA _ _ (fd.ext (Same.refl _)).choose_spec.1) hpj).symm
      have hpj0 : (L2.upd HA pj (.lst (gs ++ z1))) pj = some (.lst (gs ++ z1)) := upd_same
      have nl8 := nlf fd
      have rj : ∀ v ∈ gs ++ z1, ItV K d v (L2.upd HA pj (.lst (gs ++ z1))) := fun v hv => by
        rcases List.mem_append.mp hv with hv | hv
        · exact (((rg7 v hv).nl nl8).nl (nl_same fj)).v
        · exact (rz1 v hv).nl (nl_same (same_upd hpj))
      have lj : (gs ++ z1).length ≤ 10 := by rw [List.length_append]; omega
      have btj : But L H0 (L2.upd HA pj (.lst (gs ++ z1))) := fd.bt.trans (But.same fj)
      have fdj : Fd K d L H0 (L2.upd HA pj (.lst (gs ++ z1))) (i * 100 + d.bs.length * 20) := by
        obtain ⟨xs, a1, a2, a3⟩ := fd.ex
        exact ⟨btj, xs, fj _ _ a1, a2, fun v hv => (a3 v hv).nl (nl_same fj)⟩
      generalize L2.upd HA pj (.lst (gs ++ z1)) = HJ at *
      generalize gs ++ z1 = js at *
      refine ⟨pj, rfl, ⟨_, SqL.of hpj0⟩, ?_⟩
      refine for_list (K := K) (a := pj) (xs := js) (fun j σ H' => ∃ vi : Option V, σ = [some (.ref a), some (.ref hp), some (.ref ab), some (.ref at'), some (.ref as), some (.ref pg), some (.ref L), some (.int (u : Nat)), vb, vi, none, none, none, none, none] ∧ Fd K d L H0 H' (i * 100 + d.bs.length * 20 + j * 4) ∧ But L HJ H')
        ⟨vi, rfl, fdj.more (by omega), But.refl _ _⟩ (fun j σ H' _ ⟨_, _, _, bj⟩ => SqL.of (bj _ _ hpj0 npj)) ?_ ?_
      · rintro j y σ HK hj ⟨vi, rfl, fdk, bj⟩
        obtain ⟨xL, hxL, _, _⟩ := fdj.ex
        have nlJ : Nl HJ HK := bj.nl hxL
        obtain ⟨x2, hx2, lx2, _⟩ := fdk.ext (Same.refl _)
        refine ⟨_, rfl, .inl ⟨rfl, _, SqL.of hx2⟩, _, rfl, hp, rfl, ⟨_, SqL.of (fdk.bt _ _ hhp7 nhp)⟩, fun D7 hD7 => ?_⟩
        refine lc_mk (K := K) (fun v H => DdU K d v H) (fun _ _ _ k h => h.nl k) (SqL.of (fdk.bt _ _ hhp7 nhp)) (by rw [nv_len]; omega) hD7 (fun m x H' N Y hm e hN hY => ?_) (fun HA2 z2 eA2 hz2 lz2 rz2 => ?_)
        · obtain ⟨o, ho', rfl⟩ := nv_get hm
          have ho2 := hub o ho'
          obtain ⟨p, hp1, hp2⟩ := ((rj y (List.mem_of_getElem? hj)).nl nlJ).nl (nl_same e)
          refine ⟨_, rfl, _, rfl, rfl, _, rfl, ite_b _ (fun cne => ?_) (fun _ => hN _ (Same.refl _))⟩
          refine ⟨_, rfl, _, rfl, _, rfl, (by show 4 ≤ sizeLine; decide), fun t2 ht2 => hY _ _ (same_upd ht2) ⟨.give u p o, .tup (SqT.of upd_same) (.cons (.str _) (.cons (.int _) (.cons (Dp.same (same_upd ht2) _ _ hp1) (.cons (.int _) .nil)))), ⟨?_, hb', ho2, ne_ints cne⟩, (⟨ul, by have := rl4 p.1; omega, by omega⟩ : u ≤ 1000 ∧ p.2 ≤ 1000 ∧ o ≤ 1000)⟩⟩
          show (whereD d p).isSome = true
          unfold whereD
          rw [List.getElem?_eq_getElem hp2]
          rfl
        rw [nv_len] at lz2
        obtain ⟨x3, hx3, lx3, gx3⟩ := fdk.ext eA2
        have j1 := (List.getElem?_eq_some_iff.mp hj).1
        refine ⟨L, D7, x3, z2, rfl, rfl, hx3, hz2, by rw [sizeLine_eq]; omega, ?_⟩
        have fd2 := gx3 z2 4 (by omega) rz2
        refine ⟨_, rfl, fd2.more (by omega), fun b o hb nb => ?_⟩
        rw [upd_ne nb]
        exact eA2 _ _ (bj b o hb nb)
      · rintro σ HK ⟨vi, rfl, fdk, bj⟩
        exact ⟨_, _, _, rfl, fdk.more (by omega)⟩
    -- those that can be done, in order
    rintro σ H7 ⟨vh, vb, vi, rfl, fd⟩
    rw [nv_len] at fd
    obtain ⟨x8, hx8, lx8, rx8⟩ := fd.ex
    have e8 : Same H H7 := fun b o h => fd.bt b o (eH b o h) (noldL b o h)
    refine ⟨_, rfl, L, rfl, ⟨_, SqL.of hx8⟩, fun D9 hD9 => ?_⟩
    refine lc_mk (K := K) (fun v H => DdV K d v H) (fun _ _ _ k h => h.nl k) (SqL.of hx8) (by omega) hD9 (fun m x H' N Y hm e hN hY => ?_) (fun H9 z9 e9 hz9 lz9 rz9 => ?_)
    · obtain ⟨ed, he1, he2⟩ := (rx8 x (List.mem_of_getElem? hm)).nl (nl_same e)
      refine ⟨_, rfl, _, rfl, _, _, d, ed, rfl, Dp.same (e8.trans e) _ _ hx, he1, he2.1.1, fun H'' e'' => ⟨rfl, _, rfl, ?_⟩⟩
      rw [decS]
      refine ite_b _ (fun z => ⟨_, rfl, hY _ _ e'' ⟨ed, Dp.same e'' _ _ he1, ⟨he2.1.1, he2.1.2, of_decide_eq_true z⟩, he2.2⟩⟩) (fun _ => hN _ e'')
    obtain ⟨es, hes⟩ := dds_all rz9
    refine ⟨D9, z9, es.map ddD, rfl, SqL.of hz9, hes, fun q hq => ?_, fun q hq q' hq' => ?_, fun ys p hperm hp9 => ?_⟩
    · obtain ⟨e', _, rfl⟩ := List.mem_map.mp hq
      exact sd_dd e'
    · obtain ⟨e', _, rfl⟩ := List.mem_map.mp hq
      obtain ⟨f', _, rfl⟩ := List.mem_map.mp hq'
      exact tc_dd e' f'
    · have eL := e8.trans e9
      refine k p ys _ (eL.trans (same_upd hp9)) ?_ upd_same (by rw [hperm.length_eq]; omega) (fun v hv => (rz9 v (hperm.mem_iff.mp hv)).nl (nl_same (same_upd hp9)))
      cases hq : H p with
      | none => rfl
      | some o =>
        have := eL _ _ hq
        rw [hp9] at this
        cases this
def spDeedsT (K : PySem.W.Frag) : Sp := fun vs H Q _ => ∃ (x : V) (hp : Addr) (d : Hs) (hs : List Nat), vs = [x, .ref hp] ∧ Dp K H x (stD d) ∧ SqT K H hp (nV hs) ∧ hs.length ≤ 4 ∧ (∀ u ∈ hs, (u : Int) < d.hands) ∧ d.hands ≤ 4 ∧ d.bs.length ≤ 3 ∧ d.ts.length ≤ 4 ∧ d.ss.length ≤ 3 ∧
  ∀ (p : Addr) (xs : List V) (H' : Hp), Same H H' → H p = none → H' p = some (.lst xs) → xs.length ≤ 400 → (∀ v ∈ xs, DdV K d v H') → Q (.ref p) H'
theorem scDeedsT : FnScope ["_law_state", "_law_hands_here", "_law_boxes", "_law_things", "_law_seals", "_law_goods", "_law_found", "_law_hand", "_law_box", "_law_item", "_law_row", "_law_number", "_law_seal", "_law_other", "_law_deed"] ["_law_state", "_law_hands_here"] (defScope sDeeds) := ⟨rfl, rfl, rfl, by decide +kernel, rfl, by decide +kernel, by decide +kernel⟩
theorem ok_deedsT {f g : Addr} {fd fdg : FuncData} (F : Fun K "_law_deeds" "_law_deeds" sDeeds f fd) (B : Bt mg) (mS : mg "sorted" = none) (G : FnOk P w K mg base CX0 2 g fdg ["_law_state", "_law_deed"] (spBar K)) (mG : mg "_law_bar" = some (.ref g)) (kG : PySem.W.keepIn K (.ref g) = true) (bG : Binds K fdg ["_law_state", "_law_deed"] []) :
    FnOk P w K mg base CX0 3 f fd ["_law_state", "_law_hands_here"] (spDeedsT K) := by
  refine F.ok scDeedsT (fun vs H Q E h => ?_) (fun cdv A outer s H vs Q E hr h => ?_)
  · obtain ⟨x, hp, d, hs, rfl, _⟩ := h
    rfl
  · obtain ⟨x, hp, d, hs, rfl, hx, hhp, hn, hub, hd4, lb, lt, ls, k⟩ := h
    have hu : (cxOf CX0 P w K mg base ["_law_state", "_law_hands_here", "_law_boxes", "_law_things", "_law_seals", "_law_goods", "_law_found", "_law_hand", "_law_box", "_law_item", "_law_row", "_law_number", "_law_seal", "_law_other", "_law_deed"] "_law_deeds" (defScope sDeeds) f cdv A outer s H E).nox.A.units + 64 < cLine := by have := hr.un; show (A.deeper _).units + 64 < cLine; omega
    have hu60 : (cxOf CX0 P w K mg base ["_law_state", "_law_hands_here", "_law_boxes", "_law_things", "_law_seals", "_law_goods", "_law_found", "_law_hand", "_law_box", "_law_item", "_law_row", "_law_number", "_law_seal", "_law_other", "_law_deed"] "_law_deeds" (defScope sDeeds) f cdv A outer s H E).nox.A.units + 60 < cLine := by omega
    have hr1 : Room 2 _ := hr
    refine ⟨_, (pss_cons (ps_asg (pe_lc (own := [("_law_row", 10)]) (g := gName 10) (tt := tYes) (te := tLstRg (tRg1 (tCB (fun xs H Q => ∃ p ys, xs = [V.ref p] ∧ (SqL K H p ys ∨ SqT K H p ys) ∧ Q (.int ys.length) H) (tCons (tVar 10) tNil)))) rfl scDeedsT.nd (pi_tup (pv 0)) (blkOk_by (own := [("_law_row", 10)]) (N := ["_law_state", "_law_hands_here", "_law_boxes", "_law_things", "_law_seals", "_law_goods", "_law_found", "_law_hand", "_law_box", "_law_item", "_law_row", "_law_number", "_law_seal", "_law_other", "_law_deed"]) (sc := defScope sDeeds) (by decide +kernel)) (fun _ _ _ _ _ => pg_name (i := 10) scDeedsT.nd rfl (.inl rfl)) (fun _ _ _ _ _ => pts_nil) (fun _ _ _ _ _ => pe_listRg rfl (by rfl) B.lst (prg_1 (by rfl) B.rng (pe_callB call_len_seq (by rfl) B.len PySem.boot_len (pa_cons (pv 10) pa_nil))))) (pg_lst rfl (pgs_cons (pg_name (i := 2) scDeedsT.nd rfl (.inl rfl)) (pgs_cons (pg_name (i := 3) scDeedsT.nd rfl (.inl rfl)) (pgs_cons (pg_name (i := 4) scDeedsT.nd rfl (.inl rfl)) pgs_nil)))))
      (pss_cons (ps_set (i := 5) scDeedsT.nd rfl (.inl rfl) (pe_op op_cat (pe_lc (own := [("_law_number", 11)]) (g := gName 11) (tt := tYes) (te := (tTup (tCons (tC (.str ("box" : Str))) (tCons (tVar 11) (tNil))))) rfl scDeedsT.nd (pi_list (pv 2)) (blkOk_by (own := [("_law_number", 11)]) (N := ["_law_state", "_law_hands_here", "_law_boxes", "_law_things", "_law_seals", "_law_goods", "_law_found", "_law_hand", "_law_box", "_law_item", "_law_row", "_law_number", "_law_seal", "_law_other", "_law_deed"]) (sc := defScope sDeeds) (by decide +kernel)) (fun _ _ _ _ _ => pg_name (i := 11) scDeedsT.nd rfl (.inl rfl)) (fun _ _ _ _ _ => pts_nil) (fun _ _ _ _ _ => (pe_tup (pa_cons pe_str (pa_cons (pv 11) (pa_nil)))))) (pe_lc (own := [("_law_number", 11)]) (g := gName 11) (tt := tYes) (te := (tTup (tCons (tC (.str ("thing" : Str))) (tCons (tVar 11) (tNil))))) rfl scDeedsT.nd (pi_list (pv 3)) (blkOk_by (own := [("_law_number", 11)]) (N := ["_law_state", "_law_hands_here", "_law_boxes", "_law_things", "_law_seals", "_law_goods", "_law_found", "_law_hand", "_law_box", "_law_item", "_law_row", "_law_number", "_law_seal", "_law_other", "_law_deed"]) (sc := defScope sDeeds) (by decide +kernel)) (fun _ _ _ _ _ => pg_name (i := 11) scDeedsT.nd rfl (.inl rfl)) (fun _ _ _ _ _ => pts_nil) (fun _ _ _ _ _ => (pe_tup (pa_cons pe_str (pa_cons (pv 11) (pa_nil))))))))
      (pss_cons (ps_set (i := 6) scDeedsT.nd rfl (.inl rfl) (pe_lst pa_nil))
      (pss_cons (ps_for PassesOwn.never rfl (pi_tup (pv 1)) (pg_name (i := 7) scDeedsT.nd rfl (.inr rfl)) (pss_cons (ps_for PassesOwn.never rfl (pi_list (pv 2)) (pg_name (i := 8) scDeedsT.nd rfl (.inr rfl)) (pss_cons (ps_expr (pe_bm PySem.F.plainAttrs_list PySem.F.slot_list_append PySem.F.type_list_append mt_append (pv 6) (pa_cons (pe_tup (pa_cons pe_str (pa_cons (pv 7) (pa_cons (pv 8) (pa_nil))))) pa_nil)))
      (pss_cons (ps_expr (pe_bm PySem.F.plainAttrs_list PySem.F.slot_list_extend PySem.F.type_list_extend mt_extend (pv 6) (pa_cons (pe_lc (own := [("_law_seal", 12)]) (g := gName 12) (tt := tYes) (te := (tTup (tCons (tC (.str ("seal" : Str))) (tCons (tVar 7) (tCons (tVar 8) (tCons (tVar 12) (tNil))))))) rfl scDeedsT.nd (pi_list (pv 4)) (blkOk_by (own := [("_law_seal", 12)]) (N := ["_law_state", "_law_hands_here", "_law_boxes", "_law_things", "_law_seals", "_law_goods", "_law_found", "_law_hand", "_law_box", "_law_item", "_law_row", "_law_number", "_law_seal", "_law_other", "_law_deed"]) (sc := defScope sDeeds) (by decide +kernel)) (fun _ _ _ _ _ => pg_name (i := 12) scDeedsT.nd rfl (.inl rfl)) (fun _ _ _ _ _ => pts_nil) (fun _ _ _ _ _ => (pe_tup (pa_cons pe_str (pa_cons (pv 7) (pa_cons (pv 8) (pa_cons (pv 12) (pa_nil)))))))) pa_nil)))
      (pss_cons (ps_expr (pe_bm PySem.F.plainAttrs_list PySem.F.slot_list_extend PySem.F.type_list_extend mt_extend (pv 6) (pa_cons (pe_lc (own := [("_law_item", 9)]) (g := gName 9) (tt := (tTest (tOp (rNeD K) (tVar 9) (tTup (tCons (tC (.str ("box" : Str))) (tCons (tVar 8) tNil)))))) (te := (tTup (tCons (tC (.str ("put" : Str))) (tCons (tVar 7) (tCons (tVar 9) (tCons (tVar 8) (tNil))))))) rfl scDeedsT.nd (pi_list (pv 5)) (blkOk_by (own := [("_law_item", 9)]) (N := ["_law_state", "_law_hands_here", "_law_boxes", "_law_things", "_law_seals", "_law_goods", "_law_found", "_law_hand", "_law_box", "_law_item", "_law_row", "_law_number", "_law_seal", "_law_other", "_law_deed"]) (sc := defScope sDeeds) (by decide +kernel)) (fun _ _ _ _ _ => pg_name (i := 9) scDeedsT.nd rfl (.inl rfl)) (fun _ _ _ _ _ => pts_one (pt_cmpR (op_neD hu) (pv 9) (pe_tup (pa_cons pe_str (pa_cons (pv 8) pa_nil))) (nomark _))) (fun _ _ _ _ _ => (pe_tup (pa_cons pe_str (pa_cons (pv 7) (pa_cons (pv 9) (pa_cons (pv 8) (pa_nil)))))))) pa_nil)))
      (pss_one (ps_expr (pe_bm PySem.F.plainAttrs_list PySem.F.slot_list_extend PySem.F.type_list_extend mt_extend (pv 6) (pa_cons (pe_lc (own := [("_law_item", 9)]) (g := gName 9) (tt := (tTest (tOp (rNeD K) (tVar 9) (tTup (tCons (tC (.str ("box" : Str))) (tCons (tVar 8) tNil)))))) (te := (tTup (tCons (tC (.str ("take" : Str))) (tCons (tVar 7) (tCons (tVar 9) (tCons (tVar 8) (tNil))))))) rfl scDeedsT.nd (pi_list (pv 5)) (blkOk_by (own := [("_law_item", 9)]) (N := ["_law_state", "_law_hands_here", "_law_boxes", "_law_things", "_law_seals", "_law_goods", "_law_found", "_law_hand", "_law_box", "_law_item", "_law_row", "_law_number", "_law_seal", "_law_other", "_law_deed"]) (sc := defScope sDeeds) (by decide +kernel)) (fun _ _ _ _ _ => pg_name (i := 9) scDeedsT.nd rfl (.inl rfl)) (fun _ _ _ _ _ => pts_one (pt_cmpR (op_neD hu) (pv 9) (pe_tup (pa_cons pe_str (pa_cons (pv 8) pa_nil))) (nomark _))) (fun _ _ _ _ _ => (pe_tup (pa_cons pe_str (pa_cons (pv 7) (pa_cons (pv 9) (pa_cons (pv 8) (pa_nil)))))))) pa_nil))))))))
      (pss_one (ps_for PassesOwn.never rfl (pi_list (pe_op op_cat (pv 5) (pe_lc (own := [("_law_seal", 12)]) (g := gName 12) (tt := tYes) (te := (tTup (tCons (tC (.str ("seal" : Str))) (tCons (tVar 12) (tNil))))) rfl scDeedsT.nd (pi_list (pv 4)) (blkOk_by (own := [("_law_seal", 12)]) (N := ["_law_state", "_law_hands_here", "_law_boxes", "_law_things", "_law_seals", "_law_goods", "_law_found", "_law_hand", "_law_box", "_law_item", "_law_row", "_law_number", "_law_seal", "_law_other", "_law_deed"]) (sc := defScope sDeeds) (by decide +kernel)) (fun _ _ _ _ _ => pg_name (i := 12) scDeedsT.nd rfl (.inl rfl)) (fun _ _ _ _ _ => pts_nil) (fun _ _ _ _ _ => (pe_tup (pa_cons pe_str (pa_cons (pv 12) (pa_nil)))))))) (pg_name (i := 9) scDeedsT.nd rfl (.inr rfl)) (pss_one (ps_expr (pe_bm PySem.F.plainAttrs_list PySem.F.slot_list_extend PySem.F.type_list_extend mt_extend (pv 6) (pa_cons (pe_lc (own := [("_law_other", 13)]) (g := gName 13) (tt := (tTest (tOp rNe (tVar 13) (tVar 7)))) (te := (tTup (tCons (tC (.str ("give" : Str))) (tCons (tVar 7) (tCons (tVar 9) (tCons (tVar 13) (tNil))))))) rfl scDeedsT.nd (pi_tup (pv 1)) (blkOk_by (own := [("_law_other", 13)]) (N := ["_law_state", "_law_hands_here", "_law_boxes", "_law_things", "_law_seals", "_law_goods", "_law_found", "_law_hand", "_law_box", "_law_item", "_law_row", "_law_number", "_law_seal", "_law_other", "_law_deed"]) (sc := defScope sDeeds) (by decide +kernel)) (fun _ _ _ _ _ => pg_name (i := 13) scDeedsT.nd rfl (.inl rfl)) (fun _ _ _ _ _ => pts_one (pt_cmpR op_ne (pv 13) (pv 7) (nomark _))) (fun _ _ _ _ _ => (pe_tup (pa_cons pe_str (pa_cons (pv 7) (pa_cons (pv 9) (pa_cons (pv 13) (pa_nil)))))))) pa_nil))))))))
      (pss_one (ps_ret (pe_callB (cr_sortD hu60) (by rfl) mS (by decide +kernel) (pa_cons (pe_lc (own := [("_law_deed", 14)]) (g := gName 14) (tt := (tTest (tOp rEq (tCall (spBar K) [] E0 (tCons (tVar 0) (tCons (tVar 14) tNil))) (tC (.str ("" : Str)))))) (te := tVar 14) rfl scDeedsT.nd (pi_list (pv 6)) (blkOk_by (own := [("_law_deed", 14)]) (N := ["_law_state", "_law_hands_here", "_law_boxes", "_law_things", "_law_seals", "_law_goods", "_law_found", "_law_hand", "_law_box", "_law_item", "_law_row", "_law_number", "_law_seal", "_law_other", "_law_deed"]) (sc := defScope sDeeds) (by decide +kernel)) (fun _ _ _ _ _ => pg_name (i := 14) scDeedsT.nd rfl (.inl rfl)) (fun _ _ _ _ _ => pts_one (pt_cmpR op_eq (pe_call G hr1 rfl mG kG bG .nil pass0 (pa_cons (pv 0) (pa_cons (pv 14) pa_nil))) pe_str (nomark _))) (fun _ _ _ _ _ => pv 14)) pa_nil)))))))), ?_⟩
    obtain ⟨a, v1, v2, v3, rfl, sa, d1, d2, d3⟩ := st_at hx
    have ilen : ∀ (j : Nat) (v : V), [v1, v2, v3][j]? = some v → ∃ l, (rows3 d)[j]? = some l ∧ Dp K H v (plsD l) := fun j v e => by
      match j, e with
      | 0, e => cases e; exact ⟨_, rfl, d1⟩
      | 1, e => cases e; exact ⟨_, rfl, d2⟩
      | 2, e => cases e; exact ⟨_, rfl, d3⟩
      | j + 3, e => simp at e
    have rlen : ∀ (j : Nat) (l : List Pl), (rows3 d)[j]? = some l → l.length ≤ 4 := fun j l e => by
      match j, e with
      | 0, e => cases e; omega
      | 1, e => cases e; omega
      | 2, e => cases e; omega
      | j + 3, e => simp [rows3] at e
    have rl4 : ∀ k, (rowOf d k).length ≤ 4 := fun k => by
      cases k
      · show d.bs.length ≤ 4; omega
      · show d.ts.length ≤ 4; omega
      · show d.ss.length ≤ 4; omega
    -- the numbers
    refine ⟨_, rfl, a, rfl, ⟨_, sa⟩, fun Dl hD => ?_⟩
    have e0 : ∀ (H' : Hp) (o : HO), Same H H' → Same H (L2.upd H' Dl o) := fun H' o e c u h => by rw [upd_ne (ne_of_none h hD)]; exact e c u h
    refine lc_tup (K := K) (a := a) (xs := [v1, v2, v3]) (fun i H' => Same H H' ∧ ∃ ls : List Addr, H' Dl = some (.lst (ls.map V.ref)) ∧ ls.length = i ∧ ∀ (j : Nat) b, ls[j]? = some b → b ≠ Dl ∧ ∃ l, (rows3 d)[j]? = some l ∧ H' b = some (.lst (rgV 0 (l.length : Nat)))) ⟨same_upd hD, [], upd_same, rfl, fun j b e => by simp at e⟩ (fun i H' _ ⟨e, _⟩ => SqT.same e sa) ?_ ?_
    · rintro i y H' hi ⟨e, ls, hls, ll, hall⟩
      obtain ⟨l, hl1, hl2⟩ := ilen i y hi
      obtain ⟨ar, xr, rfl, sr, dr, lr⟩ := pls_at hl2
      have hl4 := rlen i l hl1
      have i3 : i < 3 := (List.getElem?_eq_some_iff.mp hi).1
      refine ⟨wipe_one _ 10 _, yes_lc ?_⟩
      refine ⟨_, rfl, ar, xr, rfl, .inr (SqT.same e sr), _, rfl, RgOk.of_le (by omega) (by omega) (by omega) (by omega), fun q hq => ?_⟩
      have nq : q ≠ Dl := (ne_of_none hls hq).symm
      have f1 := same_upd (o := HO.lst (rgV 0 (xr.length : Nat))) hq
      have hls1 := f1 _ _ hls
      refine ⟨ls.map V.ref, hls1, by rw [sizeLine_eq, List.length_map]; omega, e0 _ _ (e.trans f1), ls ++ [q], ?_, by rw [List.length_append, ll]; rfl, fun j b hb => ?_⟩
      · rw [List.map_append]
        exact upd_same
      · by_cases c : j < ls.length
        · rw [List.getElem?_append_left c] at hb
          obtain ⟨g1, l', g2, g3⟩ := hall j b hb
          exact ⟨g1, l', g2, by rw [upd_ne g1]; exact f1 _ _ g3⟩
        · have ej : j = ls.length := by
            have := (List.getElem?_eq_some_iff.mp hb).1
            simp at this
            omega
          subst ej
          rw [List.getElem?_append_right (Nat.le_refl _), Nat.sub_self] at hb
          have ex : q = b := by simpa using hb
          subst ex
          exact ⟨nq, l, by rw [ll]; exact hl1, by rw [upd_ne nq, ← lr]; exact upd_same⟩
    rintro H3 ⟨e3, ls, hls, ll, hall⟩
    have ll : ls.length = 3 := ll
    obtain ⟨ab, at', as, rfl⟩ : ∃ x y z, ls = [x, y, z] := by
      match ls, ll with
      | [x, y, z], _ => exact ⟨x, y, z, rfl⟩
    obtain ⟨_, l1, q1, hab⟩ := hall 0 ab rfl
    obtain ⟨_, l2, q2, hat⟩ := hall 1 at' rfl
    obtain ⟨_, l3, q3, has⟩ := hall 2 as rfl
    cases q1
    cases q2
    cases q3
    refine ⟨Dl, _, rfl, SqL.of hls, rfl, _, _, rfl, _, _, rfl, _, _, rfl, rfl, ?_⟩
    -- boxes and things
    refine ⟨_, rfl, ab, rfl, ⟨_, SqL.of hab⟩, fun D1 hD1 => ?_⟩
    refine lc_mk (K := K) (fun v H => ItG K d v H) (fun _ _ _ k h => h.nl k) (SqL.of hab) (by rw [rg_len]; omega) hD1 (fun i x H' N Y hi e hN hY => ?_) (fun H4 g1 e4 hg1 lg1 rg1 => ?_)
    · obtain ⟨hi', rfl⟩ := rg_get hi
      exact yes_lc ⟨_, rfl, (by show 2 ≤ sizeLine; decide), fun t ht => hY _ _ (same_upd ht) ⟨(.box, i), .tup (SqT.of upd_same) (.cons (.str _) (.cons (.int _) .nil)), hi', by intro z; cases z⟩⟩
    refine ⟨_, rfl, at', rfl, ⟨_, SqL.of (e4 _ _ hat)⟩, fun D2 hD2 => ?_⟩
    refine lc_mk (K := K) (fun v H => ItG K d v H) (fun _ _ _ k h => h.nl k) (SqL.of (e4 _ _ hat)) (by rw [rg_len]; omega) hD2 (fun i x H' N Y hi e hN hY => ?_) (fun H5 g2 e5 hg2 lg2 rg2 => ?_)
    · obtain ⟨hi', rfl⟩ := rg_get hi
      exact yes_lc ⟨_, rfl, (by show 2 ≤ sizeLine; decide), fun t ht => hY _ _ (same_upd ht) ⟨(.thing, i), .tup (SqT.of upd_same) (.cons (.str _) (.cons (.int _) .nil)), hi', by intro z; cases z⟩⟩
    rw [rg_len] at lg1 lg2
    refine ⟨D1, D2, g1, g2, rfl, rfl, e5 _ _ hg1, hg2, by rw [sizeLine_eq]; omega, fun pg hpg => ?_⟩
    have e6 := same_upd (o := HO.lst (g1 ++ g2)) hpg
    have hpg6 : (L2.upd H5 pg (.lst (g1 ++ g2))) pg = some (.lst (g1 ++ g2)) := upd_same
    have rg6 : ∀ v ∈ g1 ++ g2, ItG K d v (L2.upd H5 pg (.lst (g1 ++ g2))) := fun v hv => by
      rcases List.mem_append.mp hv with hv | hv
      · exact (rg1 v hv).nl (nl_same (e5.trans e6))
      · exact (rg2 v hv).nl (nl_same e6)
    have lg : (g1 ++ g2).length ≤ 7 := by rw [List.length_append]; omega
    have e36 := e4.trans (e5.trans e6)
    generalize L2.upd H5 pg (.lst (g1 ++ g2)) = H6 at *
    generalize g1 ++ g2 = gs at *
    refine ⟨(by show 0 ≤ sizeLine; decide), fun L hL => ?_⟩
    have e7 := same_upd (o := HO.lst []) hL
    have e37 := e36.trans e7
    have eH := e3.trans e37
    have hL0 : (L2.upd H6 L (.lst [])) L = some (.lst []) := upd_same
    have hab7 := e37 _ _ hab
    have hat7 := e37 _ _ hat
    have has7 := e37 _ _ has
    have hpg7 := e7 _ _ hpg6
    have hhp7 := SqT.same eH hhp
    have rg7 : ∀ v ∈ gs, ItG K d v (L2.upd H6 L (.lst [])) := fun v hv => (rg6 v hv).nl (nl_same e7)
    have hx7 := Dp.same eH _ _ hx
    have nab : ab ≠ L := ne_of_none (e36 _ _ hab) hL
    have nat : at' ≠ L := ne_of_none (e36 _ _ hat) hL
    have nas : as ≠ L := ne_of_none (e36 _ _ has) hL
    have npg : pg ≠ L := ne_of_none hpg6 hL
    have noldL : ∀ (b : Addr) o, H b = some o → b ≠ L := fun b o h => ne_of_none (e36 _ _ (e3 _ _ h)) hL
    generalize L2.upd H6 L (.lst []) = H0 at *
    have nlf : ∀ {H' : Hp} {m : Nat}, Fd K d L H0 H' m → Nl H0 H' := fun fd => fd.bt.nl hL0
    -- hand by hand
    refine ⟨_, rfl, hp, rfl, ⟨_, hhp7⟩, ?_⟩
    refine for_tup (K := K) (a := hp) (xs := nV hs) (fun i σ H' => ∃ vh vb vi : Option V, σ = [some (.ref a), some (.ref hp), some (.ref ab), some (.ref at'), some (.ref as), some (.ref pg), some (.ref L), vh, vb, vi, none, none, none, none, none] ∧ Fd K d L H0 H' (i * 100))
      ⟨none, none, none, rfl, But.refl _ _, [], hL0, by simp, fun v hv => nomatch hv⟩ (fun i σ H' _ ⟨_, _, _, _, fd⟩ => SqT.nl (nlf fd) hhp7) ?_ ?_
    · rintro i y σ H7 hi ⟨vh, vb, vi, rfl, fd⟩
      obtain ⟨u, hu', rfl⟩ := nv_get hi
      have hb' := hub u hu'
      have ul : u ≤ 1000 := by omega
      have hi' : i < hs.length := by have := (List.getElem?_eq_some_iff.mp hi).1; rw [nv_len] at this; exact this
      -- box by box
      refine ⟨_, rfl, ab, rfl, ⟨_, SqL.of (fd.bt _ _ hab7 nab)⟩, ?_⟩
      refine for_list (K := K) (a := ab) (xs := rgV 0 (d.bs.length : Nat)) (fun j σ H' => ∃ vb vi : Option V, σ = [some (.ref a), some (.ref hp), some (.ref ab), some (.ref at'), some (.ref as), some (.ref pg), some (.ref L), some (.int (u : Nat)), vb, vi, none, none, none, none, none] ∧ Fd K d L H0 H' (i * 100 + j * 20))
        ⟨vb, vi, rfl, fd⟩ (fun j σ H' _ ⟨_, _, _, fd⟩ => SqL.of (fd.bt _ _ hab7 nab)) ?_ ?_
      · rintro j y σ H8 hj ⟨vb, vi, rfl, fd⟩
        obtain ⟨hj', rfl⟩ := rg_get hj
        obtain ⟨x0, hx0, lx0, _⟩ := fd.ext (Same.refl _)
        refine ⟨_, rfl, .inl ⟨rfl, _, SqL.of hx0⟩, _, rfl, _, rfl, (by show 3 ≤ sizeLine; decide), fun t1 ht1 => ?_⟩
        have f1 := same_upd (o := HO.tup [V.str ("break" : Str), .int (u : Nat), .int (j : Nat)]) ht1
        obtain ⟨x1, hx1, lx1, gx1⟩ := fd.ext f1
        refine ⟨L, x1, .ref t1, rfl, rfl, hx1, by rw [sizeLine_eq]; omega, ?_⟩
        have fd1 := gx1 [.ref t1] 1 (Nat.le_refl _) (fun v hv => by
          have ev : v = .ref t1 := by simpa using hv
          subst ev
          exact ⟨.brk u j, .tup (SqT.of upd_same) (.cons (.str _) (.cons (.int _) (.cons (.int _) .nil))), ⟨hj', hb'⟩, (⟨ul, by omega⟩ : u ≤ 1000 ∧ j ≤ 1000)⟩)
        generalize L2.upd (L2.upd H8 t1 (HO.tup [V.str ("break" : Str), .int (u : Nat), .int (j : Nat)])) L (.lst (x1 ++ [.ref t1])) = H9 at *
        -- seals
        obtain ⟨x2, hx2, lx2, _⟩ := fd1.ext (Same.refl _)
        refine ⟨_, rfl, .inl ⟨rfl, _, SqL.of hx2⟩, _, rfl, as, rfl, ⟨_, SqL.of (fd1.bt _ _ has7 nas)⟩, fun D3 hD3 => ?_⟩
        refine lc_mk (K := K) (fun v H => DdU K d v H) (fun _ _ _ k h => h.nl k) (SqL.of (fd1.bt _ _ has7 nas)) (by rw [rg_len]; omega) hD3 (fun m x H' N Y hm e hN hY => ?_) (fun HA z1 eA hz1 lz1 rz1 => ?_)
        · obtain ⟨hm', rfl⟩ := rg_get hm
          exact yes_lc ⟨_, rfl, _, rfl, _, rfl, (by show 4 ≤ sizeLine; decide), fun t ht => hY _ _ (same_upd ht) ⟨.lock u j m, .tup (SqT.of upd_same) (.cons (.str _) (.cons (.int _) (.cons (.int _) (.cons (.int _) .nil)))), ⟨⟨hj', hm'⟩, hb'⟩, (⟨ul, by omega, by omega⟩ : u ≤ 1000 ∧ j ≤ 1000 ∧ m ≤ 1000)⟩⟩
        rw [rg_len] at lz1
        obtain ⟨x3, hx3, lx3, gx3⟩ := fd1.ext eA
        refine ⟨L, D3, x3, z1, rfl, rfl, hx3, hz1, by rw [sizeLine_eq]; omega, ?_⟩
        have fd2 := gx3 z1 3 (by omega) rz1
        generalize L2.upd HA L (.lst (x3 ++ z1)) = HB at *
        -- put
        obtain ⟨x4, hx4, lx4, _⟩ := fd2.ext (Same.refl _)
        refine ⟨_, rfl, .inl ⟨rfl, _, SqL.of hx4⟩, _, rfl, pg, rfl, ⟨_, SqL.of (fd2.bt _ _ hpg7 npg)⟩, fun D4 hD4 => ?_⟩
        have nlB := nlf fd2
        refine lc_mk (K := K) (fun v H => DdU K d v H) (fun _ _ _ k h => h.nl k) (SqL.of (fd2.bt _ _ hpg7 npg)) (by omega) hD4 (fun m x H' N Y hm e hN hY => ?_) (fun HC z2 eC hz2 lz2 rz2 => ?_)
        · obtain ⟨p, hp1, hp2, hp3⟩ := ((rg7 x (List.mem_of_getElem? hm)).nl nlB).nl (nl_same e)
          refine ⟨_, rfl, _, rfl, (by show 2 ≤ sizeLine; decide), fun t ht => ?_⟩
          have ft := same_upd (o := HO.tup [V.str ("box" : Str), .int (j : Nat)]) ht
          refine ⟨itP p, itP (.box, j), Dp.same ft _ _ hp1, .tup (SqT.of upd_same) (.cons (.str _) (.cons (.int _) .nil)), shaped_it _, shaped_it _, _, rfl, ite_b _ (fun cne => ?_) (fun _ => hN _ ft)⟩
          refine ⟨_, rfl, _, rfl, _, rfl, (by show 4 ≤ sizeLine; decide), fun t2 ht2 => hY _ _ (ft.trans (same_upd ht2)) ⟨.put u p j, .tup (SqT.of upd_same) (.cons (.str _) (.cons (.int _) (.cons (Dp.same (ft.trans (same_upd ht2)) _ _ hp1) (.cons (.int _) .nil)))), ⟨⟨?_, hj'⟩, hb', (fun z => by rw [eqv_it, decide_eq_true z] at cne; cases cne), hp3⟩, (⟨ul, by have := rl4 p.1; omega, by omega⟩ : u ≤ 1000 ∧ p.2 ≤ 1000 ∧ j ≤ 1000)⟩⟩
          unfold whereD
          rw [List.getElem?_eq_getElem hp2]
          rfl
        obtain ⟨x5, hx5, lx5, gx5⟩ := fd2.ext eC
        refine ⟨L, D4, x5, z2, rfl, rfl, hx5, hz2, by rw [sizeLine_eq]; omega, ?_⟩
        have fd3 := gx5 z2 7 (by omega) rz2
        generalize L2.upd HC L (.lst (x5 ++ z2)) = HE at *
        -- take
        obtain ⟨x6, hx6, lx6, _⟩ := fd3.ext (Same.refl _)
        refine ⟨_, rfl, .inl ⟨rfl, _, SqL.of hx6⟩, _, rfl, pg, rfl, ⟨_, SqL.of (fd3.bt _ _ hpg7 npg)⟩, fun D5 hD5 => ?_⟩
        have nlE := nlf fd3
        refine lc_mk (K := K) (fun v H => DdU K d v H) (fun _ _ _ k h => h.nl k) (SqL.of (fd3.bt _ _ hpg7 npg)) (by omega) hD5 (fun m x H' N Y hm e hN hY => ?_) (fun HF z3 eF hz3 lz3 rz3 => ?_)
        · obtain ⟨p, hp1, hp2, hp3⟩ := ((rg7 x (List.mem_of_getElem? hm)).nl nlE).nl (nl_same e)
          refine ⟨_, rfl, _, rfl, (by show 2 ≤ sizeLine; decide), fun t ht => ?_⟩
          have ft := same_upd (o := HO.tup [V.str ("box" : Str), .int (j : Nat)]) ht
          refine ⟨itP p, itP (.box, j), Dp.same ft _ _ hp1, .tup (SqT.of upd_same) (.cons (.str _) (.cons (.int _) .nil)), shaped_it _, shaped_it _, _, rfl, ite_b _ (fun cne => ?_) (fun _ => hN _ ft)⟩
          refine ⟨_, rfl, _, rfl, _, rfl, (by show 4 ≤ sizeLine; decide), fun t2 ht2 => hY _ _ (ft.trans (same_upd ht2)) ⟨.take u p j, .tup (SqT.of upd_same) (.cons (.str _) (.cons (.int _) (.cons (Dp.same (ft.trans (same_upd ht2)) _ _ hp1) (.cons (.int _) .nil)))), ⟨⟨?_, hj'⟩, hb', (fun z => by rw [eqv_it, decide_eq_true z] at cne; cases cne), hp3⟩, (⟨ul, by have := rl4 p.1; omega, by omega⟩ : u ≤ 1000 ∧ p.2 ≤ 1000 ∧ j ≤ 1000)⟩⟩
          unfold whereD
          rw [List.getElem?_eq_getElem hp2]
          rfl
        obtain ⟨x7, hx7', lx7, gx7⟩ := fd3.ext eF
        refine ⟨L, D5, x7, z3, rfl, rfl, hx7', hz3, by rw [sizeLine_eq]; omega, ?_⟩
        have fd4 := gx7 z3 7 (by omega) rz3
        exact ⟨_, _, rfl, fd4.more (by omega)⟩
      rintro σ H8 ⟨vb, vi, rfl, fd⟩
      rw [rg_len] at fd
      -- what is given
      refine ⟨_, rfl, _, rfl, as, rfl, ⟨_, SqL.of (fd.bt _ _ has7 nas)⟩, fun D6 hD6 => ?_⟩
      refine lc_mk (K := K) (fun v H => ItV K d v H) (fun _ _ _ k h => h.nl k) (SqL.of (fd.bt _ _ has7 nas)) (by rw [rg_len]; omega) hD6 (fun m x H' N Y hm e hN hY => ?_) (fun HA z1 eA hz1 lz1 rz1 => ?_)
      · obtain ⟨hm', rfl⟩ := rg_get hm
        exact yes_lc ⟨_, rfl, (by show 2 ≤ sizeLine; decide), fun t ht => hY _ _ (same_upd ht) ⟨(.sl, m), .tup (SqT.of upd_same) (.cons (.str _) (.cons (.int _) .nil)), hm'⟩⟩
      rw [rg_len] at lz1
      have hpgA := eA _ _ (fd.bt _ _ hpg7 npg)
      refine ⟨pg, D6, gs, z1, rfl, rfl, hpgA, hz1, by rw [sizeLine_eq]; omega, fun pj hpj => ?_⟩
      have fj := eA.trans (same_upd (o := HO.lst (gs ++ z1)) hpj)
      obtain ⟨x8, hx8, lx8, gx8⟩ := fd.ext fj
      have npj : pj ≠ L := (ne_of_none (eA _ _ (fd.ext (Same.refl _)).choose_spec.1) hpj).symm
      have hpj0 : (L2.upd HA pj (.lst (gs ++ z1))) pj = some (.lst (gs ++ z1)) := upd_same
      have nl8 := nlf fd
      have rj : ∀ v ∈ gs ++ z1, ItV K d v (L2.upd HA pj (.lst (gs ++ z1))) := fun v hv => by
        rcases List.mem_append.mp hv with hv | hv
        · exact (((rg7 v hv).nl nl8).nl (nl_same fj)).v
        · exact (rz1 v hv).nl (nl_same (same_upd hpj))
      have lj : (gs ++ z1).length ≤ 10 := by rw [List.length_append]; omega
      have btj : But L H0 (L2.upd HA pj (.lst (gs ++ z1))) := fd.bt.trans (But.same fj)
      have fdj : Fd K d L H0 (L2.upd HA pj (.lst (gs ++ z1))) (i * 100 + d.bs.length * 20) := by
        obtain ⟨xs, a1, a2, a3⟩ := fd.ex
        exact ⟨btj, xs, fj _ _ a1, a2, fun v hv => (a3 v hv).nl (nl_same fj)⟩
      generalize L2.upd HA pj (.lst (gs ++ z1)) = HJ at *
      generalize gs ++ z1 = js at *
      refine ⟨pj, rfl, ⟨_, SqL.of hpj0⟩, ?_⟩
      refine for_list (K := K) (a := pj) (xs := js) (fun j σ H' => ∃ vi : Option V, σ = [some (.ref a), some (.ref hp), some (.ref ab), some (.ref at'), some (.ref as), some (.ref pg), some (.ref L), some (.int (u : Nat)), vb, vi, none, none, none, none, none] ∧ Fd K d L H0 H' (i * 100 + d.bs.length * 20 + j * 4) ∧ But L HJ H')
        ⟨vi, rfl, fdj.more (by omega), But.refl _ _⟩ (fun j σ H' _ ⟨_, _, _, bj⟩ => SqL.of (bj _ _ hpj0 npj)) ?_ ?_
      · rintro j y σ HK hj ⟨vi, rfl, fdk, bj⟩
        obtain ⟨xL, hxL, _, _⟩ := fdj.ex
        have nlJ : Nl HJ HK := bj.nl hxL
        obtain ⟨x2, hx2, lx2, _⟩ := fdk.ext (Same.refl _)
        refine ⟨_, rfl, .inl ⟨rfl, _, SqL.of hx2⟩, _, rfl, hp, rfl, ⟨_, SqT.nl (nlf fdk) hhp7⟩, fun D7 hD7 => ?_⟩
        refine lc_mkT (K := K) (fun v H => DdU K d v H) (fun _ _ _ k h => h.nl k) (SqT.nl (nlf fdk) hhp7) (by rw [nv_len]; omega) hD7 (fun m x H' N Y hm e hN hY => ?_) (fun HA2 z2 eA2 hz2 lz2 rz2 => ?_)
        · obtain ⟨o, ho', rfl⟩ := nv_get hm
          have ho2 := hub o ho'
          obtain ⟨p, hp1, hp2⟩ := ((rj y (List.mem_of_getElem? hj)).nl nlJ).nl (nl_same e)
          refine ⟨_, rfl, _, rfl, rfl, _, rfl, ite_b _ (fun cne => ?_) (fun _ => hN _ (Same.refl _))⟩
          refine ⟨_, rfl, _, rfl, _, rfl, (by show 4 ≤ sizeLine; decide), fun t2 ht2 => hY _ _ (same_upd ht2) ⟨.give u p o, .tup (SqT.of upd_same) (.cons (.str _) (.cons (.int _) (.cons (Dp.same (same_upd ht2) _ _ hp1) (.cons (.int _) .nil)))), ⟨?_, hb', ho2, ne_ints cne⟩, (⟨ul, by have := rl4 p.1; omega, by omega⟩ : u ≤ 1000 ∧ p.2 ≤ 1000 ∧ o ≤ 1000)⟩⟩
          show (whereD d p).isSome = true
          unfold whereD
          rw [List.getElem?_eq_getElem hp2]
          rfl
        rw [nv_len] at lz2
        obtain ⟨x3, hx3, lx3, gx3⟩ := fdk.ext eA2
        have j1 := (List.getElem?_eq_some_iff.mp hj).1
        refine ⟨L, D7, x3, z2, rfl, rfl, hx3, hz2, by rw [sizeLine_eq]; omega, ?_⟩
        have fd2 := gx3 z2 4 (by omega) rz2
        refine ⟨_, rfl, fd2.more (by omega), fun b o hb nb => ?_⟩
        rw [upd_ne nb]
        exact eA2 _ _ (bj b o hb nb)
      · rintro σ HK ⟨vi, rfl, fdk, bj⟩
        exact ⟨_, _, _, rfl, fdk.more (by omega)⟩
    -- those that can be done, in order
    rintro σ H7 ⟨vh, vb, vi, rfl, fd⟩
    rw [nv_len] at fd
    obtain ⟨x8, hx8, lx8, rx8⟩ := fd.ex
    have e8 : Same H H7 := fun b o h => fd.bt b o (eH b o h) (noldL b o h)
    refine ⟨_, rfl, L, rfl, ⟨_, SqL.of hx8⟩, fun D9 hD9 => ?_⟩
    refine lc_mk (K := K) (fun v H => DdV K d v H) (fun _ _ _ k h => h.nl k) (SqL.of hx8) (by omega) hD9 (fun m x H' N Y hm e hN hY => ?_) (fun H9 z9 e9 hz9 lz9 rz9 => ?_)
    · obtain ⟨ed, he1, he2⟩ := (rx8 x (List.mem_of_getElem? hm)).nl (nl_same e)
      refine ⟨_, rfl, _, rfl, _, _, d, ed, rfl, Dp.same (e8.trans e) _ _ hx, he1, he2.1.1, fun H'' e'' => ⟨rfl, _, rfl, ?_⟩⟩
      rw [decS]
      refine ite_b _ (fun z => ⟨_, rfl, hY _ _ e'' ⟨ed, Dp.same e'' _ _ he1, ⟨he2.1.1, he2.1.2, of_decide_eq_true z⟩, he2.2⟩⟩) (fun _ => hN _ e'')
    obtain ⟨es, hes⟩ := dds_all rz9
    refine ⟨D9, z9, es.map ddD, rfl, SqL.of hz9, hes, fun q hq => ?_, fun q hq q' hq' => ?_, fun ys p hperm hp9 => ?_⟩
    · obtain ⟨e', _, rfl⟩ := List.mem_map.mp hq
      exact sd_dd e'
    · obtain ⟨e', _, rfl⟩ := List.mem_map.mp hq
      obtain ⟨f', _, rfl⟩ := List.mem_map.mp hq'
      exact tc_dd e' f'
    · have eL := e8.trans e9
      refine k p ys _ (eL.trans (same_upd hp9)) ?_ upd_same (by rw [hperm.length_eq]; omega) (fun v hv => (rz9 v (hperm.mem_iff.mp hv)).nl (nl_same (same_upd hp9)))
      cases hq : H p with
      | none => rfl
      | some o =>
        have := eL _ _ hq
        rw [hp9] at this
        cases this
end
end Kw


set_option Elab.async false
set_option linter.all false
set_option maxRecDepth 100000
set_option maxHeartbeats 4000000
/-! items in their order: p <= q, sorted over a list or a tuple of items -/
namespace Kw
open PySem PySem.Spec PyProof.Rows L2
def rkd : Kd → Int
  | .box => 0
  | .sl => 1
  | .thing => 2
def itKey (p : It) : Int × Int := (rkd p.1, (p.2 : Int))
def itLt (p q : It) : Bool := SrtO.lexB (itKey p) (itKey q)
theorem rkd_inj {k l : Kd} (h : rkd k = rkd l) : k = l := by
  cases k <;> cases l <;> first | rfl | exact absurd h (by decide)
theorem kd_lt (k l : Kd) : decide (k.str.cps.toList < l.str.cps.toList) = decide (rkd k < rkd l) := by
  cases k <;> cases l <;> decide +kernel
theorem itLt_iff {p q : It} : itLt p q = true ↔ rkd p.1 < rkd q.1 ∨ (p.1 = q.1 ∧ p.2 < q.2) := by
  unfold itLt
  rw [SrtO.lexB_iff]
  show rkd p.1 < rkd q.1 ∨ (rkd p.1 = rkd q.1 ∧ ((p.2 : Int) < q.2)) ↔ _
  constructor
  · rintro (h | ⟨h1, h2⟩)
    · exact .inl h
    · exact .inr ⟨rkd_inj h1, by omega⟩
  · rintro (h | ⟨h1, h2⟩)
    · exact .inl h
    · exact .inr ⟨by rw [h1], by omega⟩
theorem itLt_total {p q : It} (h1 : itLt p q = false) (h2 : itLt q p = false) : p = q := by
  have a1 : ¬ itLt p q = true := by rw [h1]; decide
  have a2 : ¬ itLt q p = true := by rw [h2]; decide
  rw [itLt_iff] at a1 a2
  have e1 : rkd p.1 = rkd q.1 := by
    by_cases c1 : rkd p.1 < rkd q.1
    · exact absurd (.inl c1) a1
    · by_cases c2 : rkd q.1 < rkd p.1
      · exact absurd (.inl c2) a2
      · omega
  have e2 := rkd_inj e1
  have e3 : p.2 = q.2 := by
    by_cases c1 : p.2 < q.2
    · exact absurd (.inr ⟨e2, c1⟩) a1
    · by_cases c2 : q.2 < p.2
      · exact absurd (.inr ⟨e2.symm, c2⟩) a2
      · omega
  exact Prod.ext e2 e3
/-! ### p <= q -/
def rLeI (K : PySem.W.Frag) : R2 := fun x y H Q => ∃ (a b : Addr) (p q : It), x = .ref a ∧ y = .ref b ∧ SqT K H a [.str p.1.str, .int (p.2 : Nat)] ∧ SqT K H b [.str q.1.str, .int (q.2 : Nat)] ∧ Q (.bl (!itLt q p)) H
theorem two_of {v : List Value} {x : Str} {i : Int} (r : Vals [V.str x, V.int i] v) : ∃ t u, v = [.str x t, .int i u] := by
  cases r with
  | cons r1 rr =>
    cases rr with
    | cons r2 rr =>
      cases rr
      obtain ⟨t, rfl⟩ := r1
      obtain ⟨u, rfl⟩ := r2
      exact ⟨t, u, rfl⟩
theorem op_leI {X : Cx} (hu : X.A.units < cLine) : OpR X (compareOp .LtE) (rLeI X.K) := by
  intro pins s σ H x y v u Q I rx ry h
  obtain ⟨a, b, p, q, rfl, rfl, ha, hb, hq⟩ := h
  cases rx
  cases ry
  obtain ⟨its, r1, p1, _⟩ := I.tuple ha
  obtain ⟨its2, r2, p2, _⟩ := I.tuple hb
  obtain ⟨t1, u1, rfl⟩ := two_of r1
  obtain ⟨t2, u2, rfl⟩ := two_of r2
  have R := Ob.RcOp.tuples_le (A := X.A) (s := s) (e := fun j => if j = 0 then p.1.str == q.1.str else ((p.2 : Int) == (q.2 : Int))) (r := fun j => if j = 0 then !decide (q.1.str.cps.toList < p.1.str.cps.toList) else decide ((p.2 : Int) ≤ q.2)) p1 p2 hu (fun j h1 h2 => by
      match j, h1, h2 with
      | 0, _, _ => exact SeqAt.EqAt.str_str _ _ _ _
      | 1, _, _ => exact SeqAt.EqAt.int_int _ _ _ _
      | j + 2, h1, _ => simp at h1; omega) (fun j h1 h2 _ => by
      match j, h1, h2 with
      | 0, _, _ => exact fun _ _ _ _ h => PySem.P.le_str h
      | 1, _, _ => exact Ob.RcOp.le_int _ _ _ _
      | j + 2, h1, _ => simp at h1; omega)
  refine R X.prog X.w X.xe (EP X pins σ Q) ⟨.bl (!itLt q p), H, I, ?_, hq⟩
  show Value.bool _ = Value.bool _
  congr 1
  show Ob.lexAt _ _ _ 0 2 = _
  rw [Ob.lexAt_succ, Ob.lexAt_succ, Ob.lexAt_zero]
  have ks := kd_lt q.1 p.1
  by_cases c : p.1 = q.1
  · have c' : (p.1.str == q.1.str) = true := by rw [c]; exact beq_self_eq_true _
    simp only [c', if_true]
    by_cases c2 : p.2 = q.2
    · have n1 : itLt q p = false := by
        cases e : itLt q p with
        | false => rfl
        | true =>
          rcases itLt_iff.mp e with z | ⟨_, z⟩
          · rw [c] at z; omega
          · omega
      rw [n1]
      simp [c2]
    · have c3 : (((p.2 : Nat) : Int) == ((q.2 : Nat) : Int)) = false := beq_eq_false_iff_ne.mpr (by omega)
      simp only [c3]
      by_cases c4 : q.2 < p.2
      · have n1 : itLt q p = true := itLt_iff.mpr (.inr ⟨c.symm, c4⟩)
        rw [n1]
        simp
        omega
      · have n1 : itLt q p = false := by
          cases e : itLt q p with
          | false => rfl
          | true =>
            rcases itLt_iff.mp e with z | ⟨_, z⟩
            · rw [c] at z; omega
            · exact absurd z c4
        rw [n1]
        simp
        omega
  · have c' : (p.1.str == q.1.str) = false := beq_eq_false_iff_ne.mpr fun z => c (kd_inj z)
    simp only [c']
    rw [ks]
    by_cases c4 : rkd q.1 < rkd p.1
    · have n1 : itLt q p = true := itLt_iff.mpr (.inl c4)
      rw [n1, decide_eq_true c4]
      rfl
    · have n1 : itLt q p = false := by
        cases e : itLt q p with
        | false => rfl
        | true =>
          rcases itLt_iff.mp e with z | ⟨z, _⟩
          · exact absurd z c4
          · exact absurd z.symm c
      rw [n1, decide_eq_false c4]
      rfl
end Kw


set_option Elab.async false
set_option linter.all false
set_option maxRecDepth 100000
set_option maxHeartbeats 4000000
namespace Kw
open PySem PySem.Spec PyProof.Rows L2
theorem nat_of {r : Int} (h : 0 ≤ r) : ∃ n : Nat, r = (n : Int) := ⟨r.toNat, by omega⟩
theorem add_bl {i : Int} (k : Bool) (h1 : 1 ≤ i) (h2 : i ≤ 100) : 0 < i + (if k then 1 else 0) ∧ i + (if k then 1 else 0) ≤ 1000 := by
  cases k <;> simp <;> omega
end Kw


set_option Elab.async false
set_option linter.all false
set_option maxRecDepth 100000
set_option maxHeartbeats 4000000
namespace Kw
open PySem PySem.Spec PyProof.Rows L2
/-! ### _law_unknown -/
def inH (d : Hs) (p : It) : Prop := p.2 < (rowOf d p.1).length
instance (d : Hs) (p : It) : Decidable (inH d p) := by unfold inH; infer_instance
def unkOf (d : Hs) (e : Dd) : Str :=
  if d.hands ≤ (e.hand : Nat) then "UnknownHand" else match e with
  | .give h p o => if ¬ inH d p then "UnknownItem" else if d.hands ≤ (o : Nat) ∨ o = h then "UnknownHand" else ""
  | .put _ p b => if ¬ inH d p ∨ p.1 = .sl then "UnknownItem" else if d.bs.length ≤ b then "UnknownBox" else if p = (.box, b) then "InsideItself" else ""
  | .take _ p b => if ¬ inH d p ∨ p.1 = .sl then "UnknownItem" else if d.bs.length ≤ b then "UnknownBox" else if p = (.box, b) then "InsideItself" else ""
  | .lock _ b s => if d.bs.length ≤ b then "UnknownBox" else if d.ss.length ≤ s then "UnknownSeal" else ""
  | .brk _ b => if d.bs.length ≤ b then "UnknownBox" else ""
theorem inH_where {d : Hs} {p : It} (h : inH d p) : (whereD d p).isSome := by
  unfold whereD
  rw [List.getElem?_eq_getElem h]
  rfl
theorem ne_e1 : ¬ (("UnknownHand" : Str) = "") := by decide +kernel
theorem ne_e2 : ¬ (("UnknownItem" : Str) = "") := by decide +kernel
theorem ne_e3 : ¬ (("UnknownBox" : Str) = "") := by decide +kernel
theorem ne_e4 : ¬ (("InsideItself" : Str) = "") := by decide +kernel
theorem ne_e5 : ¬ (("UnknownSeal" : Str) = "") := by decide +kernel
theorem unk_kn {d : Hs} {e : Dd} (h : unkOf d e = "") : Kn d e := by
  unfold unkOf at h
  by_cases c0 : d.hands ≤ (e.hand : Nat)
  · rw [if_pos c0] at h; exact absurd h ne_e1
  rw [if_neg c0] at h
  cases e with
  | give hd p o =>
    dsimp only at h
    by_cases c1 : ¬ inH d p
    · rw [if_pos c1] at h; exact absurd h ne_e2
    exact inH_where (Classical.not_not.mp c1)
  | put hd p b =>
    dsimp only at h
    by_cases c1 : ¬ inH d p ∨ p.1 = .sl
    · rw [if_pos c1] at h; exact absurd h ne_e2
    rw [if_neg c1] at h
    by_cases c2 : d.bs.length ≤ b
    · rw [if_pos c2] at h; exact absurd h ne_e3
    exact ⟨inH_where (Classical.byContradiction fun z => c1 (.inl z)), by omega⟩
  | take hd p b =>
    dsimp only at h
    by_cases c1 : ¬ inH d p ∨ p.1 = .sl
    · rw [if_pos c1] at h; exact absurd h ne_e2
    rw [if_neg c1] at h
    by_cases c2 : d.bs.length ≤ b
    · rw [if_pos c2] at h; exact absurd h ne_e3
    exact ⟨inH_where (Classical.byContradiction fun z => c1 (.inl z)), by omega⟩
  | lock hd b s =>
    dsimp only at h
    by_cases c2 : d.bs.length ≤ b
    · rw [if_pos c2] at h; exact absurd h ne_e3
    rw [if_neg c2] at h
    by_cases c3 : d.ss.length ≤ s
    · rw [if_pos c3] at h; exact absurd h ne_e5
    exact ⟨by omega, by omega⟩
  | brk hd b =>
    dsimp only at h
    by_cases c2 : d.bs.length ≤ b
    · rw [if_pos c2] at h; exact absurd h ne_e3
    show b < d.bs.length
    omega
theorem many_kd (d : Hs) (k : Kd) : manyOf d k.str = (rowOf d k).length := by
  have e1 : ¬ ("seal" : Str) = ("box" : Str) := by decide +kernel
  have e2 : ¬ ("thing" : Str) = ("box" : Str) := by decide +kernel
  have e3 : ¬ ("thing" : Str) = ("seal" : Str) := by decide +kernel
  cases k
  · exact if_pos rfl
  · show manyOf d "thing" = _
    unfold manyOf
    rw [if_neg e2, if_neg e3, if_pos rfl]
    rfl
  · show manyOf d "seal" = _
    unfold manyOf
    rw [if_neg e1, if_pos rfl]
    rfl
theorem has_it (d : Hs) (p : It) : numOk ((p.2 : Nat) : Int) ((manyOf d p.1.str : Nat) : Int) = decide (inH d p) := by
  rw [many_kd]
  unfold numOk inH
  by_cases c : p.2 < (rowOf d p.1).length
  · rw [decide_eq_true c, decide_eq_true (by omega), decide_eq_true (by omega)]
    rfl
  · rw [decide_eq_false c, decide_eq_false (show ¬ (((p.2 : Nat) : Int) < ((rowOf d p.1).length : Nat)) by omega), Bool.and_false]
end Kw


set_option Elab.async false
set_option linter.all false
set_option maxRecDepth 100000
set_option maxHeartbeats 4000000
namespace Kw
open PySem PySem.Spec PyProof.Rows L2
abbrev sNHand : Stmt := top 20
abbrev sNItem : Stmt := top 21
abbrev sNLoad : Stmt := top 22
abbrev sNBox : Stmt := top 23
abbrev sNSeal : Stmt := top 24
abbrev sNDeed : Stmt := top 29
abbrev sNMove : Stmt := top 30
/-- a plain error of the program: the class's facts -/
structure PErr (K : PySem.W.Frag) (mg : Str → Option Value) (x : Str) (C : Addr) : Prop where
  ex : PySem.W.excIn K C [.type "ValueError", .type "Exception", .type "BaseException", .type "object"] "ValueError.__new__" = true
  mg : mg x = some (.ref C)
  kp : PySem.W.keepIn K (.ref C) = true
  sb : PySem.W.subIn K (.ref C) (.type "BaseException") = some true
  ty : PySem.W.typeIn K (.ref C) = some (.type "type")
def Rp (C : Addr) (H : Hp) (E : XK) : Prop := ∀ H', Same H H' → E (.ref C) none H'
theorem Rp.same {C : Addr} {H H' : Hp} {E : XK} (e : Same H H') (r : Rp C H E) : Rp C H' E := fun H2 e2 => r H2 (e.trans e2)
theorem str_app (a b : Str) : (a ++ b).length = a.length + b.length := Str.length_append a b
theorem kd_len (k : Kd) : k.str.length ≤ 20 ∧ ∀ c ∈ k.str.cps.toList, c < 16 ^ 8 := by
  cases k <;> exact ⟨by decide +kernel, by decide +kernel⟩
section
variable {P : Program} {w : World} {K : PySem.W.Frag} {mg : Str → Option Value} {base : Heap}
/-- is_number and the house's __contains__, as the needs use them -/
structure NumF (P : Program) (w : World) (K : PySem.W.Frag) (mg : Str → Option Value) (base : Heap) (g : Addr) (fd : FuncData) : Prop where
  G : FnOk P w K mg base CX0 1 g fd ["value", "limit"] spNum
  m : mg "is_number" = some (.ref g)
  k : PySem.W.keepIn K (.ref g) = true
  b : Binds K fd ["value", "limit"] []
structure HasF (P : Program) (w : World) (K : PySem.W.Frag) (mg : Str → Option Value) (base : Heap) (C g : Addr) (fd : FuncData) : Prop where
  G : FnOk P w K mg base CX0 2 g fd ["self", "item"] (spHas K C)
  f : PySem.W.findIn K (.ref C) "__contains__" = some (some (.ref g))
  i : PySem.W.isFn K (.ref g) = true
  b : Binds K fd ["self", "item"] []
theorem num_lt {n l : Int} (h0 : 0 ≤ n) : numOk n l = decide (n < l) := by
  unfold numOk
  rw [decide_eq_true h0, Bool.true_and]
/-! ### need_hand -/
def spNHand (K : PySem.W.Frag) (C X : Addr) : Sp := fun vs H Q E => ∃ (h : Addr) (n : Int) (d : Hs), vs = [.ref h, .int n] ∧ HouseAt K C H h d ∧ 0 ≤ n ∧ n ≤ 1000 ∧ (d.hands ≤ n → Rp X H E) ∧ (n < d.hands → Q .non H)
theorem scNHand : FnScope ["house", "hand"] ["house", "hand"] (defScope sNHand) := ⟨rfl, rfl, rfl, by decide +kernel, rfl, by decide +kernel, by decide +kernel⟩
theorem ok_nhand {f g C X : Addr} {fd fdg : FuncData} (F : Fun K "need_hand" "need_hand" sNHand f fd) (T : HouseC K C) (N : NumF P w K mg base g fdg) (X1 : PErr K mg "UnknownHand" X) :
    FnOk P w K mg base (L2N.CX P w) 2 f fd ["house", "hand"] (spNHand K C X) := by
  refine okN F scNHand (fun vs H Q E h => ?_) (fun cdv A outer s H vs Q E hr h => ?_)
  · obtain ⟨h, n, d, rfl, _⟩ := h
    rfl
  · obtain ⟨h, n, d, rfl, hh, h0, h1, kE, kQ⟩ := h
    have tk : L2N.Takes (cxOf (L2N.CX P w) P w K mg base ["house", "hand"] "need_hand" (defScope sNHand) f cdv A outer s H E) (fun cls d _ H => E cls d H) := L2N.takes_of rfl rfl rfl rfl
    refine ⟨_, pss_one (ps_if (pt_not (pt_val (pe_call N.G hr rfl N.m N.k N.b .nil pass0 (pa_cons (pv 1) (pa_cons (pe_fld (pv 0) rfl) pa_nil)))))
      (pss_one (L2N.ps_raise rfl tk (pmk_own1N PySem.F.excBase_ValueError X1.ex X1.mg X1.kp (raises_own X1.sb X1.ty) rfl (pe_joined (.cons pe_str (.cons (pe_fmt (pv 1)) .nil)))))) pss_nil), ?_⟩
    obtain ⟨dx, vb, vt, vs, vst, g0, _⟩ := hh.ex
    refine ⟨_, rfl, _, rfl, h, C, dx, _, _, rfl, g0, T.cl, T.nH, fs_hands _ _ _ _ _, n, d.hands, rfl, _, rfl, ?_⟩
    rw [num_lt h0]
    by_cases c : n < d.hands
    · rw [decide_eq_true c]
      exact iteF (kQ c)
    · rw [decide_eq_false c]
      have l5 := sizeLine_eq
      have l1 : (Str.empty : Str).length = 0 := rfl
      have l2 : ("there is no hand " : Str).length = 17 := by decide +kernel
      have l3 := digits_small h0 h1
      exact iteT ⟨_, rfl, by rw [str_app]; omega, _, rfl, .inr ⟨n, rfl, log2_small h0 h1, _, rfl, by rw [str_app, str_app]; omega, kE (by omega) _ (Same.refl _)⟩⟩
/-! ### need_item, need_load -/
def spNItem (K : PySem.W.Frag) (C X : Addr) : Sp := fun vs H Q E => ∃ (h : Addr) (y : V) (p : It) (d : Hs), vs = [.ref h, y] ∧ HouseAt K C H h d ∧ Dp K H y (itP p) ∧ p.2 ≤ 1000 ∧ (¬ inH d p → Rp X H E) ∧ (inH d p → Q .non H)
theorem scNItem : FnScope ["house", "item"] ["house", "item"] (defScope sNItem) := ⟨rfl, rfl, rfl, by decide +kernel, rfl, by decide +kernel, by decide +kernel⟩
theorem ok_nitem {f g C X : Addr} {fd fdg : FuncData} (F : Fun K "need_item" "need_item" sNItem f fd) (N : HasF P w K mg base C g fdg) (X1 : PErr K mg "UnknownItem" X) :
    FnOk P w K mg base (L2N.CX P w) 3 f fd ["house", "item"] (spNItem K C X) := by
  refine okN F scNItem (fun vs H Q E h => ?_) (fun cdv A outer s H vs Q E hr h => ?_)
  · obtain ⟨h, y, p, d, rfl, _⟩ := h
    rfl
  · obtain ⟨h, y, p, d, rfl, hh, hy, h1, kE, kQ⟩ := h
    have hr2 : Room 2 _ := hr
    have tk : L2N.Takes (cxOf (L2N.CX P w) P w K mg base ["house", "item"] "need_item" (defScope sNItem) f cdv A outer s H E) (fun cls d _ H => E cls d H) := L2N.takes_of rfl rfl rfl rfl
    refine ⟨_, pss_one (ps_if (pt_cmpR (op_notInOwn N.G N.f N.i hr2 N.b pass0) (pv 1) (pv 0) (by rfl))
      (pss_one (L2N.ps_raise rfl tk (pmk_own1N PySem.F.excBase_ValueError X1.ex X1.mg X1.kp (raises_own X1.sb X1.ty) rfl (pe_joined (.cons pe_str (.cons (pe_fmtI hr2 (pv 1)) .nil)))))) pss_nil), ?_⟩
    obtain ⟨dx, vb, vt, vs, vst, g0, _⟩ := hh.ex
    obtain ⟨ip, rfl, sp⟩ := it_at hy
    refine ⟨_, rfl, _, rfl, h, dx, _, rfl, g0, h, ip, d, p.1.str, (p.2 : Nat), rfl, hh, sp, _, rfl, _, rfl, ?_⟩
    rw [has_it]
    by_cases c : inH d p
    · rw [decide_eq_true c]
      exact iteF (kQ c)
    · rw [decide_eq_false c]
      have l5 := sizeLine_eq
      have l1 : (Str.empty : Str).length = 0 := rfl
      have l2 : ("there is no item " : Str).length = 17 := by decide +kernel
      exact iteT ⟨_, rfl, by rw [str_app]; omega, _, rfl, ip, _, _, rfl, sp, (kd_len _).1, (kd_len _).2, by omega, by omega, fun m hm => ⟨_, rfl, by rw [str_app, str_app]; omega, kE c _ (Same.refl _)⟩⟩
def spNLoad (K : PySem.W.Frag) (C X : Addr) : Sp := fun vs H Q E => ∃ (h : Addr) (y : V) (p : It) (d : Hs), vs = [.ref h, y] ∧ HouseAt K C H h d ∧ Dp K H y (itP p) ∧ p.2 ≤ 1000 ∧ (¬ inH d p ∨ p.1 = .sl → Rp X H E) ∧ (¬ (¬ inH d p ∨ p.1 = .sl) → Q .non H)
theorem scNLoad : FnScope ["house", "item"] ["house", "item"] (defScope sNLoad) := ⟨rfl, rfl, rfl, by decide +kernel, rfl, by decide +kernel, by decide +kernel⟩
theorem ok_nload {f g C X : Addr} {fd fdg : FuncData} (F : Fun K "need_load" "need_load" sNLoad f fd) (N : HasF P w K mg base C g fdg) (X1 : PErr K mg "UnknownItem" X) :
    FnOk P w K mg base (L2N.CX P w) 3 f fd ["house", "item"] (spNLoad K C X) := by
  refine okN F scNLoad (fun vs H Q E h => ?_) (fun cdv A outer s H vs Q E hr h => ?_)
  · obtain ⟨h, y, p, d, rfl, _⟩ := h
    rfl
  · obtain ⟨h, y, p, d, rfl, hh, hy, h1, kE, kQ⟩ := h
    have hr2 : Room 2 _ := hr
    have tk : L2N.Takes (cxOf (L2N.CX P w) P w K mg base ["house", "item"] "need_load" (defScope sNLoad) f cdv A outer s H E) (fun cls d _ H => E cls d H) := L2N.takes_of rfl rfl rfl rfl
    refine ⟨_, pss_one (ps_if (PW.pt (pw_or (pt_cmpR (op_notInOwn N.G N.f N.i hr2 N.b pass0) (pv 1) (pv 0) (by rfl)) (pw_or1 (pt_cmpR op_eq (pe_ix ix_tup (pv 1) pe_int (fun _ _ => rfl)) pe_str (nomark _)))))
      (pss_one (L2N.ps_raise rfl tk (pmk_own1N PySem.F.excBase_ValueError X1.ex X1.mg X1.kp (raises_own X1.sb X1.ty) rfl (pe_joined (.cons pe_str (.cons (pe_fmtI hr2 (pv 1)) .nil)))))) pss_nil), ?_⟩
    obtain ⟨dx, vb, vt, vs, vst, g0, _⟩ := hh.ex
    obtain ⟨ip, rfl, sp⟩ := it_at hy
    have l5 := sizeLine_eq
    have l1 : (Str.empty : Str).length = 0 := rfl
    have l2 : ("there is no box or thing " : Str).length = 25 := by decide +kernel
    refine ⟨_, rfl, _, rfl, h, dx, _, rfl, g0, h, ip, d, p.1.str, (p.2 : Nat), rfl, hh, sp, _, rfl, _, rfl, ?_⟩
    rw [has_it]
    by_cases c : inH d p
    · rw [decide_eq_true c]
      refine iteF ⟨_, rfl, ip, _, 0, _, rfl, rfl, sp, rfl, rfl, _, rfl, ?_⟩
      rw [decS]
      by_cases c2 : p.1 = .sl
      · rw [decide_eq_true (show p.1.str = ("seal" : Str) by rw [c2]; rfl)]
        exact iteT ⟨_, rfl, by rw [str_app]; omega, _, rfl, ip, _, _, rfl, sp, (kd_len _).1, (kd_len _).2, by omega, by omega, fun m hm => ⟨_, rfl, by rw [str_app, str_app]; omega, kE (.inr c2) _ (Same.refl _)⟩⟩
      · rw [decide_eq_false (show ¬ p.1.str = ("seal" : Str) from fun z => c2 (kd_inj (l := .sl) z))]
        exact iteF (kQ fun z => z.elim (fun q => q c) c2)
    · rw [decide_eq_false c]
      exact iteT (iteT ⟨_, rfl, by rw [str_app]; omega, _, rfl, ip, _, _, rfl, sp, (kd_len _).1, (kd_len _).2, by omega, by omega, fun m hm => ⟨_, rfl, by rw [str_app, str_app]; omega, kE (.inl c) _ (Same.refl _)⟩⟩)
/-! ### need_box, need_seal -/
def spNBox (K : PySem.W.Frag) (C X : Addr) : Sp := fun vs H Q E => ∃ (h : Addr) (n : Nat) (d : Hs), vs = [.ref h, .int (n : Nat)] ∧ HouseAt K C H h d ∧ n ≤ 1000 ∧ (d.bs.length ≤ n → Rp X H E) ∧ (n < d.bs.length → Q .non H)
def spNSeal (K : PySem.W.Frag) (C X : Addr) : Sp := fun vs H Q E => ∃ (h : Addr) (n : Nat) (d : Hs), vs = [.ref h, .int (n : Nat)] ∧ HouseAt K C H h d ∧ n ≤ 1000 ∧ (d.ss.length ≤ n → Rp X H E) ∧ (n < d.ss.length → Q .non H)
theorem scNBox : FnScope ["house", "box"] ["house", "box"] (defScope sNBox) := ⟨rfl, rfl, rfl, by decide +kernel, rfl, by decide +kernel, by decide +kernel⟩
theorem scNSeal : FnScope ["house", "seal"] ["house", "seal"] (defScope sNSeal) := ⟨rfl, rfl, rfl, by decide +kernel, rfl, by decide +kernel, by decide +kernel⟩
theorem ok_nbox {f g C X : Addr} {fd fdg : FuncData} (F : Fun K "need_box" "need_box" sNBox f fd) (B : Bt mg) (T : HouseC K C) (N : NumF P w K mg base g fdg) (X1 : PErr K mg "UnknownBox" X) :
    FnOk P w K mg base (L2N.CX P w) 2 f fd ["house", "box"] (spNBox K C X) := by
  refine okN F scNBox (fun vs H Q E h => ?_) (fun cdv A outer s H vs Q E hr h => ?_)
  · obtain ⟨h, n, d, rfl, _⟩ := h
    rfl
  · obtain ⟨h, n, d, rfl, hh, h1, kE, kQ⟩ := h
    have tk : L2N.Takes (cxOf (L2N.CX P w) P w K mg base ["house", "box"] "need_box" (defScope sNBox) f cdv A outer s H E) (fun cls d _ H => E cls d H) := L2N.takes_of rfl rfl rfl rfl
    refine ⟨_, pss_one (ps_if (pt_not (pt_val (pe_call N.G hr rfl N.m N.k N.b .nil pass0 (pa_cons (pv 1) (pa_cons (pe_callB call_len_seq (by rfl) B.len PySem.boot_len (pa_cons (pe_fld (pv 0) rfl) pa_nil)) pa_nil)))))
      (pss_one (L2N.ps_raise rfl tk (pmk_own1N PySem.F.excBase_ValueError X1.ex X1.mg X1.kp (raises_own X1.sb X1.ty) rfl (pe_joined (.cons pe_str (.cons (pe_fmt (pv 1)) .nil)))))) pss_nil), ?_⟩
    obtain ⟨dx, vb, vt, vs, vst, g0, g1, g2, g3, g4⟩ := hh.ex
    obtain ⟨ab, xb, rfl, qb, db, lb⟩ := pls_at g1
    refine ⟨_, rfl, _, rfl, h, C, dx, _, _, rfl, g0, T.cl, T.nB, fs_boxes _ _ _ _ _, ab, xb, rfl, .inr qb, (n : Nat), (xb.length : Nat), rfl, _, rfl, ?_⟩
    rw [num_lt (by omega)]
    by_cases c : n < d.bs.length
    · rw [decide_eq_true (show ((n : Nat) : Int) < (xb.length : Nat) by omega)]
      exact iteF (kQ c)
    · rw [decide_eq_false (show ¬ ((n : Nat) : Int) < (xb.length : Nat) by omega)]
      have l5 := sizeLine_eq
      have l1 : (Str.empty : Str).length = 0 := rfl
      have l2 : ("there is no box " : Str).length = 16 := by decide +kernel
      have l3 := digits_small (i := (n : Nat)) (by omega) (by omega)
      exact iteT ⟨_, rfl, by rw [str_app]; omega, _, rfl, .inr ⟨_, rfl, log2_small (by omega) (by omega), _, rfl, by rw [str_app, str_app]; omega, kE (by omega) _ (Same.refl _)⟩⟩
theorem ok_nseal {f g C X : Addr} {fd fdg : FuncData} (F : Fun K "need_seal" "need_seal" sNSeal f fd) (B : Bt mg) (T : HouseC K C) (N : NumF P w K mg base g fdg) (X1 : PErr K mg "UnknownSeal" X) :
    FnOk P w K mg base (L2N.CX P w) 2 f fd ["house", "seal"] (spNSeal K C X) := by
  refine okN F scNSeal (fun vs H Q E h => ?_) (fun cdv A outer s H vs Q E hr h => ?_)
  · obtain ⟨h, n, d, rfl, _⟩ := h
    rfl
  · obtain ⟨h, n, d, rfl, hh, h1, kE, kQ⟩ := h
    have tk : L2N.Takes (cxOf (L2N.CX P w) P w K mg base ["house", "seal"] "need_seal" (defScope sNSeal) f cdv A outer s H E) (fun cls d _ H => E cls d H) := L2N.takes_of rfl rfl rfl rfl
    refine ⟨_, pss_one (ps_if (pt_not (pt_val (pe_call N.G hr rfl N.m N.k N.b .nil pass0 (pa_cons (pv 1) (pa_cons (pe_callB call_len_seq (by rfl) B.len PySem.boot_len (pa_cons (pe_fld (pv 0) rfl) pa_nil)) pa_nil)))))
      (pss_one (L2N.ps_raise rfl tk (pmk_own1N PySem.F.excBase_ValueError X1.ex X1.mg X1.kp (raises_own X1.sb X1.ty) rfl (pe_joined (.cons pe_str (.cons (pe_fmt (pv 1)) .nil)))))) pss_nil), ?_⟩
    obtain ⟨dx, vb, vt, vs, vst, g0, g1, g2, g3, g4⟩ := hh.ex
    obtain ⟨as, xs, rfl, qs, ds, ls⟩ := pls_at g3
    refine ⟨_, rfl, _, rfl, h, C, dx, _, _, rfl, g0, T.cl, T.nS, fs_seals _ _ _ _ _, as, xs, rfl, .inr qs, (n : Nat), (xs.length : Nat), rfl, _, rfl, ?_⟩
    rw [num_lt (by omega)]
    by_cases c : n < d.ss.length
    · rw [decide_eq_true (show ((n : Nat) : Int) < (xs.length : Nat) by omega)]
      exact iteF (kQ c)
    · rw [decide_eq_false (show ¬ ((n : Nat) : Int) < (xs.length : Nat) by omega)]
      have l5 := sizeLine_eq
      have l1 : (Str.empty : Str).length = 0 := rfl
      have l2 : ("there is no seal " : Str).length = 17 := by decide +kernel
      have l3 := digits_small (i := (n : Nat)) (by omega) (by omega)
      exact iteT ⟨_, rfl, by rw [str_app]; omega, _, rfl, .inr ⟨_, rfl, log2_small (by omega) (by omega), _, rfl, by rw [str_app, str_app]; omega, kE (by omega) _ (Same.refl _)⟩⟩
end
end Kw


set_option Elab.async false
set_option linter.all false
set_option maxRecDepth 100000
set_option maxHeartbeats 4000000
namespace Kw
open PySem PySem.Spec PyProof.Rows L2
theorem slA_by {K : PySem.W.Frag} {H : Hp} {a : Addr} {xs : List V} {lo hi : Option Int} {Q : VK} (h : SqT K H a xs) (k : ∀ c H', Same H H' → SqT K H' c (cutV xs lo hi) → Q (.ref c) H') : rSlA K (.ref a) lo hi H Q := by
  refine ⟨a, xs, rfl, h, fun hw => ?_, fun _ p hp => k p _ (same_upd hp) (SqT.of upd_same)⟩
  have e : cutV xs lo hi = xs := by
    unfold cutV
    rw [hw.1, hw.2]
    simp
  exact k a H (Same.refl _) (by rw [e]; exact h)
theorem catA_by {K : PySem.W.Frag} {H : Hp} {a b : Addr} {xs ys : List V} {Q : VK} (ha : SqT K H a xs) (hb : SqT K H b ys) (hz : xs.length + ys.length ≤ sizeLine) (k : ∀ c H', Same H H' → SqT K H' c (xs ++ ys) → Q (.ref c) H') : rCatA K (.ref a) (.ref b) H Q := by
  refine ⟨a, b, xs, ys, rfl, rfl, ha, hb, hz, fun e => ?_, fun _ e => ?_, fun _ _ p hp => k p _ (same_upd hp) (SqT.of upd_same)⟩
  · subst e
    exact k b H (Same.refl _) hb
  · subst e
    exact k a H (Same.refl _) (by rw [List.append_nil]; exact ha)
theorem cut_to {xs : List V} {n : Nat} (h : n ≤ xs.length) : cutV xs none (some (n : Int)) = xs.take n := by
  unfold cutV
  rw [HT.sIx_none, HT.sIx_nat, Nat.min_eq_left h]
  simp
theorem cut_from {xs : List V} {n : Nat} (h : n < xs.length) : cutV xs (some ((n : Int) + 1)) none = xs.drop (n + 1) := by
  unfold cutV
  rw [HT.sIx_none, show ((n : Int) + 1) = ((n + 1 : Nat) : Int) by omega, HT.sIx_nat, Nat.min_eq_left (by omega)]
  rw [List.take_of_length_le]
  rw [List.length_drop]
  exact Nat.le_refl _
theorem set_cut {α : Type} (l : List α) (n : Nat) (a : α) (h : n < l.length) : l.take n ++ [a] ++ l.drop (n + 1) = l.set n a := by
  rw [List.set_eq_take_append_cons_drop, if_pos h]
  simp
/-- the table of the words of items -/
structure PartsF (K : PySem.W.Frag) (w : World) (mg : Str → Option Value) (aP : Addr) : Prop where
  d : ∀ k : Kd, KDct K w aP k.str (.int (k.ix : Nat))
  m : mg "PARTS" = some (.ref aP)
structure Ls (d : Hs) : Prop where
  b : d.bs.length ≤ 100
  t : d.ts.length ≤ 100
  s : d.ss.length ≤ 100
theorem Ls.row {d : Hs} (h : Ls d) (k : Kd) : (rowOf d k).length ≤ 100 := by
  cases k
  · exact h.b
  · exact h.t
  · exact h.s
section
variable {P : Program} {w : World} {K : PySem.W.Frag} {mg : Str → Option Value} {base : Heap}
/-! ### place_in -/
/-! ### with_place -/
def spWith (K : PySem.W.Frag) : Sp := fun vs H Q _ => ∃ (x y z : V) (d : Hs) (p : It) (q : Pl), vs = [x, y, z] ∧ Dp K H x (stD d) ∧ Dp K H y (itP p) ∧ Dp K H z (plD q) ∧ p.2 < (rowOf d p.1).length ∧ Ls d ∧ ∀ v H', Same H H' → Dp K H' v (stD (setD d p q)) → Q v H'
/-! ### seal_on -/
def spOn (K : PySem.W.Frag) : Sp := fun vs H Q _ => ∃ (x : V) (b : Nat) (d : Hs), vs = [x, .int (b : Nat)] ∧ Dp K H x (stD d) ∧ ((Wd.box, (b : Int)) ∈ d.ss → ∀ H', Same H H' → Q (.int (onIx d b : Nat)) H') ∧ ((Wd.box, (b : Int)) ∉ d.ss → ∀ H', Same H H' → Q .non H')
theorem on_eq {d : Hs} {b i : Nat} (h : d.ss[i]? = some (Wd.box, (b : Int))) (hn : ∀ (m : Nat) z, m < i → d.ss[m]? = some z → z ≠ (Wd.box, (b : Int))) : onIx d b = i := by
  unfold onIx
  obtain ⟨hi, he⟩ := List.getElem?_eq_some_iff.mp h
  have : d.ss.findIdx? (fun q => decide (q = (Wd.box, (b : Int)))) = some i := by
    rw [List.findIdx?_eq_some_iff_getElem]
    refine ⟨hi, by rw [he]; exact decide_eq_true rfl, fun j hj => ?_⟩
    have := hn j (d.ss[j]) hj (List.getElem?_eq_getElem (by omega))
    simpa using this
  rw [this]
  rfl
end
end Kw


set_option Elab.async false
set_option linter.all false
set_option maxRecDepth 100000
set_option maxHeartbeats 4000000
namespace Kw
open PySem PySem.Spec PyProof.Rows L2
section
variable {P : Program} {w : World} {K : PySem.W.Frag} {mg : Str → Option Value} {base : Heap}
/-! ### need_held -/
def spHeld (K : PySem.W.Frag) (X : Addr) : Sp := fun vs H Q E => ∃ (x y : V) (h : Nat) (d : Hs) (p : It) (q : Pl), vs = [x, .int (h : Nat), y] ∧ Dp K H x (stD d) ∧ Dp K H y (itP p) ∧ whereD d p = some q ∧ h ≤ 1000 ∧ p.2 ≤ 1000 ∧
  (q ≠ (.hand, (h : Int)) → Rp X H E) ∧ (q = (.hand, (h : Int)) → ∀ H', Same H H' → Q .non H')
structure PlF (P : Program) (w : World) (K : PySem.W.Frag) (mg : Str → Option Value) (base : Heap) (g : Addr) (fd : FuncData) : Prop where
  G : FnOk P w K mg base CX0 1 g fd ["state", "item"] (spWhere K)
  m : mg "place_in" = some (.ref g)
  k : PySem.W.keepIn K (.ref g) = true
  b : Binds K fd ["state", "item"] []
structure HeldF (P : Program) (w : World) (K : PySem.W.Frag) (mg : Str → Option Value) (base : Heap) (X g : Addr) (fd : FuncData) : Prop where
  G : FnOk P w K mg base (L2N.CX P w) 2 g fd ["state", "hand", "item"] (spHeld K X)
  m : mg "need_held" = some (.ref g)
  k : PySem.W.keepIn K (.ref g) = true
  b : Binds K fd ["state", "hand", "item"] []
structure OnF (P : Program) (w : World) (K : PySem.W.Frag) (mg : Str → Option Value) (base : Heap) (g : Addr) (fd : FuncData) : Prop where
  G : FnOk P w K mg base CX0 1 g fd ["state", "box"] (spOn K)
  m : mg "seal_on" = some (.ref g)
  k : PySem.W.keepIn K (.ref g) = true
  b : Binds K fd ["state", "box"] []
structure WithF (P : Program) (w : World) (K : PySem.W.Frag) (mg : Str → Option Value) (base : Heap) (g : Addr) (fd : FuncData) : Prop where
  G : FnOk P w K mg base CX0 1 g fd ["state", "item", "place"] (spWith K)
  m : mg "with_place" = some (.ref g)
  k : PySem.W.keepIn K (.ref g) = true
  b : Binds K fd ["state", "item", "place"] []
/-! ### need_bare -/
def spBare (K : PySem.W.Frag) (XH XS : Addr) : Sp := fun vs H Q E => ∃ (x : V) (h b : Nat) (d : Hs), vs = [x, .int (h : Nat), .int (b : Nat)] ∧ Dp K H x (stD d) ∧ b < d.bs.length ∧ h ≤ 1000 ∧ b ≤ 1000 ∧
  (whereD d (.box, b) ≠ some (.hand, (h : Int)) → Rp XH H E) ∧ (whereD d (.box, b) = some (.hand, (h : Int)) → (Wd.box, (b : Int)) ∈ d.ss → Rp XS H E) ∧ (whereD d (.box, b) = some (.hand, (h : Int)) → (Wd.box, (b : Int)) ∉ d.ss → ∀ H', Same H H' → Q .non H')
structure BareF (P : Program) (w : World) (K : PySem.W.Frag) (mg : Str → Option Value) (base : Heap) (XH XS g : Addr) (fd : FuncData) : Prop where
  G : FnOk P w K mg base (L2N.CX P w) 3 g fd ["state", "hand", "box"] (spBare K XH XS)
  m : mg "need_bare" = some (.ref g)
  k : PySem.W.keepIn K (.ref g) = true
  b : Binds K fd ["state", "hand", "box"] []
/-! ### state_behind_break -/
def spBreak (K : PySem.W.Frag) (XH XN : Addr) : Sp := fun vs H Q E => ∃ (x : V) (h b : Nat) (d : Hs), vs = [x, .int (h : Nat), .int (b : Nat)] ∧ Dp K H x (stD d) ∧ b < d.bs.length ∧ Ls d ∧ h ≤ 1000 ∧ b ≤ 1000 ∧
  (whereD d (.box, b) ≠ some (.hand, (h : Int)) → Rp XH H E) ∧ (whereD d (.box, b) = some (.hand, (h : Int)) → (Wd.box, (b : Int)) ∉ d.ss → Rp XN H E) ∧ (whereD d (.box, b) = some (.hand, (h : Int)) → (Wd.box, (b : Int)) ∈ d.ss → ∀ v H', Same H H' → Dp K H' v (stD (setD d (.sl, onIx d b) (.gone, 0))) → Q v H')
structure BreakF (P : Program) (w : World) (K : PySem.W.Frag) (mg : Str → Option Value) (base : Heap) (XH XN g : Addr) (fd : FuncData) : Prop where
  G : FnOk P w K mg base (L2N.CX P w) 3 g fd ["state", "hand", "box"] (spBreak K XH XN)
  m : mg "state_behind_break" = some (.ref g)
  k : PySem.W.keepIn K (.ref g) = true
  b : Binds K fd ["state", "hand", "box"] []
end
end Kw


set_option Elab.async false
set_option linter.all false
set_option maxRecDepth 100000
set_option maxHeartbeats 4000000
namespace Kw
open PySem PySem.Spec PyProof.Rows L2
theorem mGo_hit {w0 : Str} {rest : List V} {D : Ends} {σ : L2.St} {H : Hp} {c : MCase} {cs : List MCase} (h1 : c.slots.length = rest.length) (h2 : c.word = w0) (h : c.body D (setAll c.slots rest σ) H) : mGo w0 rest D σ H (c :: cs) := by
  show (if c.slots.length = rest.length ∧ c.word = w0 then _ else _)
  rw [if_pos ⟨h1, h2⟩]
  exact h
theorem mGo_miss {w0 : Str} {rest : List V} {D : Ends} {σ : L2.St} {H : Hp} {c : MCase} {cs : List MCase} (h2 : ¬ c.word = w0) (h : mGo w0 rest D σ H cs) : mGo w0 rest D σ H (c :: cs) := by
  show (if c.slots.length = rest.length ∧ c.word = w0 then _ else _)
  rw [if_neg (fun z => h2 z.2)]
  exact h
section
variable {P : Program} {w : World} {K : PySem.W.Frag} {mg : Str → Option Value} {base : Heap}
/-! ### state_behind -/
/-- the errors by their names -/
def spBehind (K : PySem.W.Frag) (ce : Str → Addr) : Sp := fun vs H Q E => ∃ (x y : V) (d : Hs) (e : Dd), vs = [x, y] ∧ Dp K H x (stD d) ∧ Dp K H y (ddD e) ∧ Kn d e ∧ Sm e ∧ Ls d ∧
  (∀ z, barOf d e = z → z ≠ "" → Rp (ce z) H E) ∧ (barOf d e = "" → ∀ v H', Same H H' → Dp K H' v (stD (nextOf d e)) → Q v H')
theorem nb1 : ("NotHeld" : Str) ≠ "" := by decide +kernel
theorem nb2 : ("IsSealed" : Str) ≠ "" := by decide +kernel
theorem nb3 : ("NotInside" : Str) ≠ "" := by decide +kernel
theorem nb4 : ("NotSealed" : Str) ≠ "" := by decide +kernel
/-! ### need_move, need_deed -/
structure NLoadF (P : Program) (w : World) (K : PySem.W.Frag) (mg : Str → Option Value) (base : Heap) (C X g : Addr) (fd : FuncData) : Prop where
  G : FnOk P w K mg base (L2N.CX P w) 3 g fd ["house", "item"] (spNLoad K C X)
  m : mg "need_load" = some (.ref g)
  k : PySem.W.keepIn K (.ref g) = true
  b : Binds K fd ["house", "item"] []
structure NItemF (P : Program) (w : World) (K : PySem.W.Frag) (mg : Str → Option Value) (base : Heap) (C X g : Addr) (fd : FuncData) : Prop where
  G : FnOk P w K mg base (L2N.CX P w) 3 g fd ["house", "item"] (spNItem K C X)
  m : mg "need_item" = some (.ref g)
  k : PySem.W.keepIn K (.ref g) = true
  b : Binds K fd ["house", "item"] []
structure NHandF (P : Program) (w : World) (K : PySem.W.Frag) (mg : Str → Option Value) (base : Heap) (C X g : Addr) (fd : FuncData) : Prop where
  G : FnOk P w K mg base (L2N.CX P w) 2 g fd ["house", "hand"] (spNHand K C X)
  m : mg "need_hand" = some (.ref g)
  k : PySem.W.keepIn K (.ref g) = true
  b : Binds K fd ["house", "hand"] []
structure NBoxF (P : Program) (w : World) (K : PySem.W.Frag) (mg : Str → Option Value) (base : Heap) (C X g : Addr) (fd : FuncData) : Prop where
  G : FnOk P w K mg base (L2N.CX P w) 2 g fd ["house", "box"] (spNBox K C X)
  m : mg "need_box" = some (.ref g)
  k : PySem.W.keepIn K (.ref g) = true
  b : Binds K fd ["house", "box"] []
structure NSealF (P : Program) (w : World) (K : PySem.W.Frag) (mg : Str → Option Value) (base : Heap) (C X g : Addr) (fd : FuncData) : Prop where
  G : FnOk P w K mg base (L2N.CX P w) 2 g fd ["house", "seal"] (spNSeal K C X)
  m : mg "need_seal" = some (.ref g)
  k : PySem.W.keepIn K (.ref g) = true
  b : Binds K fd ["house", "seal"] []
def mvOf (d : Hs) (p : It) (b : Nat) : Str := if ¬ inH d p ∨ p.1 = .sl then "UnknownItem" else if d.bs.length ≤ b then "UnknownBox" else if p = (.box, b) then "InsideItself" else ""
def spNMove (K : PySem.W.Frag) (C : Addr) (ce : Str → Addr) : Sp := fun vs H Q E => ∃ (h : Addr) (y : V) (p : It) (b : Nat) (d : Hs), vs = [.ref h, y, .int (b : Nat)] ∧ HouseAt K C H h d ∧ Dp K H y (itP p) ∧ p.2 ≤ 1000 ∧ b ≤ 1000 ∧
  (∀ z, mvOf d p b = z → z ≠ "" → Rp (ce z) H E) ∧ (mvOf d p b = "" → ∀ H', Same H H' → Q .non H')
theorem scNMove : FnScope ["house", "item", "box"] ["house", "item", "box"] (defScope sNMove) := ⟨rfl, rfl, rfl, by decide +kernel, rfl, by decide +kernel, by decide +kernel⟩
theorem ok_nmove {f g1 g2 C : Addr} {fd fd1 fd2 : FuncData} {ce : Str → Addr} (F : Fun K "need_move" "need_move" sNMove f fd) (NL : NLoadF P w K mg base C (ce "UnknownItem") g1 fd1) (NB : NBoxF P w K mg base C (ce "UnknownBox") g2 fd2) (X1 : PErr K mg "InsideItself" (ce "InsideItself")) :
    FnOk P w K mg base (L2N.CX P w) 4 f fd ["house", "item", "box"] (spNMove K C ce) := by
  refine okN F scNMove (fun vs H Q E h => ?_) (fun cdv A outer s H vs Q E hr h => ?_)
  · obtain ⟨h, y, p, b, d, rfl, _⟩ := h
    rfl
  · obtain ⟨h, y, p, b, d, rfl, hh, hy, m1, m2, kE, kQ⟩ := h
    have hr2 : Room 2 _ := hr.mono (by decide)
    have hr3 : Room 3 _ := hr
    have tk : L2N.Takes (cxOf (L2N.CX P w) P w K mg base ["house", "item", "box"] "need_move" (defScope sNMove) f cdv A outer s H E) (fun cls d _ H => E cls d H) := L2N.takes_of rfl rfl rfl rfl
    have hu : (cxOf (L2N.CX P w) P w K mg base ["house", "item", "box"] "need_move" (defScope sNMove) f cdv A outer s H E).A.units + 64 < cLine := by have := hr.un; show (A.deeper _).units + 64 < cLine; omega
    refine ⟨_, (pss_cons (ps_expr (pe_call NL.G hr3 rfl NL.m NL.k NL.b .nil (L2N.passes_call tk (fun _ _ _ _ h => h)) (pa_cons (pv 0) (pa_cons (pv 1) pa_nil))))
        (pss_cons (ps_expr (pe_call NB.G hr2 rfl NB.m NB.k NB.b .nil (L2N.passes_call tk (fun _ _ _ _ h => h)) (pa_cons (pv 0) (pa_cons (pv 2) pa_nil))))
        (pss_one (ps_if (pt_cmpR (op_eqD hu) (pv 1) (pe_tup (pa_cons pe_str (pa_cons (pv 2) pa_nil))) (nomark _)) (pss_one (L2N.ps_raise rfl tk (pmk_own1N PySem.F.excBase_ValueError X1.ex X1.mg X1.kp (raises_own X1.sb X1.ty) rfl (pe_joined (.cons pe_str (.cons (pe_fmt (pv 2)) (.cons pe_str .nil))))))) pss_nil)))), ?_⟩
    refine ⟨_, rfl, _, rfl, h, y, p, d, rfl, hh, hy, m1, fun z => kE _ (by unfold mvOf; rw [if_pos z]) ne_e2, fun z => ?_⟩
    refine ⟨_, rfl, _, rfl, h, b, d, rfl, hh, m2, fun z2 => kE _ (by unfold mvOf; rw [if_neg z, if_pos z2]) ne_e3, fun z2 => ?_⟩
    refine ⟨_, rfl, _, rfl, (by show 2 ≤ sizeLine; decide), fun t ht => ?_⟩
    have f1 := same_upd (o := HO.tup [.str ("box" : Str), .int (b : Nat)]) ht
    refine ⟨itP p, itP (.box, b), Dp.same f1 _ _ hy, .tup (SqT.of upd_same) (.cons (.str _) (.cons (.int _) .nil)), shaped_it _, shaped_it _, _, rfl, ?_⟩
    rw [eqv_it]
    have z3 : ¬ d.bs.length ≤ b := by omega
    by_cases c : p = (.box, b)
    · rw [decide_eq_true c]
      have l5 := sizeLine_eq
      have l1 : (Str.empty : Str).length = 0 := rfl
      have l2 : ("box " : Str).length = 4 := by decide +kernel
      have l4 : (" cannot be inside itself" : Str).length = 24 := by decide +kernel
      have l3 := digits_small (i := (b : Nat)) (by omega) (by omega)
      exact iteT ⟨_, rfl, by rw [str_app]; omega, _, rfl, .inr ⟨_, rfl, log2_small (by omega) (by omega), _, rfl, by rw [str_app, str_app]; omega, _, rfl, by rw [str_app, str_app, str_app]; omega, kE _ (by unfold mvOf; rw [if_neg z, if_neg z3, if_pos c]) ne_e4 _ f1⟩⟩
    · rw [decide_eq_false c]
      exact iteF (kQ (by unfold mvOf; rw [if_neg z, if_neg z3, if_neg c]) _ f1)
structure NMoveF (P : Program) (w : World) (K : PySem.W.Frag) (mg : Str → Option Value) (base : Heap) (C : Addr) (ce : Str → Addr) (g : Addr) (fd : FuncData) : Prop where
  G : FnOk P w K mg base (L2N.CX P w) 4 g fd ["house", "item", "box"] (spNMove K C ce)
  m : mg "need_move" = some (.ref g)
  k : PySem.W.keepIn K (.ref g) = true
  b : Binds K fd ["house", "item", "box"] []
def spNDeed (K : PySem.W.Frag) (C : Addr) (ce : Str → Addr) : Sp := fun vs H Q E => ∃ (h : Addr) (y : V) (e : Dd) (d : Hs), vs = [.ref h, y] ∧ HouseAt K C H h d ∧ Dp K H y (ddD e) ∧ Sm e ∧
  (∀ z, unkOf d e = z → z ≠ "" → Rp (ce z) H E) ∧ (unkOf d e = "" → ∀ H', Same H H' → Q .non H')
theorem scNDeed : FnScope ["house", "deed", "hand", "item", "other", "box", "seal"] ["house", "deed"] (defScope sNDeed) := ⟨rfl, rfl, rfl, by decide +kernel, rfl, by decide +kernel, by decide +kernel⟩
theorem sm_hand {e : Dd} (h : Sm e) : e.hand ≤ 1000 := by cases e <;> exact h.1
theorem ok_ndeed {f gI gH gM gB gS C : Addr} {fd fdI fdH fdM fdB fdS : FuncData} {ce : Str → Addr} (F : Fun K "need_deed" "need_deed" sNDeed f fd) (NI : NItemF P w K mg base C (ce "UnknownItem") gI fdI) (NH : NHandF P w K mg base C (ce "UnknownHand") gH fdH) (NM : NMoveF P w K mg base C ce gM fdM)
    (NB : NBoxF P w K mg base C (ce "UnknownBox") gB fdB) (NS : NSealF P w K mg base C (ce "UnknownSeal") gS fdS) (X1 : PErr K mg "UnknownHand" (ce "UnknownHand")) :
    FnOk P w K mg base (L2N.CX P w) 5 f fd ["house", "deed"] (spNDeed K C ce) := by
  refine okN F scNDeed (fun vs H Q E h => ?_) (fun cdv A outer s H vs Q E hr h => ?_)
  · obtain ⟨h, y, e, d, rfl, _⟩ := h
    rfl
  · obtain ⟨h, y, e, d, rfl, hh, hy, hm, kE, kQ⟩ := h
    have hr2 : Room 2 _ := hr.mono (by decide)
    have hr3 : Room 3 _ := hr.mono (by decide)
    have hr4 : Room 4 _ := hr
    have tk : L2N.Takes (cxOf (L2N.CX P w) P w K mg base ["house", "deed", "hand", "item", "other", "box", "seal"] "need_deed" (defScope sNDeed) f cdv A outer s H E) (fun cls d _ H => E cls d H) := L2N.takes_of rfl rfl rfl rfl
    refine ⟨_, (pss_cons (ps_expr (pe_call NH.G hr2 rfl NH.m NH.k NH.b .nil (L2N.passes_call tk (fun _ _ _ _ h => h)) (pa_cons (pv 0) (pa_cons (pe_ix ix_tup (pv 1) pe_int (fun _ _ => rfl)) pa_nil))))
      (pss_one (ps_match rfl scNDeed.nd (pv 1) (.cons (.name (i := 2) rfl rfl (.name (i := 3) rfl rfl (.name (i := 4) rfl rfl .nil))) (pss_cons (ps_expr (pe_call NI.G hr3 rfl NI.m NI.k NI.b .nil (L2N.passes_call tk (fun _ _ _ _ h => h)) (pa_cons (pv 0) (pa_cons (pv 3) pa_nil))))
        (pss_cons (ps_expr (pe_call NH.G hr2 rfl NH.m NH.k NH.b .nil (L2N.passes_call tk (fun _ _ _ _ h => h)) (pa_cons (pv 0) (pa_cons (pv 4) pa_nil))))
        (pss_one (ps_if (pt_cmpR op_eq (pv 2) (pv 4) (nomark _)) (pss_one (L2N.ps_raise rfl tk (pmk_own1N PySem.F.excBase_ValueError X1.ex X1.mg X1.kp (raises_own X1.sb X1.ty) rfl (pe_joined (.cons pe_str (.cons (pe_fmt (pv 2)) (.cons pe_str .nil))))))) pss_nil))))
      (.cons (.wild (.name (i := 3) rfl rfl (.name (i := 5) rfl rfl .nil))) (pss_one (ps_expr (pe_call NM.G hr4 rfl NM.m NM.k NM.b .nil (L2N.passes_call tk (fun _ _ _ _ h => h)) (pa_cons (pv 0) (pa_cons (pv 3) (pa_cons (pv 5) pa_nil))))))
      (.cons (.wild (.name (i := 3) rfl rfl (.name (i := 5) rfl rfl .nil))) (pss_one (ps_expr (pe_call NM.G hr4 rfl NM.m NM.k NM.b .nil (L2N.passes_call tk (fun _ _ _ _ h => h)) (pa_cons (pv 0) (pa_cons (pv 3) (pa_cons (pv 5) pa_nil))))))
      (.cons (.wild (.name (i := 5) rfl rfl (.name (i := 6) rfl rfl .nil))) (pss_cons (ps_expr (pe_call NB.G hr2 rfl NB.m NB.k NB.b .nil (L2N.passes_call tk (fun _ _ _ _ h => h)) (pa_cons (pv 0) (pa_cons (pv 5) pa_nil))))
        (pss_one (ps_expr (pe_call NS.G hr2 rfl NS.m NS.k NS.b .nil (L2N.passes_call tk (fun _ _ _ _ h => h)) (pa_cons (pv 0) (pa_cons (pv 6) pa_nil))))))
      (.cons (.wild (.name (i := 5) rfl rfl .nil)) (pss_one (ps_expr (pe_call NB.G hr2 rfl NB.m NB.k NB.b .nil (L2N.passes_call tk (fun _ _ _ _ h => h)) (pa_cons (pv 0) (pa_cons (pv 5) pa_nil)))))
      .nil)))))))), ?_⟩
    obtain ⟨yd, vs, rfl, sy, dvs⟩ := dd_at hy
    have sh := sm_hand hm
    have z1 := Same.refl H
    unfold unkOf at kE kQ
    refine ⟨_, rfl, _, rfl, yd, _, 1, _, rfl, rfl, sy, atI_nat (j := 1) rfl, h, (e.hand : Nat), d, rfl, hh, by omega, by omega, fun z => kE _ (if_pos z) ne_e1, fun z => ?_⟩
    have z' : ¬ d.hands ≤ ((e.hand : Nat) : Int) := by omega
    simp only [if_neg z'] at kE kQ
    refine ⟨_, rfl, yd, e.word, _, rfl, sy, ?_⟩
    cases e with
    | give hd p o =>
      obtain ⟨m1, m2, m3⟩ := hm
      cases dvs with
      | cons dp r =>
      cases r with
      | cons do_ r =>
      cases r
      cases do_
      dsimp only [Dd.word, Dd.hand] at *
      refine mGo_hit rfl rfl ?_
      refine ⟨_, rfl, _, rfl, h, _, p, d, rfl, hh, dp, m2, fun c => kE _ (if_pos c) ne_e2, fun c => ?_⟩
      have c' : ¬ ¬ inH d p := fun q => q c
      simp only [if_neg c'] at kE kQ
      refine ⟨_, rfl, _, rfl, h, (o : Nat), d, rfl, hh, by omega, by omega, fun c2 => kE _ (if_pos (.inl c2)) ne_e1, fun c2 => ?_⟩
      refine ⟨_, rfl, _, rfl, rfl, _, rfl, ?_⟩
      rw [decZ]
      by_cases c3 : ((hd : Nat) : Int) = ((o : Nat) : Int)
      · rw [decide_eq_true c3]
        have l5 := sizeLine_eq
        have l1 : (Str.empty : Str).length = 0 := rfl
        have l2 : ("hand " : Str).length = 5 := by decide +kernel
        have l4 : (" gives to itself" : Str).length = 16 := by decide +kernel
        have l3 := digits_small (i := (hd : Nat)) (by omega) (by omega)
        exact iteT ⟨_, rfl, by rw [str_app]; omega, _, rfl, .inr ⟨_, rfl, log2_small (by omega) (by omega), _, rfl, by rw [str_app, str_app]; omega, _, rfl, by rw [str_app, str_app, str_app]; omega, kE _ (if_pos (.inr (by omega))) ne_e1 _ z1⟩⟩
      · rw [decide_eq_false c3]
        exact iteF (kQ (if_neg fun q => q.elim (fun a => by omega) (fun a => c3 (by omega))) _ z1)
    | put hd p b =>
      obtain ⟨m1, m2, m3⟩ := hm
      cases dvs with
      | cons dp r =>
      cases r with
      | cons do_ r =>
      cases r
      cases do_
      dsimp only [Dd.word, Dd.hand] at *
      refine mGo_miss (by dsimp only; decide +kernel) (mGo_hit rfl rfl ?_)
      exact ⟨_, rfl, _, rfl, _, rfl, h, _, p, b, d, rfl, hh, dp, m2, m3, kE, kQ⟩
    | take hd p b =>
      obtain ⟨m1, m2, m3⟩ := hm
      cases dvs with
      | cons dp r =>
      cases r with
      | cons do_ r =>
      cases r
      cases do_
      dsimp only [Dd.word, Dd.hand] at *
      refine mGo_miss (by dsimp only; decide +kernel) (mGo_miss (by dsimp only; decide +kernel) (mGo_hit rfl rfl ?_))
      exact ⟨_, rfl, _, rfl, _, rfl, h, _, p, b, d, rfl, hh, dp, m2, m3, kE, kQ⟩
    | lock hd b s =>
      obtain ⟨m1, m2, m3⟩ := hm
      cases dvs with
      | cons dp r =>
      cases r with
      | cons do_ r =>
      cases r
      cases do_
      cases dp
      dsimp only [Dd.word, Dd.hand] at *
      refine mGo_miss (by dsimp only; decide +kernel) (mGo_miss (by dsimp only; decide +kernel) (mGo_miss (by dsimp only; decide +kernel) (mGo_hit rfl rfl ?_)))
      refine ⟨_, rfl, _, rfl, h, b, d, rfl, hh, m2, fun c => kE _ (if_pos c) ne_e3, fun c => ?_⟩
      have c' : ¬ d.bs.length ≤ b := by omega
      simp only [if_neg c'] at kE kQ
      exact ⟨_, rfl, _, rfl, h, s, d, rfl, hh, m3, fun c2 => kE _ (if_pos c2) ne_e5, fun c2 => kQ (if_neg (by omega)) _ z1⟩
    | brk hd b =>
      obtain ⟨m1, m2⟩ := hm
      cases dvs with
      | cons dp r =>
      cases r
      cases dp
      dsimp only [Dd.word, Dd.hand] at *
      refine mGo_miss (by dsimp only; decide +kernel) (mGo_miss (by dsimp only; decide +kernel) (mGo_miss (by dsimp only; decide +kernel) (mGo_miss (by dsimp only; decide +kernel) (mGo_hit rfl rfl ?_))))
      exact ⟨_, rfl, _, rfl, h, b, d, rfl, hh, m2, fun c => kE _ (if_pos c) ne_e3, fun c => kQ (if_neg (by omega)) _ z1⟩
end
end Kw


set_option Elab.async false
set_option linter.all false
set_option maxRecDepth 100000
set_option maxHeartbeats 4000000
namespace Kw
open PySem PySem.Spec PyProof.Rows L2
/-! ### _law_error, of any of the plain errors -/
def Known (K : PySem.W.Frag) (mg : Str → Option Value) (ce : Str → Addr) (CW : Addr) (z : Str) : Prop := ∃ j, ErrJ K mg (ce z) CW j ∧ j < 15 ∧ (j ≠ 2 ∧ j ≠ 3 ∧ j ≠ 4) ∧ nameJ j = z
def errOutG (K : PySem.W.Frag) (mg : Str → Option Value) (ce : Str → Addr) (CW : Addr) (Q : VK) : XK := fun cls d H' => ∃ z, cls = .ref (ce z) ∧ Known K mg ce CW z ∧ d = none ∧ ∀ H2, Same H' H2 → Q (.str z) H2
def TErrG (K : PySem.W.Frag) (mg : Str → Option Value) (ce : Str → Addr) (CW : Addr) : (XK → Hp → VK → Prop) → Hp → VK → Prop := fun tl H Q => tl (errOutG K mg ce CW Q) H (fun _ H' => Q (.str "") H')
theorem errG_gives {X : Cx} {g CW : Addr} {cdg : Value} {q : Str} {ce : Str → Addr} (hw : X.mg "WatchError" = some (.ref CW)) (B : Bt X.mg) : LamX.GivesTo X ["_law_work", "error", "_law_kinds", "_law_names", "_law_name"] "_law_error" (defScope sErr) g cdg (defBody sErr) "_law_work" q (TErrG X.K X.mg ce CW) := by
  intro f c' s H Q tl act hc h
  have hgl : Gl (cxOf C8.CX0 X.prog X.w X.K X.mg X.base ["_law_work", "error", "_law_kinds", "_law_names", "_law_name"] "_law_error" (defScope sErr) g cdg X.A X.stack s H C8.E0).nox "WatchError" := rfl
  refine ⟨_, pss_cons (ps_try_as (X := (cxOf C8.CX0 X.prog X.w X.K X.mg X.base ["_law_work", "error", "_law_kinds", "_law_names", "_law_name"] "_law_error" (defScope sErr) g cdg X.A X.stack s H C8.E0).nox) (c := .ref CW) (i := 1)
      (tb := fun W D σ H => ∃ Ech : XK, (∀ cls d σ' H', Ech cls d H' → W cls d σ' H') ∧ σ[0]? = some (some (.ref f)) ∧ H c' = some (LamX.CodeO c' q) ∧ tl Ech H (fun _ H' => D.nx σ H'))
      (ts := fun a cls d D σ H => ∃ z, cls = .ref (ce z) ∧ Known X.K X.mg ce CW z ∧ d = none ∧ ∃ (σ0 : L2.St), σ = σ0.set 1 (some (.ref a)) ∧ ∀ H2, Same H H2 → D.rt (.str z) H2)
      rfl rfl scErr.nd rfl rfl ⟨hgl, by decide, .inl hw⟩ LamX.takes0 (fun W pn xe tk _ => ?_) (fun a oe cls d pn hz hf => ?_)) (pss_one (ps_ret pe_str)), ?_⟩
  · refine ⟨fun pins s' σ H' D I h' => ?_⟩
    obtain ⟨Ech, hW, h1, h2, h3⟩ := h'
    exact (pss_one (ps_expr (act W pn xe Ech _ _ tk hW))).run pins s' σ H' D I ⟨h1, h2, h3⟩
  · refine ⟨fun pins s' σ H' D I h' => ?_⟩
    obtain ⟨z, rfl, ⟨j, T, hj, hn, ez⟩, rfl, σ0, hσ, k⟩ := h'
    have hl : σ0.length = 5 := by
      have q := I.len
      rw [hσ, List.length_set] at q
      exact q
    obtain ⟨v0, v1, v2, v3, v4, e5⟩ : ∃ v0 v1 v2 v3 v4, σ0 = [v0, v1, v2, v3, v4] := by
      match σ0, hl with
      | [v0, v1, v2, v3, v4], _ => exact ⟨v0, v1, v2, v3, v4, rfl⟩
    rw [e5] at hσ
    subst ez
    obtain ⟨t, ht, hq⟩ := err_suiteG (P := X.prog) (w := X.w) (K := X.K) (mg := X.mg) (base := X.base) (g := g) (cdg := cdg) (A := X.A) (outer := X.stack) (s0 := s) (H0 := H) T hj hn B hz hf D σ H' v0 v2 v3 v4 hσ (fun d e => by cases e) k
    exact ht.run pins s' σ H' D I hq
  · refine ⟨errOutG X.K X.mg ce CW Q, fun cls d σ' H' ⟨z, e1, kn, e2, k⟩ => ?_, rfl, hc, h⟩
    obtain ⟨j, T, hj, hn, ez⟩ := id kn
    exact ⟨true, by rw [e1]; exact T.exm, fun _ a ha => ⟨z, e1, kn, e2, σ', rfl, k⟩, fun z => by cases z⟩
/-! ### worlds -/
structure WorldC (K : PySem.W.Frag) (CW : Addr) : Prop where
  cl : Cls K CW
  nH : NoAttr K CW "house"
  nS : NoAttr K CW "state"
structure WorldAt (K : PySem.W.Frag) (CW : Addr) (H : Hp) (a h : Addr) (d : Hs) : Prop where
  ex : ∃ dx fs vst, H a = some (.ins CW dx fs) ∧ fs.lookup ("house" : Str) = some (.ref h) ∧ fs.lookup ("state" : Str) = some vst ∧ (∀ x : Str, ¬ x = "house" → ¬ x = "state" → fs.lookup x = none) ∧ fs.length ≤ 100 ∧ Dp K H vst (stD d)
theorem WorldAt.nl {K : PySem.W.Frag} {CW : Addr} {H H' : Hp} {a h : Addr} {d : Hs} (k : Nl H H') (x : WorldAt K CW H a h d) : WorldAt K CW H' a h d := by
  obtain ⟨dx, fs, vst, h0, h1, h2, h3, h4, h5⟩ := x.ex
  exact ⟨dx, fs, vst, k _ _ h0 (fun _ z => nomatch z) (fun _ z => nomatch z), h1, h2, h3, h4, Dp.nl k _ _ (noL_st _) h5⟩
theorem WorldAt.same {K : PySem.W.Frag} {CW : Addr} {H H' : Hp} {a h : Addr} {d : Hs} (k : Same H H') (x : WorldAt K CW H a h d) : WorldAt K CW H' a h d := x.nl (nl_same k)
section
variable {P : Program} {w : World} {K : PySem.W.Frag} {mg : Str → Option Value} {base : Heap}
def spWInit (K : PySem.W.Frag) (C CW : Addr) : Sp := fun vs H Q _ => ∃ (a dx h : Addr) (d : Hs), vs = [.ref a, .ref h] ∧ H a = some (.ins CW dx []) ∧ HouseAt K C H h d ∧ (∀ H', But a H H' → WorldAt K CW H' a h d → (∃ dy fs, H' a = some (.ins CW dy fs) ∧ fs.length ≤ 10) → Q .non H')
theorem but_ins {a C dx : Addr} {fs : List (Str × V)} {H H' : Hp} (ha : H a = some (.ins C dx fs)) (b : But a H H') {v : V} {d : PyData} (hn : noL d = true) (h : Dp K H v d) : Dp K H' v d :=
  Dp.tp (fun c xs e => by
    rcases e with e | ⟨o, e⟩
    · exact .inl (b c _ e (ne_of e ha (by intro z; cases z)))
    · exact .inr ⟨o, b c _ e (ne_of e ha (by intro z; cases z))⟩) _ _ hn h
/-! ### world.changed(state) -/
structure WMk (P : Program) (w : World) (K : PySem.W.Frag) (mg : Str → Option Value) (base : Heap) (C CW g : Addr) (fd : FuncData) : Prop where
  M : Mk K CW g
  G : FnOk P w K mg base CX0 1 g fd ["self", "house"] (spWInit K C CW)
  m : mg "World" = some (.ref CW)
  b : Binds K fd ["self", "house"] []
def spWCh (K : PySem.W.Frag) (C CW : Addr) : Sp := fun vs H Q _ => ∃ (a h : Addr) (v : V) (d0 d d' : Hs), vs = [.ref a, v] ∧ WorldAt K CW H a h d ∧ HouseAt K C H h d0 ∧ Dp K H v (stD d') ∧ ∀ b H', Same H H' → H b = none → WorldAt K CW H' b h d' → Q (.ref b) H'
end
end Kw


set_option Elab.async false
set_option linter.all false
set_option maxRecDepth 100000
set_option maxHeartbeats 4000000
namespace Kw
open PySem PySem.Spec PyProof.Rows L2
/-! ### houses and states of one shape -/
structure Shp (d0 d : Hs) : Prop where
  h : d0.hands = d.hands
  r : ∀ k, (rowOf d0 k).length = (rowOf d k).length
theorem Shp.refl (d : Hs) : Shp d d := ⟨rfl, fun _ => rfl⟩
theorem Shp.trans {a b c : Hs} (x : Shp a b) (y : Shp b c) : Shp a c := ⟨x.h.trans y.h, fun k => (x.r k).trans (y.r k)⟩
theorem Shp.set (d : Hs) (p : It) (q : Pl) : Shp d (setD d p q) := by
  obtain ⟨k, n⟩ := p
  refine ⟨?_, fun j => ?_⟩
  · cases k <;> rfl
  · cases k <;> cases j <;> first | rfl | (show List.length _ = (List.set _ _ _).length; rw [List.length_set])
theorem Shp.next (d : Hs) (e : Dd) : Shp d (nextOf d e) := by cases e <;> exact Shp.set _ _ _
theorem Shp.inH {d0 d : Hs} (s : Shp d0 d) (p : It) : Kw.inH d0 p ↔ Kw.inH d p := by
  unfold Kw.inH
  rw [s.r]
theorem unk_shp {d0 d : Hs} (s : Shp d0 d) (e : Dd) : unkOf d0 e = unkOf d e := by
  have hb : d0.bs.length = d.bs.length := s.r .box
  have hs : d0.ss.length = d.ss.length := s.r .sl
  unfold unkOf
  simp only [s.h, s.inH, hb, hs]
theorem Shp.ls {d0 d : Hs} (s : Shp d0 d) (l : Ls d0) : Ls d := by
  have hb : d0.bs.length = d.bs.length := s.r .box
  have ht : d0.ts.length = d.ts.length := s.r .thing
  have hs : d0.ss.length = d.ss.length := s.r .sl
  exact ⟨by rw [← hb]; exact l.b, by rw [← ht]; exact l.t, by rw [← hs]; exact l.s⟩
section
variable {P : Program} {w : World} {K : PySem.W.Frag} {mg : Str → Option Value} {base : Heap}
/-! ### world == other -/
theorem eqv_pls (l : List Pl) : ∀ m : List Pl, PyData.eqv (plsD l) (plsD m) = decide (l = m) := by
  have go : ∀ l m : List Pl, PyData.eqvAll (l.map plD) (m.map plD) = decide (l = m) := by
    intro l
    induction l with
    | nil => intro m; cases m with
      | nil => rfl
      | cons a r => simp [PyData.eqvAll]
    | cons a r ih => intro m; cases m with
      | nil => simp [PyData.eqvAll]
      | cons c s =>
        show (PyData.eqv (plD a) (plD c) && PyData.eqvAll (r.map plD) (s.map plD)) = _
        rw [eqv_pl, ih]
        by_cases h1 : a = c <;> by_cases h2 : r = s <;> simp [h1, h2]
  intro m
  exact go l m
def sameD (d e : Hs) : Bool := decide (d.bs = e.bs) && (decide (d.ts = e.ts) && decide (d.ss = e.ss))
theorem eqv_st2 (d e : Hs) : PyData.eqv (stD d) (stD e) = sameD d e := by
  simp [stD, PyData.eqv, PyData.eqvAll, eqv_pls, sameD]
theorem same_refl (d : Hs) : sameD d d = true := by simp [sameD]
end
end Kw


set_option Elab.async false
set_option linter.all false
set_option maxRecDepth 100000
set_option maxHeartbeats 4000000
namespace Kw
open PySem PySem.Spec PyProof.Rows L2 SrtO
section
variable {prog : Program} {w : World} {A : Around} {E : Value → Shared → Prop} {s : Shared}
/-- sorted of a list or a tuple, by an order of its items -/
theorem sorted_seq {l : Addr} {T : String} {o : Obj} {its : List Value} {n : Nat} {ltv : Value → Value → Bool} {Q : Value → Shared → Prop} (O : Swo ltv) (hT : T = "list" ∨ T = "tuple") (ho : s.heap.get? l = some o) (hc : o.cls = .type T) (hd : o.data = .seq its.toArray n) (hz : its.length ≤ sizeLine)
    (hS : 2 ≤ its.length → ∀ (h1 : Heap) (a : Addr), (∀ b o, s.heap.get? b = some o → b ≠ a ∧ h1.get? b = some o) → h1.get? a = some (seqObj "list" its.toArray 0) → SortableO prog w A.in1.in1 { s with heap := h1 } a its ltv)
    (k : ∀ (h2 h' : Heap) (d : Addr) (out : List Value), Srtd ltv out → Stb ltv out its → (∀ b o, s.heap.get? b = some o → h2.get? b = some o) → (∀ b o, h2.get? b = some o → h'.get? b = some o) → h2.objs.size ≤ d → (∃ n, h'.get? d = some (seqObj "list" out.toArray n)) → Q (.ref d) { s with heap := h' }) :
    wpAny (model prog w) A (call (.builtin "sorted") [.ref l]) Q E s := by
  refine Calls.call_function_entry kind_sorted plain_sorted entry_sorted (args_sorted1 _) ?_
  unfold Builtin.«sorted»
  refine wpAny_bind (m := checkCount "sorted" 1 1 _) (wpAny_pure ?_)
  refine wpAny_bind (wpAny_collect_seq l hT ho hc hd (fun h2 kp => ?_) (by rw [List.size_toArray]; exact hz))
  have ei : its.toArray.toList = its := by simp
  rw [ei]
  refine wpAny_bind (wpAny_newList ?_ hz)
  have ha : (h2.push { cls := .type "list", data := .seq its.toArray }).get? h2.objs.size = some (seqObj "list" its.toArray 0) := Heap.get?_push_size _ rfl
  have keep : ∀ b o, s.heap.get? b = some o → b ≠ h2.objs.size ∧ (h2.push { cls := .type "list", data := .seq its.toArray }).get? b = some o := fun b o q => by
    have q2 := kp b o q
    exact ⟨Nat.ne_of_lt (Heap.lt_size q2), Heap.get?_push_of_some _ q2⟩
  refine wpAny_bind (wpAny_holding (wpAny_call_entry slot_list_sort ⟨_, ha, rfl⟩ entry_list_sort (list_sort_ord O ha hz (fun g2 => hS g2 _ _ keep ha) fun out hs hb => ⟨_, rfl, ?_⟩) (args_list_sort _)))
  refine wpAny_pure ⟨_, rfl, ?_⟩
  refine k h2 _ _ out hs hb kp (fun b o q => ?_) (Nat.le_refl _) (sortedHeap_at ha)
  have lt := Heap.lt_size q
  have q2 : (h2.push { cls := .type "list", data := .seq its.toArray }).get? b = some o := Heap.get?_push_of_some _ q
  rw [sortedHeap_old (Nat.ne_of_lt lt) (Heap.lt_size q2)]
  exact q2
end
/-! ### items -/
def IsIt (h : Heap) (v : Value) (p : It) : Prop := ∃ a o t u n, v = .ref a ∧ h.get? a = some o ∧ o.cls = .type "tuple" ∧ o.data = .seq #[.str p.1.str t, .int (p.2 : Nat) u] n
theorem IsIt.uniq {h : Heap} {v : Value} {p q : It} (x : IsIt h v p) (y : IsIt h v q) : p = q := by
  obtain ⟨a, o, t, u, n, rfl, ho, _, hd⟩ := x
  obtain ⟨a', o', t', u', n', e, ho', _, hd'⟩ := y
  cases e
  rw [ho] at ho'
  cases ho'
  rw [hd] at hd'
  have e1 := Data.seq.inj hd'
  have e2 := congrArg Array.toList e1.1
  simp only [List.cons.injEq] at e2
  obtain ⟨e3, e4, _⟩ := e2
  have k1 := (Value.str.inj e3).1
  have k2 := (Value.int.inj e4).1
  exact Prod.ext (kd_inj k1) (by omega)
theorem IsIt.keeps {h h' : Heap} {v : Value} {p : It} (x : IsIt h v p) (k : ∀ b o, h.get? b = some o → h'.get? b = some o) : IsIt h' v p := by
  obtain ⟨a, o, t, u, n, e, ho, hc, hd⟩ := x
  exact ⟨a, o, t, u, n, e, k _ _ ho, hc, hd⟩
open Classical in
noncomputable def itOf (h : Heap) (v : Value) : It := if x : ∃ p, IsIt h v p then Classical.choose x else (.box, 0)
theorem itOf_eq {h : Heap} {v : Value} {p : It} (x : IsIt h v p) : itOf h v = p := by
  unfold itOf
  rw [dif_pos ⟨p, x⟩]
  exact (Classical.choose_spec (⟨p, x⟩ : ∃ p, IsIt h v p)).uniq x
section
variable {prog : Program} {w : World} {A : Around} {s : Shared}
theorem swo_it (f : Value → It) : Swo fun v u => itLt (f v) (f u) := swo_lex fun v => itKey (f v)
theorem it_cmp {vs : List Value} {f : Value → It} (hp : ∀ v ∈ vs, IsIt s.heap v (f v)) : Cmp prog w A s (tuples' true) (fun p => p.1 ∈ vs) (lt2 fun v u => itLt (f v) (f u)) := by
  intro x y hx hy
  have h1 := hp _ hx
  have h2 := hp _ hy
  show wpAny (model prog w) A (keyLt' (tuples' true) x.1 y.1) (fun r s' => s' = s ∧ r = itLt (f x.1) (f y.1)) (fun _ _ => False) s
  generalize f x.1 = p at *
  generalize f y.1 = q at *
  obtain ⟨a, o, t, u, n, e1, g1, g2, g3⟩ := h1
  obtain ⟨a2, o2, t2, u2, n2, e2, k1, k2, k3⟩ := h2
  rw [e1, e2]
  refine PySem.W.kat_lt g1 g3 k1 k3 ?_
  show PySem.W.KatLex prog w A true (decide (2 < 2)) _ [(.str p.1.str t, .str q.1.str t2), (.int (p.2 : Nat) u, .int (q.2 : Nat) u2)] 0 s
  refine PySem.W.kat_cons (SeqAt.EqAt.str_str p.1.str t q.1.str t2 prog w _ _ ?_)
  refine PySem.W.kat_go (fun z1 => ?_) (fun z1 => ?_)
  · have ek : p.1 = q.1 := kd_inj (by simpa using z1)
    refine PySem.W.kat_yes (PySem.W.kat_cons (SeqAt.EqAt.int_int _ u _ u2 prog w _ _ ?_))
    refine PySem.W.kat_go (fun z2 => ?_) (fun z2 => ?_)
    · have en : p.2 = q.2 := by
        have : ((p.2 : Nat) : Int) = (q.2 : Nat) := by simpa using z2
        omega
      have epq : p = q := Prod.ext ek en
      refine PySem.W.kat_yes (PySem.W.kat_nil ⟨rfl, ?_⟩)
      rw [epq]
      cases z : itLt q q with
      | false => rfl
      | true =>
        rcases itLt_iff.mp z with c | ⟨_, c⟩ <;> omega
    · refine PySem.W.kat_no (PySem.W.kat_one _ _ (PyProof.Rows.lt_int ⟨rfl, ?_⟩))
      by_cases c : p.2 < q.2
      · rw [itLt_iff.mpr (.inr ⟨ek, c⟩)]
        exact decide_eq_true (by omega)
      · have n1 : itLt p q = false := by
          cases z : itLt p q with
          | false => rfl
          | true =>
            rcases itLt_iff.mp z with d | ⟨_, d⟩
            · rw [ek] at d; omega
            · exact absurd d c
        rw [n1]
        exact decide_eq_false (by omega)
  · have ek : ¬ p.1 = q.1 := fun z => by rw [z] at z1; simp at z1
    refine PySem.W.kat_no (oneLt_str ⟨rfl, ?_⟩)
    rw [kd_lt]
    by_cases c : rkd p.1 < rkd q.1
    · rw [itLt_iff.mpr (.inl c)]
      exact decide_eq_true c
    · have n1 : itLt p q = false := by
        cases z : itLt p q with
        | false => rfl
        | true =>
          rcases itLt_iff.mp z with d | ⟨d, _⟩
          · exact absurd d c
          · exact absurd d ek
      rw [n1]
      exact decide_eq_false c
theorem it_firsts {h : Heap} {f : Value → It} : ∀ {vs : List Value}, (∀ v ∈ vs, IsIt h v (f v)) → ∃ fs : List Value, PySem.W.KatTups h vs fs ∧ fs.length = vs.length ∧ ∀ x ∈ fs, ∃ y t, x = Value.str y t
  | [], _ => ⟨[], PySem.W.KatTups.nil, rfl, fun _ hm => by simp at hm⟩
  | v :: vs, hp => by
    obtain ⟨fs, h1, h2, h3⟩ := it_firsts (vs := vs) fun v' hm => hp v' (List.mem_cons_of_mem _ hm)
    obtain ⟨a, o, t, u, n, e, ho, hc, hd⟩ := hp v List.mem_cons_self
    rw [e]
    refine ⟨.str (f v).1.str t :: fs, PySem.W.KatTups.cons ho hc hd rfl h1, by rw [List.length_cons, List.length_cons, h2], fun x hm => ?_⟩
    rcases List.mem_cons.mp hm with rfl | hm
    · exact ⟨_, _, rfl⟩
    · exact h3 x hm
theorem it_sortable {a : Addr} {vs : List Value} {f : Value → It} (h0 : 0 < vs.length) (hp : ∀ v ∈ vs, IsIt s.heap v (f v)) (ha : ∀ o, s.heap.get? a = some o → o.cls ≠ .type "tuple") : SortableO prog w A s a vs fun v u => itLt (f v) (f u) := by
  intro h' keep
  have hp' : ∀ v ∈ vs, IsIt h' v (f v) := fun v hm => by
    obtain ⟨b, o, t, u, n, e, ho, hc, hd⟩ := hp v hm
    exact ⟨b, o, t, u, n, e, keep b o (fun z => by subst z; exact ha o ho hc) ho, hc, hd⟩
  obtain ⟨fs, h1, h2, h3⟩ := it_firsts hp'
  refine ⟨tuples' true, fun Q E hq => ?_, it_cmp (s := { s with heap := h' }) hp'⟩
  refine PySem.W.kat_kind (T := .type "str") h1 (by omega) (fun x hm => ?_) (by rfl) ?_
  · obtain ⟨y, t, rfl⟩ := h3 x hm
    exact PySem.W.Looks.now
  · have e : (Value.type "str" != Value.type "tuple") = true := by first | decide +kernel | rfl | decide
    rw [e]
    exact hq
end
section
variable {X : Cx}
/-- sorted(xs), xs a list or a tuple of items -/
def rSortI (K : PySem.W.Frag) : List V → Hp → VK → Prop := fun vs H Q => ∃ (a : Addr) (xs : List V) (ps : List It), vs = [.ref a] ∧ (SqL K H a xs ∨ SqT K H a xs) ∧ DpAll K H xs (ps.map itP) ∧
  ∀ (ys : List V) (qs : List It) (p : Addr), qs.Perm ps → qs.Pairwise (fun x y => itLt y x = false) → DpAll K H ys (qs.map itP) → H p = none → Q (.ref p) (L2.upd H p (.lst ys))
theorem isit_of {pins : List (Addr × Obj)} {σ : L2.St} {H : Hp} {x : V} {v : Value} {p : It} (I : Inv X pins σ H s) (h : Dp X.K H x (itP p)) (r : RelV x v) : IsIt s.heap v p := by
  obtain ⟨a, rfl, ha⟩ := it_at h
  cases r
  obtain ⟨its, rv, ⟨o, ho, hc, n, hd⟩, _⟩ := I.tuple ha
  obtain ⟨t, u, rfl⟩ := two_of rv
  exact ⟨a, o, t, u, n, rfl, ho, hc, hd⟩
theorem all_isit {pins : List (Addr × Obj)} {σ : L2.St} {H : Hp} {s : Shared} (I : Inv X pins σ H s) : ∀ {xs : List V} {ps : List It} {vs : List Value}, DpAll X.K H xs (ps.map itP) → Vals xs vs → vs.map (itOf s.heap) = ps ∧ ∀ v ∈ vs, IsIt s.heap v (itOf s.heap v)
  | [], [], [], _, _ => ⟨rfl, fun v h => nomatch h⟩
  | x :: xs, p :: ps, v :: vs, .cons d1 dd, .cons r1 rr => by
    obtain ⟨h1, h2⟩ := all_isit I dd rr
    have h0 := isit_of I d1 r1
    have e0 := itOf_eq h0
    refine ⟨by rw [List.map_cons, h1, e0], fun u hu => ?_⟩
    rcases List.mem_cons.mp hu with rfl | hu
    · rw [e0]; exact h0
    · exact h2 u hu
theorem back_dp {pins : List (Addr × Obj)} {σ : L2.St} {H : Hp} {s : Shared} (I : Inv X pins σ H s) : ∀ {ys : List V} {vs : List Value}, (∀ y ∈ ys, ∃ p : It, Dp X.K H y (itP p)) → Vals ys vs → DpAll X.K H ys ((vs.map (itOf s.heap)).map itP)
  | [], [], _, _ => .nil
  | y :: ys, v :: vs, h, .cons r1 rr => by
    obtain ⟨p, hp⟩ := h y List.mem_cons_self
    have e0 := itOf_eq (isit_of I hp r1)
    refine .cons ?_ (back_dp I (fun u hu => h u (List.mem_cons_of_mem _ hu)) rr)
    rw [e0]
    exact hp
theorem dp_mem {K : PySem.W.Frag} {H : Hp} : ∀ {xs : List V} {ps : List It}, DpAll K H xs (ps.map itP) → ∀ x ∈ xs, ∃ p : It, p ∈ ps ∧ Dp K H x (itP p)
  | [], _, _, x, h => nomatch h
  | x :: xs, p :: ps, .cons d1 dd, y, h => by
    rcases List.mem_cons.mp h with rfl | h
    · exact ⟨p, List.mem_cons_self, d1⟩
    · obtain ⟨q, h1, h2⟩ := dp_mem dd y h
      exact ⟨q, List.mem_cons_of_mem _ h1, h2⟩
theorem cr_sortI : CallR X (.builtin "sorted") (rSortI X.K) := by
  intro pins s σ H vs us Q I r h
  obtain ⟨a, xs, ps, rfl, hs, hd, q⟩ := h
  obtain ⟨u, rfl, ru⟩ := vals1 r
  obtain rfl : u = Value.ref a := ru
  have seq : ∃ (T : String) (its : List Value) (o : Obj) (n : Nat), (T = "list" ∨ T = "tuple") ∧ s.heap.get? a = some o ∧ o.cls = .type T ∧ o.data = .seq its.toArray n ∧ Vals xs its ∧ xs.length ≤ sizeLine := by
    rcases hs with hs | hs
    · obtain ⟨its, rv, pl, hz⟩ := I.list hs
      obtain ⟨o, ho, hc, n, hd⟩ := pl.isList
      exact ⟨"list", its, o, n, .inl rfl, ho, hc, hd, rv, hz⟩
    · obtain ⟨its, rv, ⟨o, ho, hc, n, hd⟩, hz⟩ := I.tuple hs
      exact ⟨"tuple", its, o, n, .inr rfl, ho, hc, hd, rv, hz⟩
  obtain ⟨T, its, o, n, hT, ho, hc, hd2, rv, hz⟩ := seq
  obtain ⟨e1, e2⟩ := all_isit I hd rv
  refine sorted_seq (swo_it (itOf s.heap)) hT ho hc hd2 (by rw [← rv.length]; exact hz) (fun g2 h1 a1 keep ha1 => ?_) fun h2 h' d out o1 o2 k1 k2 hd3 hn => ?_
  · refine it_sortable (s := { s with heap := h1 }) (by omega) (fun v hv => (e2 v hv).keeps fun b o e => (keep b o e).2) fun o e => ?_
    have e' : some o = some (seqObj "list" its.toArray 0) := e.symm.trans ha1
    cases e'
    intro c
    exact absurd (Value.type.inj c) (by decide)
  · obtain ⟨n', hn⟩ := hn
    obtain ⟨ys, ry, py⟩ := vals_perm o2.perm rv
    have I2 : Inv X pins σ H { s with heap := h2 } := I.kept (t' := s.toks) k1
    have dy : DpAll X.K H ys ((out.map (itOf s.heap)).map itP) := back_dp I (fun y hy => by
      obtain ⟨p, _, h⟩ := dp_mem hd y (py.mem_iff.mp hy)
      exact ⟨p, h⟩) ry
    have pq : (out.map (itOf s.heap)).Perm ps := by
      have := o2.perm.map (itOf s.heap)
      rw [e1] at this
      exact this
    have sq : (out.map (itOf s.heap)).Pairwise (fun x y => itLt y x = false) := List.pairwise_map.mpr o1
    have hlen : ys.length ≤ sizeLine := by rw [py.length_eq]; exact hz
    exact ⟨.ref d, L2.upd H d (.lst ys), I2.laid (t' := s.toks) k2 hd3 ⟨hlen, out, n', ry, hn⟩, rfl, q ys _ d pq sq dy (I2.hok.fresh hd3)⟩
end
end Kw


set_option Elab.async false
set_option linter.all false
set_option maxRecDepth 100000
set_option maxHeartbeats 4000000
namespace Kw
open PySem PySem.Spec PyProof.Rows L2
abbrev sInside : Stmt := top 59
abbrev sIs : Stmt := top 60
abbrev sSight : Stmt := top 61
abbrev sHands : Stmt := top 62
abbrev sStory : Stmt := top 63
/-! ### places that there are, boxes not around one another -/
def PlOk (d : Hs) (k : Kd) (q : Pl) : Prop := (q.1 = .hand → 0 ≤ q.2 ∧ q.2 < d.hands) ∧ (q.1 = .box → ∃ j : Nat, q.2 = (j : Int) ∧ j < d.bs.length) ∧ (q.1 = .gone → k = .sl ∧ q.2 = 0)
structure Wf (d : Hs) : Prop where
  pl : ∀ k (i : Nat) q, (rowOf d k)[i]? = some q → PlOk d k q
  ac : ∃ ρ : Nat → Nat, ∀ (i j : Nat), d.bs[i]? = some (.box, (j : Int)) → ρ j < ρ i
theorem set_get {l : List Pl} {i j : Nat} {q z : Pl} (h : (l.set i q)[j]? = some z) : (j = i ∧ z = q) ∨ (j ≠ i ∧ l[j]? = some z) := by
  by_cases c : j = i
  · subst c
    rw [List.getElem?_set_self (by have := (List.getElem?_eq_some_iff.mp h).1; rwa [List.length_set] at this)] at h
    exact .inl ⟨rfl, (Option.some.inj h).symm⟩
  · rw [List.getElem?_set_ne (Ne.symm c)] at h
    exact .inr ⟨c, h⟩
theorem row_set (d : Hs) (p : It) (q : Pl) (k : Kd) : rowOf (setD d p q) k = if k = p.1 then (rowOf d k).set p.2 q else rowOf d k := by
  obtain ⟨k', n⟩ := p
  cases k' <;> cases k <;> rfl
theorem hands_set (d : Hs) (p : It) (q : Pl) : (setD d p q).hands = d.hands := by
  obtain ⟨k', n⟩ := p
  cases k' <;> rfl
theorem PlOk.shp {d d' : Hs} (s : Shp d d') {k : Kd} {q : Pl} (h : PlOk d k q) : PlOk d' k q := by
  have hb : d.bs.length = d'.bs.length := s.r .box
  unfold PlOk at *
  rw [← s.h, ← hb]
  exact h
/-- all but a box put into another -/
theorem Wf.set {d : Hs} (w : Wf d) {p : It} {q : Pl} (hq : PlOk d p.1 q) (hb : p.1 = .box → q.1 ≠ .box) : Wf (setD d p q) := by
  have sh := Shp.set d p q
  refine ⟨fun k i z hz => ?_, ?_⟩
  · rw [row_set] at hz
    by_cases c : k = p.1
    · rw [if_pos c] at hz
      rcases set_get hz with ⟨_, e⟩ | ⟨_, e⟩
      · rw [e, c]
        exact hq.shp sh
      · exact (w.pl k i z e).shp sh
    · rw [if_neg c] at hz
      exact (w.pl k i z hz).shp sh
  · obtain ⟨ρ, hρ⟩ := w.ac
    refine ⟨ρ, fun i j h => ?_⟩
    have h : (rowOf (setD d p q) .box)[i]? = some (.box, (j : Int)) := h
    rw [row_set] at h
    by_cases c : Kd.box = p.1
    · rw [if_pos c] at h
      rcases set_get h with ⟨_, e⟩ | ⟨_, e⟩
      · exact absurd (by rw [← e]) (hb c.symm)
      · exact hρ i j e
    · rw [if_neg c] at h
      exact hρ i j h
/-- a box that is held straight put into another that is held straight -/
theorem Wf.put {d : Hs} (w : Wf d) {n b : Nat} {h h' : Int} (hn : d.bs[n]? = some (.hand, h)) (hb : d.bs[b]? = some (.hand, h')) (ne : n ≠ b) : Wf (setD d (.box, n) (.box, (b : Int))) := by
  have sh := Shp.set d (.box, n) (.box, (b : Int))
  have lb := (List.getElem?_eq_some_iff.mp hb).1
  have hq : PlOk d .box (.box, (b : Int)) := ⟨fun z => (nomatch z), fun _ => ⟨b, rfl, lb⟩, fun z => (nomatch z)⟩
  refine ⟨fun k i z hz => ?_, ?_⟩
  · rw [row_set] at hz
    by_cases c : k = Kd.box
    · rw [if_pos c] at hz
      rcases set_get hz with ⟨_, e⟩ | ⟨_, e⟩
      · rw [e, c]
        exact hq.shp sh
      · exact (w.pl k i z e).shp sh
    · rw [if_neg c] at hz
      exact (w.pl k i z hz).shp sh
  · obtain ⟨ρ, hρ⟩ := w.ac
    refine ⟨fun x => if x = b then 0 else ρ x + 1, fun i j hij => ?_⟩
    have hij : (rowOf (setD d (.box, n) (.box, (b : Int))) .box)[i]? = some (.box, (j : Int)) := hij
    rw [row_set, if_pos rfl] at hij
    have nb : i ≠ b := fun z => by
      subst z
      rcases set_get hij with ⟨e1, _⟩ | ⟨_, e2⟩
      · exact ne e1.symm
      · have e3 : d.bs[i]? = some (.box, (j : Int)) := e2
        rw [hb] at e3
        cases e3
    dsimp only
    rw [if_neg nb]
    by_cases cj : j = b
    · rw [if_pos cj]
      omega
    · rw [if_neg cj]
      rcases set_get hij with ⟨_, e⟩ | ⟨_, e⟩
      · have := congrArg Prod.snd e
        have e2 : ((j : Nat) : Int) = (b : Nat) := this
        exact absurd (by omega) cj
      · have := hρ i j e
        omega
theorem Wf.next {d : Hs} (w : Wf d) {e : Dd} (kn : Kn d e) (hb : Hb d e) (bar : barOf d e = "") : Wf (nextOf d e) := by
  cases e with
  | give h p o => exact w.set ⟨fun _ => ⟨by show (0 : Int) ≤ (o : Nat); omega, hb.2.1⟩, fun z => (nomatch z), fun z => (nomatch z)⟩ (fun _ => by intro z; cases z)
  | put h p b =>
    obtain ⟨k, n⟩ := p
    have hq : PlOk d k (.box, (b : Int)) := ⟨fun z => (nomatch z), fun _ => ⟨b, rfl, kn.2⟩, fun z => (nomatch z)⟩
    by_cases c : k = .box
    · subst c
      simp only [barOf] at bar
      by_cases c1 : whereD d (.box, b) = some (.hand, (h : Int))
      · rw [if_pos c1] at bar
        by_cases c2 : whereD d (.box, n) = some (.hand, (h : Int))
        · exact w.put (show d.bs[n]? = _ from c2) (show d.bs[b]? = _ from c1) (fun z => hb.2.1 (by rw [z]))
        · rw [if_neg c2] at bar; exact absurd bar (by decide +kernel)
      · rw [if_neg c1] at bar; exact absurd bar (by decide +kernel)
    · exact w.set hq fun z => absurd z c
  | take h p b => exact w.set ⟨fun _ => ⟨by show (0 : Int) ≤ (h : Nat); omega, hb.1⟩, fun z => (nomatch z), fun z => (nomatch z)⟩ (fun _ => by intro z; cases z)
  | lock h b s => exact w.set (p := (.sl, s)) ⟨fun z => (nomatch z), fun _ => ⟨b, rfl, kn.1⟩, fun z => (nomatch z)⟩ (fun z => by cases z)
  | brk h b => exact w.set (p := (.sl, onIx d b)) ⟨fun z => (nomatch z), fun z => (nomatch z), fun _ => ⟨rfl, rfl⟩⟩ (fun z => by cases z)
/-! ### what is straight at a place -/
def atOf (l : List Pl) (k : Kd) (q : Pl) : List It := ((List.range l.length).filter fun i => decide (l[i]? = some q)).map fun i => (k, i)
def loadsOf (d : Hs) (q : Pl) : List It := atOf d.bs .box q ++ atOf d.ts .thing q
def insideOf (d : Hs) (b : Nat) : List It := loadsOf d (.box, (b : Int))
theorem itP_map (l : List Nat) (k : Kd) : (l.map fun i => (k, i)).map itP = l.map fun i => itP (k, i) := by
  rw [List.map_map]
  rfl
section
variable {P : Program} {w : World} {K : PySem.W.Frag} {mg : Str → Option Value} {base : Heap}
/-- [(word, i) for i in range(n) if ..] -/
theorem lc_fltR {σ : L2.St} {H1 : Hp} {D : Addr} {tt : TT} {Qd : Hp → Prop} (k : Kd) (n j : Nat) (p : Nat → Bool) (hj : j < σ.length) (hn : n ≤ 1000) (hD : H1 D = none)
    (ht : ∀ (i : Nat) (H : Hp) (T : Bool → Hp → Prop), i < n → Same H1 H → (∀ H', Same H H' → T (p i) H') → tt ((wipe σ [j]).set j (some (.int (i : Nat)))) H T)
    (hd : ∀ H zs, Same H1 H → H D = some (.lst zs) → DpAll K H zs (((List.range n).filter p).map fun i => itP (k, i)) → Qd H) :
    ∃ W : Nat → Nat → Hp → Prop, (∃ m, W 0 m (upd H1 D (.lst []))) ∧ ∀ i m H, W i m H →
      ((Itr 0 n).stop i H ∧ Qd H) ∨ ((Itr 0 n).go i H ∧ ∃ Nx : Hp → Prop, (∀ H', Nx H' → ∃ m', m' < m ∧ W (i + 1) m' H') ∧ ∀ x H', (Itr 0 n).yld i H x H' → gName j x (wipe σ [j]) H' fun σ2 H2 => wipe σ2 [j] = wipe σ [j] ∧ tt σ2 H2 fun b H3 =>
        if b = true then tTup (tCons (tC (.str k.str)) (tCons (tVar j) tNil)) σ2 H3 fun y H4 => ∃ acc, H4 D = some (.lst acc) ∧ acc.length < sizeLine ∧ Nx (upd H4 D (.lst (acc ++ [y]))) else Nx H3) := by
  have e0 : ∀ (H' : Hp) (o : HO), Same H1 H' → Same H1 (L2.upd H' D o) := fun H' o e c u h => by rw [upd_ne (ne_of_none h hD)]; exact e c u h
  have nl : ∀ l : List Nat, noLs (l.map fun i => itP (k, i)) = true := fun l => noLs_map (fun i => itP (k, i)) (fun _ => rfl) l
  refine lc_range (lo := 0) (n := n) (fun i H => Same H1 H ∧ ∃ zs, H D = some (.lst zs) ∧ zs.length ≤ i ∧ DpAll K H zs (((List.range i).filter p).map fun i => itP (k, i))) ⟨same_upd hD, [], upd_same, Nat.le_refl _, .nil⟩ ?_ ?_
  · rintro i H hi ⟨e, zs, hz, lz, dz⟩
    rw [Int.zero_add]
    refine ⟨wipe_one _ j _, ht i H _ hi e fun H' e' => ?_⟩
    have hz' := e' _ _ hz
    have er : (List.range (i + 1)).filter p = (List.range i).filter p ++ (if p i = true then [i] else []) := by
      rw [List.range_succ, List.filter_append]
      congr 1
      simp only [List.filter_cons, List.filter_nil]
    refine ite_b _ (fun c => ?_) (fun c => ?_)
    · rw [c, if_pos rfl] at er
      refine ⟨_, List.getElem?_set_self (by rw [wipe_length]; exact hj), (by show 2 ≤ sizeLine; decide), fun t ht' => ?_⟩
      have f1 := same_upd (o := HO.tup [.str k.str, .int (i : Nat)]) ht'
      have hz2 := f1 _ _ hz'
      have nl2 := nl_updL (ys := zs ++ [V.ref t]) hz2
      refine ⟨zs, hz2, by rw [sizeLine_eq]; omega, e0 _ _ ((e.trans e').trans f1), zs ++ [.ref t], upd_same, by rw [List.length_append]; simp; exact lz, ?_⟩
      rw [er, List.map_append]
      exact DpAll.app (Dp.nls nl2 _ _ (nl _) (Dp.sames (e'.trans f1) _ _ dz)) (.cons (Dp.nl nl2 _ _ rfl (.tup (SqT.of upd_same) (.cons (.str _) (.cons (.int _) .nil)))) .nil)
    · rw [c, if_neg (by decide), List.append_nil] at er
      refine ⟨e.trans e', zs, hz', by omega, ?_⟩
      rw [er]
      exact Dp.sames e' _ _ dz
  · rintro H ⟨e, zs, hz, lz, dz⟩
    exact hd H zs e hz dz
/-! ### _law_inside -/
def spInside (K : PySem.W.Frag) : Sp := fun vs H Q _ => ∃ (x : V) (b : Nat) (d : Hs), vs = [x, .int (b : Nat)] ∧ Dp K H x (stD d) ∧ Ls d ∧ ∀ v H', Same H H' → Dp K H' v (.tuple ((insideOf d b).map itP)) → Q v H'
theorem scInside : FnScope ["_law_state", "_law_box", "_law_found", "_law_number"] ["_law_state", "_law_box"] (defScope sInside) := ⟨rfl, rfl, rfl, by decide +kernel, rfl, by decide +kernel, by decide +kernel⟩
theorem ok_inside {f : Addr} {fd : FuncData} (F : Fun K "_law_inside" "_law_inside" sInside f fd) (B : Bt mg) : FnOk P w K mg base CX0 1 f fd ["_law_state", "_law_box"] (spInside K) := by
  refine F.ok scInside (fun vs H Q E h => ?_) (fun cdv A outer s H vs Q E hr h => ?_)
  · obtain ⟨x, b, d, rfl, _⟩ := h
    rfl
  · obtain ⟨x, b, d, rfl, hx, hL, k⟩ := h
    have hu : (cxOf CX0 P w K mg base ["_law_state", "_law_box", "_law_found", "_law_number"] "_law_inside" (defScope sInside) f cdv A outer s H E).nox.A.units + 64 < cLine := by have := hr.un; show (A.deeper _).units + 64 < cLine; omega
    refine ⟨_, pss_cons (ps_setLc (i := 2) (own := [("_law_number", 3)]) (g := gName 3) (tt := tTest (tOp (rEqD K) (tOp (rIxT K) (tOp (rIxT K) (tVar 0) (tC (.int 0))) (tVar 3)) (tTup (tCons (tC (.str ("box" : Str))) (tCons (tVar 1) tNil))))) (te := tTup (tCons (tC (.str ("box" : Str))) (tCons (tVar 3) tNil))) rfl scInside.nd rfl rfl (sw_true rfl rfl rfl (by decide +kernel))
        (pi_range1 rfl B.rng (pa_cons (pe_callB call_len_seq (by rfl) B.len PySem.boot_len (pa_cons (pe_ix ix_tup (pv 0) pe_int (fun _ _ => rfl)) pa_nil)) pa_nil))
        (blkOk_by (own := [("_law_number", 3)]) (N := ["_law_state", "_law_box", "_law_found", "_law_number"]) (sc := defScope sInside) (by decide +kernel)) (fun _ _ _ _ _ => pg_name (i := 3) scInside.nd rfl (.inl rfl))
        (fun _ _ _ _ _ => pts_one (pt_cmpR (op_eqD hu) (pe_ix ix_tup (pe_ix ix_tup (pv 0) pe_int (fun _ _ => rfl)) (pv 3) (fun _ _ => rfl)) (pe_tup (pa_cons pe_str (pa_cons (pv 1) pa_nil))) (nomark _))) (fun _ _ _ _ _ => pe_tup (pa_cons pe_str (pa_cons (pv 3) pa_nil))))
      (pss_one (ps_ret (pe_callTy call_tuple_of (by rfl) B.tup (by decide +kernel) (pa_cons (pe_op op_cat (pv 2) (pe_lc (own := [("_law_number", 3)]) (g := gName 3) (tt := tTest (tOp (rEqD K) (tOp (rIxT K) (tOp (rIxT K) (tVar 0) (tC (.int 1))) (tVar 3)) (tTup (tCons (tC (.str ("box" : Str))) (tCons (tVar 1) tNil))))) (te := tTup (tCons (tC (.str ("thing" : Str))) (tCons (tVar 3) tNil))) rfl scInside.nd
        (pi_range1 rfl B.rng (pa_cons (pe_callB call_len_seq (by rfl) B.len PySem.boot_len (pa_cons (pe_ix ix_tup (pv 0) pe_int (fun _ _ => rfl)) pa_nil)) pa_nil))
        (blkOk_by (own := [("_law_number", 3)]) (N := ["_law_state", "_law_box", "_law_found", "_law_number"]) (sc := defScope sInside) (by decide +kernel)) (fun _ _ _ _ _ => pg_name (i := 3) scInside.nd rfl (.inl rfl))
        (fun _ _ _ _ _ => pts_one (pt_cmpR (op_eqD hu) (pe_ix ix_tup (pe_ix ix_tup (pv 0) pe_int (fun _ _ => rfl)) (pv 3) (fun _ _ => rfl)) (pe_tup (pa_cons pe_str (pa_cons (pv 1) pa_nil))) (nomark _))) (fun _ _ _ _ _ => pe_tup (pa_cons pe_str (pa_cons (pv 3) pa_nil))))) pa_nil)))), ?_⟩
    obtain ⟨a, v1, v2, v3, rfl, sa, d1, d2, d3⟩ := st_at hx
    obtain ⟨a1, x1, rfl, s1, dl1, l1⟩ := pls_at d1
    obtain ⟨a2, x2, rfl, s2, dl2, l2⟩ := pls_at d2
    have lb := hL.b
    have lt := hL.t
    refine ⟨_, rfl, a, _, 0, _, rfl, rfl, sa, rfl, a1, x1, rfl, .inr s1, _, rfl, by omega, by omega, fun D1 hD1 => ?_⟩
    rw [show (x1.length : Int).toNat = d.bs.length by omega]
    refine lc_fltR (K := K) .box d.bs.length 3 (fun i => decide (d.bs[i]? = some (.box, (b : Int)))) (by show 3 < 4; decide) (by omega) hD1 (fun i H' T hi e hT => ?_) (fun H1 z1 e1 hz1 dz1 => ?_)
    · obtain ⟨q, hq⟩ : ∃ q, d.bs[i]? = some q := ⟨_, List.getElem?_eq_getElem hi⟩
      obtain ⟨vq, g1, g2⟩ := DpAll.at2 dl1 (i := i) (d := plD q) (by rw [List.getElem?_map, hq]; rfl)
      refine ⟨_, rfl, a, _, 0, _, rfl, rfl, SqT.same e sa, rfl, _, rfl, a1, x1, _, vq, rfl, rfl, SqT.same e s1, atI_nat g1, _, rfl, (by show 2 ≤ sizeLine; decide), fun t ht => ?_⟩
      have f1 := same_upd (o := HO.tup [.str ("box" : Str), .int (b : Nat)]) ht
      refine ⟨plD q, plD (.box, (b : Int)), Dp.same (e.trans f1) _ _ g2, .tup (SqT.of upd_same) (.cons (.str _) (.cons (.int _) .nil)), shaped_pl _, shaped_pl _, _, rfl, ?_⟩
      rw [eqv_pl]
      have := hT _ f1
      rw [hq] at this
      simp only [Option.some.injEq] at this
      exact this
    refine ⟨_, rfl, _, rfl, a, _, 1, _, rfl, rfl, SqT.same e1 sa, rfl, a2, x2, rfl, .inr (SqT.same e1 s2), _, rfl, by omega, by omega, fun D2 hD2 => ?_⟩
    rw [show (x2.length : Int).toNat = d.ts.length by omega]
    refine lc_fltR (K := K) .thing d.ts.length 3 (fun i => decide (d.ts[i]? = some (.box, (b : Int)))) (by show 3 < 4; decide) (by omega) hD2 (fun i H' T hi e hT => ?_) (fun H2 z2 e2 hz2 dz2 => ?_)
    · obtain ⟨q, hq⟩ : ∃ q, d.ts[i]? = some q := ⟨_, List.getElem?_eq_getElem hi⟩
      obtain ⟨vq, g1, g2⟩ := DpAll.at2 dl2 (i := i) (d := plD q) (by rw [List.getElem?_map, hq]; rfl)
      have e' := e1.trans e
      refine ⟨_, rfl, a, _, 1, _, rfl, rfl, SqT.same e' sa, rfl, _, rfl, a2, x2, _, vq, rfl, rfl, SqT.same e' s2, atI_nat g1, _, rfl, (by show 2 ≤ sizeLine; decide), fun t ht => ?_⟩
      have f1 := same_upd (o := HO.tup [.str ("box" : Str), .int (b : Nat)]) ht
      refine ⟨plD q, plD (.box, (b : Int)), Dp.same (e'.trans f1) _ _ g2, .tup (SqT.of upd_same) (.cons (.str _) (.cons (.int _) .nil)), shaped_pl _, shaped_pl _, _, rfl, ?_⟩
      rw [eqv_pl]
      have := hT _ f1
      rw [hq] at this
      simp only [Option.some.injEq] at this
      exact this
    have ln1 : z1.length ≤ 100 := by
      rw [DpAll.len dz1, List.length_map]
      have := List.length_filter_le (fun i => decide (d.bs[i]? = some (Wd.box, (b : Int)))) (List.range d.bs.length)
      rw [List.length_range] at this
      omega
    have ln2 : z2.length ≤ 100 := by
      rw [DpAll.len dz2, List.length_map]
      have := List.length_filter_le (fun i => decide (d.ts[i]? = some (Wd.box, (b : Int)))) (List.range d.ts.length)
      rw [List.length_range] at this
      omega
    refine ⟨D1, D2, z1, z2, rfl, rfl, e2 _ _ hz1, hz2, by rw [sizeLine_eq]; omega, fun p hp => ⟨p, _, rfl, .inl ⟨SqL.of upd_same, fun t ht => ?_⟩⟩⟩
    have f1 := same_upd (o := HO.lst (z1 ++ z2)) hp
    have f2 := same_upd (o := HO.tup (z1 ++ z2)) ht
    refine k _ _ (((e1.trans e2).trans f1).trans f2) (.tup (SqT.of upd_same) ?_)
    unfold insideOf loadsOf atOf
    rw [List.map_append, itP_map, itP_map]
    exact DpAll.app (Dp.sames ((e2.trans f1).trans f2) _ _ dz1) (Dp.sames (f1.trans f2) _ _ dz2)
end
end Kw


set_option Elab.async false
set_option linter.all false
set_option maxRecDepth 100000
set_option maxHeartbeats 4000000
namespace Kw
open PySem PySem.Spec PyProof.Rows L2
/-- a comprehension over enumerate(tuple), the invariant Pv by the turn -/
theorem lc_enumT {K : PySem.W.Frag} {a : Addr} {xs : List V} {g : TG} {tt : TT} {te : TE} {vs : List Nat} {σ : L2.St} {H1 : Hp} {D : Addr} {Qd : Hp → Prop} (Pv : Nat → Hp → Prop) (h0 : Pv 0 (upd H1 D (.lst []))) (hl : ∀ i H, i ≤ xs.length → Pv i H → SqT K H a xs)
    (hs : ∀ i x H T, xs[i]? = some x → Pv i H → H T = none → g (.ref T) (wipe σ vs) (upd H T (.tup [.int (i : Nat), x])) fun σ2 H2 => wipe σ2 vs = wipe σ vs ∧ tt σ2 H2 fun b H3 =>
      if b = true then te σ2 H3 fun y H4 => ∃ acc, H4 D = some (.lst acc) ∧ acc.length < sizeLine ∧ Pv (i + 1) (upd H4 D (.lst (acc ++ [y]))) else Pv (i + 1) H3) (hd : ∀ H, Pv xs.length H → Qd H) :
    ∃ W : Nat → Nat → Hp → Prop, (∃ m, W 0 m (upd H1 D (.lst []))) ∧ ∀ i m H, W i m H →
      ((Itet K a).stop i H ∧ Qd H) ∨ ((Itet K a).go i H ∧ ∃ Nx : Hp → Prop, (∀ H', Nx H' → ∃ m', m' < m ∧ W (i + 1) m' H') ∧ ∀ x H', (Itet K a).yld i H x H' → g x (wipe σ vs) H' fun σ2 H2 => wipe σ2 vs = wipe σ vs ∧ tt σ2 H2 fun b H3 =>
        if b = true then te σ2 H3 fun y H4 => ∃ acc, H4 D = some (.lst acc) ∧ acc.length < sizeLine ∧ Nx (upd H4 D (.lst (acc ++ [y]))) else Nx H3) := by
  refine ⟨fun i m H => m = xs.length - i ∧ i ≤ xs.length ∧ Pv i H, ⟨xs.length, by simp, Nat.zero_le _, h0⟩, ?_⟩
  rintro i m H ⟨rfl, hi, p⟩
  have q := hl i H hi p
  by_cases hlt : i < xs.length
  · refine .inr ⟨⟨xs, xs[i], q, by simp [hlt]⟩, Pv (i + 1), fun H' p' => ⟨xs.length - (i + 1), by omega, rfl, hlt, p'⟩, fun x H' y => ?_⟩
    obtain ⟨T, x', ev, hT, eH, hx⟩ := y
    subst ev eH
    exact hs i x' H T (hx xs q) p hT
  · have e : i = xs.length := by omega
    subst e
    exact .inl ⟨⟨xs, q, Nat.le_refl _⟩, hd H p⟩
theorem wipe_two (σ : L2.St) (i j : Nat) (x y : Option V) (h : i ≠ j) : wipe (((wipe σ [i, j]).set i x).set j y) [i, j] = wipe σ [i, j] := by
  show (((((σ.set j none).set i none).set i x).set j y).set j none).set i none = (σ.set j none).set i none
  rw [List.set_set, List.set_set, List.set_comm _ _ h, List.set_set, List.set_set]
section
variable {P : Program} {w : World} {K : PySem.W.Frag} {mg : Str → Option Value} {base : Heap}
/-- [(word, i) for i, q in enumerate(row) if q == place] -/
theorem lc_at {σ : L2.St} {H1 : Hp} {D a : Addr} {xs : List V} {tt : TT} {Qd : Hp → Prop} (k : Kd) (l : List Pl) (i j : Nat) (q : Pl) (hij : i ≠ j) (hi : i < σ.length) (hj : j < σ.length) (hD : H1 D = none)
    (sq : SqT K H1 a xs) (dl : DpAll K H1 xs (l.map plD)) (ln : xs.length ≤ 1000)
    (ht : ∀ (n : Nat) (z : Pl) (y : V) (H : Hp) (T : Bool → Hp → Prop), l[n]? = some z → Dp K H y (plD z) → Same H1 H → (∀ H', Same H H' → T (decide (z = q)) H') → tt (((wipe σ [i, j]).set i (some (.int (n : Nat)))).set j (some y)) H T)
    (hd : ∀ H zs, Same H1 H → H D = some (.lst zs) → DpAll K H zs ((atOf l k q).map itP) → Qd H) :
    ∃ W : Nat → Nat → Hp → Prop, (∃ m, W 0 m (upd H1 D (.lst []))) ∧ ∀ n m H, W n m H →
      ((Itet K a).stop n H ∧ Qd H) ∨ ((Itet K a).go n H ∧ ∃ Nx : Hp → Prop, (∀ H', Nx H' → ∃ m', m' < m ∧ W (n + 1) m' H') ∧ ∀ x H', (Itet K a).yld n H x H' → (gTup K 2 (gCons (gName i) (gCons (gName j) gNil))) x (wipe σ [i, j]) H' fun σ2 H2 => wipe σ2 [i, j] = wipe σ [i, j] ∧ tt σ2 H2 fun b H3 =>
        if b = true then tTup (tCons (tC (.str k.str)) (tCons (tVar i) tNil)) σ2 H3 fun y H4 => ∃ acc, H4 D = some (.lst acc) ∧ acc.length < sizeLine ∧ Nx (upd H4 D (.lst (acc ++ [y]))) else Nx H3) := by
  have e0 : ∀ (H' : Hp) (o : HO), Same H1 H' → Same H1 (L2.upd H' D o) := fun H' o e c u h => by rw [upd_ne (ne_of_none h hD)]; exact e c u h
  have nl : ∀ l : List Nat, noLs (l.map fun i => itP (k, i)) = true := fun l => noLs_map (fun i => itP (k, i)) (fun _ => rfl) l
  have ll : xs.length = l.length := by rw [DpAll.len dl, List.length_map]
  refine lc_enumT (K := K) (a := a) (xs := xs) (fun n H => Same H1 H ∧ ∃ zs, H D = some (.lst zs) ∧ zs.length ≤ n ∧ DpAll K H zs (((List.range n).filter fun m => decide (l[m]? = some q)).map fun i => itP (k, i))) ⟨same_upd hD, [], upd_same, Nat.le_refl _, .nil⟩ (fun n H _ p => SqT.same p.1 sq) ?_ ?_
  · rintro n y H T hy ⟨e, zs, hz, lz, dz⟩ hT
    obtain ⟨z, hz1, hz2⟩ := pls_get dl hy
    have hn := (List.getElem?_eq_some_iff.mp hy).1
    have f0 := same_upd (o := HO.tup [.int (n : Nat), y]) hT
    refine ⟨T, _, rfl, SqT.of upd_same, rfl, _, _, rfl, _, _, rfl, rfl, wipe_two σ i j _ _ hij, ht n z y _ _ hz1 (Dp.same (e.trans f0) _ _ hz2) (e.trans f0) fun H' e' => ?_⟩
    have e'' := f0.trans e'
    have hz' := e'' _ _ hz
    have er : (List.range (n + 1)).filter (fun m => decide (l[m]? = some q)) = (List.range n).filter (fun m => decide (l[m]? = some q)) ++ (if z = q then [n] else []) := by
      rw [List.range_succ, List.filter_append]
      congr 1
      simp only [List.filter_cons, List.filter_nil, hz1, Option.some.injEq, decide_eq_true_eq]
    by_cases c : z = q
    · rw [if_pos c] at er
      rw [decide_eq_true c]
      have vi : ((((wipe σ [i, j]).set i (some (V.int (n : Nat)))).set j (some y))[i]?) = some (some (V.int (n : Nat))) := by
        rw [List.getElem?_set_ne hij.symm, List.getElem?_set_self (by rw [wipe_length]; exact hi)]
      refine iteTe rfl ⟨_, vi, (by show 2 ≤ sizeLine; decide), fun t ht' => ?_⟩
      have f1 := same_upd (o := HO.tup [.str k.str, .int (n : Nat)]) ht'
      have hz2 := f1 _ _ hz'
      have nl2 := nl_updL (ys := zs ++ [V.ref t]) hz2
      refine ⟨zs, hz2, by rw [sizeLine_eq]; omega, e0 _ _ ((e.trans e'').trans f1), zs ++ [.ref t], upd_same, by rw [List.length_append]; simp; exact lz, ?_⟩
      rw [er, List.map_append]
      exact DpAll.app (Dp.nls nl2 _ _ (nl _) (Dp.sames (e''.trans f1) _ _ dz)) (.cons (Dp.nl nl2 _ _ rfl (.tup (SqT.of upd_same) (.cons (.str _) (.cons (.int _) .nil)))) .nil)
    · rw [if_neg c, List.append_nil] at er
      rw [decide_eq_false c]
      refine iteFe rfl ⟨e.trans e'', zs, hz', by omega, ?_⟩
      rw [er]
      exact Dp.sames e'' _ _ dz
  · rintro H ⟨e, zs, hz, lz, dz⟩
    refine hd H zs e hz ?_
    unfold atOf
    rw [itP_map, ← ll]
    exact dz
end
end Kw


set_option Elab.async false
set_option linter.all false
set_option maxRecDepth 100000
set_option maxHeartbeats 4000000
namespace Kw
open PySem PySem.Spec PyProof.Rows L2
/-! ### what holds at the end -/
def Hold (d : Hs) (r : Pl) : Nat → Pl → Prop
  | 0, z => z.1 ≠ .box ∧ z = r
  | n + 1, z => ∃ j : Nat, z = (.box, (j : Int)) ∧ ∃ q, d.bs[j]? = some q ∧ Hold d r n q
theorem firstBad_none {f : Nat → Pl → Bool} : ∀ (l : List Pl) (k : Nat), firstBad f k l = none → ∀ (i : Nat) (q : Pl), l[i]? = some q → f (k + i) q = false
  | [], _, _, _, _, e => by simp at e
  | p :: r, k, h, i, q, e => by
    unfold firstBad at h
    cases c : f k p with
    | true => rw [c, if_pos rfl] at h; cases h
    | false =>
      rw [c, if_neg (by decide)] at h
      match i, e with
      | 0, e =>
        simp at e
        subst e
        exact c
      | i + 1, e =>
        have := firstBad_none r (k + 1) h i q (by simpa using e)
        rwa [show k + 1 + i = k + (i + 1) by omega] at this
theorem plOk_at {p : Pl} {n m : Int} (h : plOk p n m = true) : (p.1 = .hand → 0 ≤ p.2 ∧ p.2 < n) ∧ (p.1 = .box → 0 ≤ p.2 ∧ p.2 < m) ∧ p.1 ≠ .gone := by
  obtain ⟨w, i⟩ := p
  unfold plOk numOk at h
  cases w
  · simp at h
    exact ⟨fun _ => h, fun z => by simp at z, by simp⟩
  · simp at h
    exact ⟨fun z => by simp at z, fun _ => h, by simp⟩
  · simp at h
theorem errOf_none {d : Hs} (h : errOf d.hands d.bs d.ts d.ss = none) : (∀ (i : Nat) q, d.bs[i]? = some q → plOk q d.hands i = true) ∧ (∀ (i : Nat) q, d.ts[i]? = some q → plOk q d.hands d.bs.length = true) ∧ (∀ (i : Nat) q, d.ss[i]? = some q → plOk q d.hands d.bs.length = true) := by
  unfold errOf at h
  split at h
  · cases h
  split at h
  · cases h
  next hb =>
  split at h
  · cases h
  next ht =>
  split at h
  · cases h
  next hs =>
  unfold badBoxes at hb
  split at hb
  · cases hb
  refine ⟨fun i q e => ?_, fun i q e => ?_, fun i q e => ?_⟩
  · have := firstBad_none _ _ hb i q e
    unfold badB at this
    rw [Nat.zero_add] at this
    simp at this
    exact this.2
  · have := firstBad_none _ _ ht i q e
    unfold badT at this
    simp at this
    exact this.2
  · have := firstBad_none _ _ hs i q e
    unfold badS at this
    simp at this
    exact this.1.2
theorem HsOk.wf {d : Hs} (h : HsOk d) : Wf d := by
  obtain ⟨hb, ht, hs⟩ := errOf_none h.okE
  have one : ∀ (k : Kd) (q : Pl) (m : Int), plOk q d.hands m = true → m ≤ d.bs.length → PlOk d k q := fun k q m e hm => by
    obtain ⟨h1, h2, h3⟩ := plOk_at e
    exact ⟨h1, fun z => by obtain ⟨a, b⟩ := h2 z; exact ⟨q.2.toNat, by omega, by omega⟩, fun z => absurd z h3⟩
  refine ⟨fun k i q e => ?_, id, fun i j e => ?_⟩
  · cases k
    · have := (List.getElem?_eq_some_iff.mp (show d.bs[i]? = some q from e)).1
      exact one _ q i (hb i q e) (by omega)
    · exact one _ q _ (ht i q e) (Int.le_refl _)
    · exact one _ q _ (hs i q e) (Int.le_refl _)
  · have := (plOk_at (hb i _ e)).2.1 rfl
    show j < i
    have h2 : ((j : Nat) : Int) < (i : Nat) := this.2
    omega
theorem Wf.holdB {d : Hs} (w : Wf d) : ∀ j : Nat, j < d.bs.length → ∃ r n, Hold d r n (.box, (j : Int)) := by
  obtain ⟨ρ, hρ⟩ := w.ac
  have go : ∀ m j : Nat, ρ j < m → j < d.bs.length → ∃ r n, Hold d r n (.box, (j : Int)) := by
    intro m
    induction m with
    | zero => intro j h; omega
    | succ m ih =>
      intro j h hj
      obtain ⟨q, hq⟩ : ∃ q, d.bs[j]? = some q := ⟨_, List.getElem?_eq_getElem hj⟩
      by_cases c : q.1 = .box
      · obtain ⟨j', e1, e2⟩ := (w.pl .box j q hq).2.1 c
        have eq : q = (.box, (j' : Int)) := Prod.ext c e1
        subst eq
        obtain ⟨r, n, hr⟩ := ih j' (by have := hρ j j' hq; omega) e2
        exact ⟨r, n + 1, j, rfl, _, hq, hr⟩
      · exact ⟨q, 1, j, rfl, q, hq, c, rfl⟩
  exact fun j => go (ρ j + 1) j (by omega)
theorem Wf.hold {d : Hs} (w : Wf d) {p : It} {q : Pl} (h : whereD d p = some q) : ∃ r n, Hold d r n q := by
  by_cases c : q.1 = .box
  · obtain ⟨j, e1, e2⟩ := (w.pl p.1 p.2 q h).2.1 c
    have eq : q = (.box, (j : Int)) := Prod.ext c e1
    subst eq
    exact w.holdB j e2
  · exact ⟨q, 0, c, rfl⟩
theorem Hold.end {d : Hs} {r : Pl} : ∀ {n : Nat} {z : Pl}, Hold d r n z → r.1 ≠ .box
  | 0, _, h => by obtain ⟨h, e⟩ := h; rw [← e]; exact h
  | _ + 1, _, ⟨_, _, _, _, h⟩ => h.end
/-- what a call of the holder gives -/
def endV (r : Pl) : V := if r.1 = .hand then .int r.2 else .non
section
variable {P : Program} {w : World} {K : PySem.W.Frag} {mg : Str → Option Value} {base : Heap}
def spLoads (K : PySem.W.Frag) : Sp := fun vs H Q _ => ∃ (x y : V) (d : Hs) (q : Pl), vs = [x, y] ∧ Dp K H x (stD d) ∧ Dp K H y (plD q) ∧ Ls d ∧ ∀ p xs H', Same H H' → H' p = some (.lst xs) → DpAll K H' xs ((loadsOf d q).map itP) → Q (.ref p) H'
def spSealsAt (K : PySem.W.Frag) : Sp := fun vs H Q _ => ∃ (x y : V) (d : Hs) (q : Pl), vs = [x, y] ∧ Dp K H x (stD d) ∧ Dp K H y (plD q) ∧ Ls d ∧ ∀ p xs H', Same H H' → H' p = some (.lst xs) → DpAll K H' xs ((atOf d.ss .sl q).map itP) → Q (.ref p) H'
theorem at_len (l : List Pl) (k : Kd) (q : Pl) : (atOf l k q).length ≤ l.length := by
  unfold atOf
  rw [List.length_map]
  have := List.length_filter_le (fun i => decide (l[i]? = some q)) (List.range l.length)
  rw [List.length_range] at this
  exact this
/-! ### holder_in, _law_holder -/
def spHolder (K : PySem.W.Frag) : Sp := fun vs H Q _ => ∃ (x y : V) (d : Hs) (p : It) (q r : Pl) (n : Nat), vs = [x, y] ∧ Dp K H x (stD d) ∧ Dp K H y (itP p) ∧ whereD d p = some q ∧ Hold d r n q ∧ ∀ H', Same H H' → Q (endV r) H'
end
end Kw


set_option Elab.async false
set_option linter.all false
set_option maxRecDepth 100000
set_option maxHeartbeats 4000000
namespace Kw
open PySem PySem.Spec PyProof.Rows L2
/-! ### sights -/
inductive Sg where
  | loc (p : It) (q : Pl)
  | bare (b : Nat)
  | inn (b : Nat) (l : List It)
  | gone (s : Nat)
  | nt (g : Sg)
def sgW : Sg → Str
  | .loc _ _ => "at"
  | .bare _ => "bare"
  | .inn _ _ => "in"
  | .gone _ => "gone"
  | .nt _ => "not"
def itsD (l : List It) : PyData := .tuple (l.map itP)
mutual
def sgT : Sg → List PyData
  | .loc p q => [itP p, plD q]
  | .bare b => [.int (b : Nat)]
  | .inn b l => [.int (b : Nat), itsD l]
  | .gone s => [.int (s : Nat)]
  | .nt g => [.tuple (.str (sgW g) :: sgT g)]
end
def sgD (g : Sg) : PyData := .tuple (.str (sgW g) :: sgT g)
def isS (d : Hs) : Sg → Bool
  | .loc p q => decide (whereD d p = some q)
  | .bare b => decide ((Wd.box, (b : Int)) ∉ d.ss)
  | .inn b l => decide (insideOf d b = l)
  | .gone s => decide (d.ss[s]? = some (.gone, 0))
  | .nt g => !isS d g
def depS : Sg → Nat
  | .nt g => depS g + 1
  | _ => 0
def KnS (d : Hs) : Sg → Prop
  | .loc p _ => (whereD d p).isSome
  | .bare b => b < d.bs.length
  | .inn b l => b < d.bs.length ∧ l.length ≤ 1000
  | .gone s => s < d.ss.length
  | .nt g => KnS d g
theorem sg_at {K : PySem.W.Frag} {H : Hp} {x : V} {g : Sg} (h : Dp K H x (sgD g)) : ∃ a vs, x = .ref a ∧ SqT K H a (.str (sgW g) :: vs) ∧ DpAll K H vs (sgT g) := by
  cases h with
  | tup hs ha =>
    cases ha with
    | cons d1 r =>
      cases d1
      exact ⟨_, _, rfl, hs, r⟩
theorem lay_its : ∀ ps : List It, PyData.canLayAll0 (ps.map itP) = true
  | [] => rfl
  | p :: ps => by simp [PyData.canLayAll0, lay_it p, lay_its ps]
theorem depth_its : ∀ ps : List It, PyData.depthAll (ps.map itP) ≤ 1
  | [] => by simp [PyData.depthAll]
  | p :: ps => by
    have := depth_its ps
    have := depth_it p
    simp [PyData.depthAll]
    omega
theorem shaped_its (ps : List It) : SeqAt.shaped (itsD ps) = true := by
  have h1 := lay_its ps
  have h2 := depth_its ps
  simp [SeqAt.shaped, itsD, PyData.canLay0, PyData.depth, h1]
  omega
theorem eqv_its (l m : List It) : PyData.eqv (itsD l) (itsD m) = decide (l = m) := by
  have go : ∀ l m : List It, PyData.eqvAll (l.map itP) (m.map itP) = decide (l = m) := by
    intro l
    induction l with
    | nil => intro m; cases m with
      | nil => rfl
      | cons a r => simp [PyData.eqvAll]
    | cons a r ih => intro m; cases m with
      | nil => simp [PyData.eqvAll]
      | cons c s =>
        show (PyData.eqv (itP a) (itP c) && PyData.eqvAll (r.map itP) (s.map itP)) = _
        rw [eqv_it, ih]
        by_cases h1 : a = c <;> by_cases h2 : r = s <;> simp [h1, h2]
  exact go l m
section
variable {P : Program} {w : World} {K : PySem.W.Frag} {mg : Str → Option Value} {base : Heap}
theorem its_at {H : Hp} {x : V} {l : List It} (h : Dp K H x (itsD l)) : ∃ a xs, x = .ref a ∧ SqT K H a xs ∧ DpAll K H xs (l.map itP) ∧ xs.length = l.length := by
  cases h with
  | tup hs ha => exact ⟨_, _, rfl, hs, ha, by rw [DpAll.len ha, List.length_map]⟩
theorem sg_wd {d : Hs} (g : Sg) : (sgW g = ("not" : Str) ↔ ∃ h, g = .nt h) ∧ (sgW g = ("at" : Str) ↔ ∃ p q, g = .loc p q) ∧ (sgW g = ("bare" : Str) ↔ ∃ b, g = .bare b) ∧ (sgW g = ("in" : Str) ↔ ∃ b l, g = .inn b l) ∧ (sgW g = ("gone" : Str) ↔ ∃ b, g = .gone b) := by
  have n1 : ¬ ("at" : Str) = "not" := by decide +kernel
  have n2 : ¬ ("at" : Str) = "bare" := by decide +kernel
  have n3 : ¬ ("at" : Str) = "in" := by decide +kernel
  have n4 : ¬ ("at" : Str) = "gone" := by decide +kernel
  have n5 : ¬ ("bare" : Str) = "not" := by decide +kernel
  have n6 : ¬ ("bare" : Str) = "in" := by decide +kernel
  have n7 : ¬ ("bare" : Str) = "gone" := by decide +kernel
  have n8 : ¬ ("in" : Str) = "not" := by decide +kernel
  have n9 : ¬ ("in" : Str) = "gone" := by decide +kernel
  have n10 : ¬ ("gone" : Str) = "not" := by decide +kernel
  cases g <;> simp [sgW, n1, n2, n3, n4, n5, n6, n7, n8, n9, n10, Ne.symm n1, Ne.symm n2, Ne.symm n3, Ne.symm n4, Ne.symm n5, Ne.symm n6, Ne.symm n7, Ne.symm n8, Ne.symm n9, Ne.symm n10]
/-! ### _law_holder -/
/-! ### _law_is -/
def spIs (K : PySem.W.Frag) (n : Nat) : Sp := fun vs H Q _ => ∃ (x y : V) (d : Hs) (g : Sg), vs = [x, y] ∧ depS g < n ∧ Dp K H x (stD d) ∧ Dp K H y (sgD g) ∧ KnS d g ∧ Ls d ∧ ∀ H', Same H H' → Q (.bl (isS d g)) H'
theorem scIs : FnScope ["_law_state", "_law_sight_here", "_law_word"] ["_law_state", "_law_sight_here"] (defScope sIs) := ⟨rfl, rfl, rfl, by decide +kernel, rfl, by decide +kernel, by decide +kernel⟩
theorem ok_is {f g1 g2 : Addr} {fd fd1 fd2 : FuncData} (F : Fun K "_law_is" "_law_is" sIs f fd) (mF : mg "_law_is" = some (.ref f)) (bF : Binds K fd ["_law_state", "_law_sight_here"] [])
    (G : FnOk P w K mg base CX0 1 g1 fd1 ["_law_state", "_law_item"] (spWhere K)) (mG : mg "_law_where" = some (.ref g1)) (kG : PySem.W.keepIn K (.ref g1) = true) (bG : Binds K fd1 ["_law_state", "_law_item"] [])
    (I : FnOk P w K mg base CX0 1 g2 fd2 ["_law_state", "_law_box"] (spInside K)) (mI : mg "_law_inside" = some (.ref g2)) (kI : PySem.W.keepIn K (.ref g2) = true) (bI : Binds K fd2 ["_law_state", "_law_box"] []) :
    ∀ n : Nat, FnOk P w K mg base CX0 (n + 1) f fd ["_law_state", "_law_sight_here"] (spIs K n) := by
  intro n
  induction n with
  | zero => exact ⟨fun vs H Q E h => by obtain ⟨_, _, _, _, _, h, _⟩ := h; omega, fun A outer s H args us vs Q E _ _ _ _ h => by obtain ⟨_, _, _, _, _, h, _⟩ := h; omega⟩
  | succ n R =>
  refine F.ok scIs (fun vs H Q E h => ?_) (fun cdv A outer s H vs Q E hr h => ?_)
  · obtain ⟨x, y, d, g, rfl, _⟩ := h
    rfl
  · obtain ⟨x, y, d, g, rfl, hn, hx, hy, hk, hL, k⟩ := h
    have hr1 : Room 1 _ := hr.mono (by omega)
    have hu : (cxOf CX0 P w K mg base ["_law_state", "_law_sight_here", "_law_word"] "_law_is" (defScope sIs) f cdv A outer s H E).nox.A.units + 64 < cLine := by have := hr.un; show (A.deeper _).units + 64 < cLine; omega
    have hu65 : (cxOf CX0 P w K mg base ["_law_state", "_law_sight_here", "_law_word"] "_law_is" (defScope sIs) f cdv A outer s H E).nox.A.units + 65 < cLine := by have := hr.un; show (A.deeper _).units + 65 < cLine; omega
    refine ⟨_, pss_cons (ps_set (i := 2) scIs.nd rfl (.inl rfl) (pe_ix ix_tup (pv 1) pe_int (fun _ _ => rfl)))
      (pss_cons (ps_if (pt_cmpR op_eq (pv 2) pe_str (nomark _)) (pss_one (ps_ret (pe_not (pe_call R hr rfl mF F.kp bF .nil pass0 (pa_cons (pv 0) (pa_cons (pe_ix ix_tup (pv 1) pe_int (fun _ _ => rfl)) pa_nil)))))) pss_nil)
      (pss_cons (ps_if (pt_cmpR op_eq (pv 2) pe_str (nomark _)) (pss_one (ps_ret (pe_cmpR (op_eqD hu) (pe_call G hr1 rfl mG kG bG .nil pass0 (pa_cons (pv 0) (pa_cons (pe_ix ix_tup (pv 1) pe_int (fun _ _ => rfl)) pa_nil))) (pe_ix ix_tup (pv 1) pe_int (fun _ _ => rfl)) (nomark _)))) pss_nil)
      (pss_cons (ps_if (pt_cmpR op_eq (pv 2) pe_str (nomark _)) (pss_one (ps_ret (pe_cmpR (op_notInDT hu65) (pe_tup (pa_cons pe_str (pa_cons (pe_ix ix_tup (pv 1) pe_int (fun _ _ => rfl)) pa_nil))) (pe_ix ix_tup (pv 0) pe_int (fun _ _ => rfl)) (by rfl)))) pss_nil)
      (pss_one (ps_ret (pe_ifExp (pt_cmpR op_eq (pv 2) pe_str (nomark _))
        (pe_cmpR (op_eqD hu) (pe_call I hr1 rfl mI kI bI .nil pass0 (pa_cons (pv 0) (pa_cons (pe_ix ix_tup (pv 1) pe_int (fun _ _ => rfl)) pa_nil))) (pe_ix ix_tup (pv 1) pe_int (fun _ _ => rfl)) (nomark _))
        (pe_cmpR (op_eqD hu) (pe_ix ix_tup (pe_ix ix_tup (pv 0) pe_int (fun _ _ => rfl)) (pe_ix ix_tup (pv 1) pe_int (fun _ _ => rfl)) (fun _ _ => rfl)) (pe_tup (pa_cons pe_str (pa_cons pe_int pa_nil))) (nomark _)))))))), ?_⟩
    obtain ⟨a, v1, v2, v3, rfl, sa, d1, d2, d3⟩ := st_at hx
    obtain ⟨as, xs, rfl, ss, ds, ls⟩ := pls_at d3
    obtain ⟨ay, vs, rfl, sy, dvs⟩ := sg_at hy
    refine ⟨_, rfl, ay, _, 0, _, rfl, rfl, sy, atI_nat (j := 0) rfl, ?_⟩
    refine ⟨_, rfl, rfl, _, rfl, ?_⟩
    rw [decS]
    cases g with
    | nt g =>
      cases dvs with
      | cons dg r =>
      cases r
      refine iteTe (decide_eq_true rfl) ⟨_, rfl, _, rfl, ay, _, 1, _, rfl, rfl, sy, rfl, .ref a, _, d, g, rfl, (by unfold depS at hn; omega), hx, dg, hk, hL, fun H' e => ?_⟩
      exact ⟨_, rfl, k H' e⟩
    | loc p q =>
      cases dvs with
      | cons dp r =>
      cases r with
      | cons dq r =>
      cases r
      refine iteFe (decide_eq_false (by simp only [sgW]; decide +kernel)) ⟨_, rfl, rfl, _, rfl, ?_⟩
      rw [decS]
      obtain ⟨q0, hq0⟩ := Option.isSome_iff_exists.mp (show (whereD d p).isSome from hk)
      refine iteTe (decide_eq_true rfl) ⟨_, rfl, _, rfl, ay, _, 1, _, rfl, rfl, sy, rfl, .ref a, _, d, p, q0, rfl, hx, dp, hq0, fun v H' e dv => ?_⟩
      refine ⟨_, rfl, ay, _, 2, _, rfl, rfl, SqT.same e sy, rfl, plD q0, plD q, dv, Dp.same e _ _ dq, shaped_pl _, shaped_pl _, ?_⟩
      rw [eqv_pl]
      have := k H' e
      unfold isS at this
      rw [hq0] at this
      simp only [Option.some.injEq] at this
      exact this
    | bare b =>
      cases dvs with
      | cons dp r =>
      cases r
      cases dp
      refine iteFe (decide_eq_false (by simp only [sgW]; decide +kernel)) ⟨_, rfl, rfl, _, rfl, ?_⟩
      rw [decS]
      refine iteFe (decide_eq_false (by simp only [sgW]; decide +kernel)) ⟨_, rfl, rfl, _, rfl, ?_⟩
      rw [decS]
      refine iteTe (decide_eq_true rfl) ⟨_, rfl, ay, _, 1, _, rfl, rfl, sy, rfl, (by show 2 ≤ sizeLine; decide), fun t ht => ?_⟩
      have f1 := same_upd (o := HO.tup [.str ("box" : Str), .int (b : Nat)]) ht
      refine ⟨_, rfl, a, _, 2, _, rfl, rfl, SqT.same f1 sa, rfl, plD (.box, (b : Int)), d.ss.map plD, .tup (SqT.of upd_same) (.cons (.str _) (.cons (.int _) .nil)), Dp.same f1 _ _ d3, shaped_pl _, shaped_pls d.ss, ?_⟩
      rw [any_pl, if_pos rfl]
      have := k _ f1
      unfold isS at this
      have e3 : (!d.ss.any fun z => decide (z = (Wd.box, (b : Int)))) = decide ((Wd.box, (b : Int)) ∉ d.ss) := by
        by_cases c : (Wd.box, (b : Int)) ∈ d.ss
        · rw [decide_eq_false (fun z => z c), List.any_eq_true.mpr ⟨_, c, decide_eq_true rfl⟩]; rfl
        · rw [decide_eq_true c, List.any_eq_false.mpr fun z hz e => c (by rw [← of_decide_eq_true e]; exact hz)]; rfl
      rw [e3]
      exact this
    | inn b l =>
      cases dvs with
      | cons dp r =>
      cases r with
      | cons dq r =>
      cases r
      cases dp
      refine iteFe (decide_eq_false (by simp only [sgW]; decide +kernel)) ⟨_, rfl, rfl, _, rfl, ?_⟩
      rw [decS]
      refine iteFe (decide_eq_false (by simp only [sgW]; decide +kernel)) ⟨_, rfl, rfl, _, rfl, ?_⟩
      rw [decS]
      refine iteFe (decide_eq_false (by simp only [sgW]; decide +kernel)) ⟨_, rfl, rfl, _, rfl, ?_⟩
      rw [decS]
      refine iteTe (decide_eq_true rfl) ⟨_, rfl, _, rfl, ay, _, 1, _, rfl, rfl, sy, rfl, .ref a, b, d, rfl, hx, hL, fun v H' e dv => ?_⟩
      refine ⟨_, rfl, ay, _, 2, _, rfl, rfl, SqT.same e sy, rfl, itsD (insideOf d b), itsD l, dv, Dp.same e _ _ dq, shaped_its _, shaped_its _, ?_⟩
      rw [eqv_its]
      exact k H' e
    | gone b =>
      cases dvs with
      | cons dp r =>
      cases r
      cases dp
      refine iteFe (decide_eq_false (by simp only [sgW]; decide +kernel)) ⟨_, rfl, rfl, _, rfl, ?_⟩
      rw [decS]
      refine iteFe (decide_eq_false (by simp only [sgW]; decide +kernel)) ⟨_, rfl, rfl, _, rfl, ?_⟩
      rw [decS]
      refine iteFe (decide_eq_false (by simp only [sgW]; decide +kernel)) ⟨_, rfl, rfl, _, rfl, ?_⟩
      rw [decS]
      obtain ⟨q, hq⟩ : ∃ q, d.ss[b]? = some q := ⟨_, List.getElem?_eq_getElem hk⟩
      obtain ⟨vq, g1, g2⟩ := DpAll.at2 ds (i := b) (d := plD q) (by rw [List.getElem?_map, hq]; rfl)
      refine iteFe (decide_eq_false (by simp only [sgW]; decide +kernel)) ⟨_, rfl, a, _, 2, _, rfl, rfl, sa, rfl, _, rfl, ay, _, 1, _, rfl, rfl, sy, rfl, as, xs, _, vq, rfl, rfl, ss, atI_nat g1, (by show 2 ≤ sizeLine; decide), fun t ht => ?_⟩
      have f1 := same_upd (o := HO.tup [.str ("gone" : Str), .int 0]) ht
      refine ⟨plD q, plD (.gone, 0), Dp.same f1 _ _ g2, .tup (SqT.of upd_same) (.cons (.str _) (.cons (.int _) .nil)), shaped_pl _, shaped_pl _, ?_⟩
      rw [eqv_pl]
      have := k _ f1
      unfold isS at this
      rw [hq] at this
      simp only [Option.some.injEq] at this
      exact this
end
end Kw


set_option Elab.async false
set_option linter.all false
set_option maxRecDepth 100000
set_option maxHeartbeats 4000000
namespace Kw
open PySem PySem.Spec PyProof.Rows L2
abbrev sNPlace : Stmt := top 25
abbrev sNSight : Stmt := top 32
abbrev sNLoads : Stmt := top 33
structure OnceF (P : Program) (w : World) (K : PySem.W.Frag) (mg : Str → Option Value) (base : Heap) (x : Str) (n : Nat) (ps : List Str) (sp : Sp) (g : Addr) (fd : FuncData) : Prop where
  G : FnOk P w K mg base CX0 n g fd ps sp
  m : mg x = some (.ref g)
  k : PySem.W.keepIn K (.ref g) = true
  b : Binds K fd ps []
structure OnceX (P : Program) (w : World) (K : PySem.W.Frag) (mg : Str → Option Value) (base : Heap) (x : Str) (n : Nat) (ps : List Str) (sp : Sp) (g : Addr) (fd : FuncData) : Prop where
  G : FnOk P w K mg base (L2N.CX P w) n g fd ps sp
  m : mg x = some (.ref g)
  k : PySem.W.keepIn K (.ref g) = true
  b : Binds K fd ps []
/-! ### the errors of a sight -/
def GoodI (d : Hs) (l : List It) : Prop := ∀ (i : Nat) p, l[i]? = some p → (inH d p ∧ p.1 ≠ .sl) ∧ ∀ p', 0 < i → l[i - 1]? = some p' → itLt p' p = true
open Classical in
noncomputable def unkS (d : Hs) : Sg → Str
  | .loc p q => if ¬ inH d p then "UnknownItem" else if q.1 = .hand then (if d.hands ≤ q.2 then "UnknownHand" else "") else if (d.bs.length : Int) ≤ q.2 then "UnknownBox" else ""
  | .bare b => if d.bs.length ≤ b then "UnknownBox" else ""
  | .inn b l => if d.bs.length ≤ b then "UnknownBox" else if GoodI d l then "" else "UnknownItem"
  | .gone s => if d.ss.length ≤ s then "UnknownSeal" else ""
  | .nt g => unkS d g
def SmS : Sg → Prop
  | .loc p q => p.2 ≤ 1000 ∧ 0 ≤ q.2 ∧ q.2 ≤ 1000
  | .bare b => b ≤ 1000
  | .inn b l => b ≤ 1000 ∧ l.length ≤ 1000 ∧ ∀ p ∈ l, p.2 ≤ 1000
  | .gone s => s ≤ 1000
  | .nt g => SmS g
section
variable {P : Program} {w : World} {K : PySem.W.Frag} {mg : Str → Option Value} {base : Heap}
/-! ### need_place -/
def plErr (d : Hs) (q : Pl) : Str := if q.1 = .hand then (if d.hands ≤ q.2 then "UnknownHand" else "") else if (d.bs.length : Int) ≤ q.2 then "UnknownBox" else ""
def spNPlace (K : PySem.W.Frag) (C : Addr) (ce : Str → Addr) : Sp := fun vs H Q E => ∃ (h : Addr) (y : V) (q : Pl) (d : Hs), vs = [.ref h, y] ∧ HouseAt K C H h d ∧ Dp K H y (plD q) ∧ 0 ≤ q.2 ∧ q.2 ≤ 1000 ∧
  (∀ z, plErr d q = z → z ≠ "" → Rp (ce z) H E) ∧ (plErr d q = "" → ∀ H', Same H H' → Q .non H')
theorem scNPlace : FnScope ["house", "place", "word", "number"] ["house", "place"] (defScope sNPlace) := ⟨rfl, rfl, rfl, by decide +kernel, rfl, by decide +kernel, by decide +kernel⟩
theorem ok_nplace {f g1 g2 C : Addr} {fd fd1 fd2 : FuncData} {ce : Str → Addr} (F : Fun K "need_place" "need_place" sNPlace f fd) (NH : NHandF P w K mg base C (ce "UnknownHand") g1 fd1) (NB : NBoxF P w K mg base C (ce "UnknownBox") g2 fd2) :
    FnOk P w K mg base (L2N.CX P w) 3 f fd ["house", "place"] (spNPlace K C ce) := by
  refine okN F scNPlace (fun vs H Q E h => ?_) (fun cdv A outer s H vs Q E hr h => ?_)
  · obtain ⟨h, y, q, d, rfl, _⟩ := h
    rfl
  · obtain ⟨h, y, q, d, rfl, hh, hy, h0, h1, kE, kQ⟩ := h
    have hr2 : Room 2 _ := hr
    have tk : L2N.Takes (cxOf (L2N.CX P w) P w K mg base ["house", "place", "word", "number"] "need_place" (defScope sNPlace) f cdv A outer s H E) (fun cls d _ H => E cls d H) := L2N.takes_of rfl rfl rfl rfl
    refine ⟨_, pss_cons (ps_asg (pv 1) (pg_tup (by rfl) (pgs_cons (pg_name (i := 2) scNPlace.nd rfl (.inl rfl)) (pgs_cons (pg_name (i := 3) scNPlace.nd rfl (.inl rfl)) pgs_nil))))
      (pss_one (ps_if (pt_cmpR op_eq (pv 2) pe_str (nomark _)) (pss_one (ps_expr (pe_call NH.G hr2 rfl NH.m NH.k NH.b .nil (L2N.passes_call tk (fun _ _ _ _ h => h)) (pa_cons (pv 0) (pa_cons (pv 3) pa_nil)))))
        (pss_one (ps_expr (pe_call NB.G hr2 rfl NB.m NB.k NB.b .nil (L2N.passes_call tk (fun _ _ _ _ h => h)) (pa_cons (pv 0) (pa_cons (pv 3) pa_nil))))))), ?_⟩
    obtain ⟨aq, rfl, sq⟩ := pl_at hy
    refine ⟨_, rfl, aq, _, rfl, sq, rfl, _, _, rfl, _, _, rfl, rfl, ?_⟩
    refine ⟨_, rfl, rfl, _, rfl, ?_⟩
    rw [decS]
    unfold plErr at kE kQ
    by_cases c : q.1 = .hand
    · rw [decide_eq_true (show q.1.str = ("hand" : Str) by rw [c]; rfl)]
      simp only [if_pos c] at kE kQ
      exact iteT ⟨_, rfl, _, rfl, h, q.2, d, rfl, hh, h0, h1, fun z => kE _ (if_pos z) ne_e1, fun z => kQ (if_neg (by omega)) _ (Same.refl _)⟩
    · rw [decide_eq_false (show ¬ q.1.str = ("hand" : Str) from fun z' => c (wd_inj (v := .hand) z'))]
      simp only [if_neg c] at kE kQ
      obtain ⟨n, hn⟩ := nat_of h0
      refine iteF ⟨_, rfl, _, rfl, h, n, d, (by rw [hn]; rfl), hh, by omega, fun z => kE _ (if_pos (by omega)) ne_e3, fun z => kQ (if_neg (by omega)) _ (Same.refl _)⟩
/-! ### need_loads -/
def spNLoads (K : PySem.W.Frag) (C X : Addr) : Sp := fun vs H Q E => ∃ (h : Addr) (y : V) (l : List It) (d : Hs), vs = [.ref h, y] ∧ HouseAt K C H h d ∧ Dp K H y (itsD l) ∧ l.length ≤ 1000 ∧ (∀ p ∈ l, p.2 ≤ 1000) ∧
  (¬ GoodI d l → Rp X H E) ∧ (GoodI d l → ∀ H', Same H H' → Q .non H')
theorem scNLoads : FnScope ["house", "items", "index", "item"] ["house", "items"] (defScope sNLoads) := ⟨rfl, rfl, rfl, by decide +kernel, rfl, by decide +kernel, by decide +kernel⟩
theorem its_get {H : Hp} {xs : List V} {l : List It} {i : Nat} {y : V} (h : DpAll K H xs (l.map itP)) (e : xs[i]? = some y) : ∃ p, l[i]? = some p ∧ Dp K H y (itP p) := by
  obtain ⟨d, hd1, hd2⟩ := DpAll.get h e
  rw [List.getElem?_map] at hd1
  cases hl : l[i]? with
  | none => rw [hl] at hd1; cases hd1
  | some p =>
    rw [hl] at hd1
    cases hd1
    exact ⟨p, rfl, hd2⟩
theorem ok_nloads {f g1 C : Addr} {fd fd1 : FuncData} {ce : Str → Addr} (F : Fun K "need_loads" "need_loads" sNLoads f fd) (B : Bt mg) (NL : NLoadF P w K mg base C (ce "UnknownItem") g1 fd1) (X1 : PErr K mg "UnknownItem" (ce "UnknownItem")) :
    FnOk P w K mg base (L2N.CX P w) 4 f fd ["house", "items"] (spNLoads K C (ce "UnknownItem")) := by
  refine okN F scNLoads (fun vs H Q E h => ?_) (fun cdv A outer s H vs Q E hr h => ?_)
  · obtain ⟨h, y, l, d, rfl, _⟩ := h
    rfl
  · obtain ⟨h, y, l, d, rfl, hh, hy, hl, hs, kE, kQ⟩ := h
    have hr1 : Room 1 _ := hr.mono (by decide)
    have hr2 : Room 2 _ := hr.mono (by decide)
    have hr3 : Room 3 _ := hr
    have tk : L2N.Takes (cxOf (L2N.CX P w) P w K mg base ["house", "items", "index", "item"] "need_loads" (defScope sNLoads) f cdv A outer s H E) (fun cls d _ H => E cls d H) := L2N.takes_of rfl rfl rfl rfl
    have hu : (cxOf (L2N.CX P w) P w K mg base ["house", "items", "index", "item"] "need_loads" (defScope sNLoads) f cdv A outer s H E).A.units < cLine := by have := hr.un; show (A.deeper _).units < cLine; omega
    refine ⟨_, pss_one (ps_for (passes_of rfl) rfl (pi_enumT (by rfl) B.enu (pa_cons (pv 1) pa_nil)) (pg_tup (by rfl) (pgs_cons (pg_name (i := 2) scNLoads.nd rfl (.inl rfl)) (pgs_cons (pg_name (i := 3) scNLoads.nd rfl (.inl rfl)) pgs_nil)))
        (pss_cons (ps_expr (pe_call NL.G hr3 rfl NL.m NL.k NL.b .nil (L2N.passes_call tk (fun _ _ _ _ h => h)) (pa_cons (pv 0) (pa_cons (pv 3) pa_nil))))
        (pss_one (ps_if (PW.pt (pw_and (pt_cmpR op_gt (pv 2) pe_int (nomark _)) (pw_and1 (pt_cmpR (op_leI hu) (pv 3) (pe_ix ix_tup (pv 1) (pe_op op_sub (pv 2) pe_int) (fun _ _ => rfl)) (nomark _)))))
          (pss_one (L2N.ps_raise rfl tk (pmk_own1N PySem.F.excBase_ValueError X1.ex X1.mg X1.kp (raises_own X1.sb X1.ty) rfl (pe_joined (.cons (pe_fmtI hr1 (pv 3)) (.cons pe_str .nil)))))) pss_nil)))), ?_⟩
    obtain ⟨ay, xs, rfl, sy, dl, lx⟩ := its_at hy
    refine ⟨_, rfl, ay, xs, rfl, sy, for_enumT (K := K) (a := ay) (xs := xs) (fun i σ H2 => ∃ v1 v2 : Option V, σ = [some (.ref h), some (.ref ay), v1, v2] ∧ Same H H2 ∧ ∀ (j : Nat) p, j < i → l[j]? = some p → (inH d p ∧ p.1 ≠ .sl) ∧ ∀ p', 0 < j → l[j - 1]? = some p' → itLt p' p = true)
      ⟨none, none, rfl, Same.refl H, fun j p h => absurd h (by omega)⟩ (fun i σ H2 _ ⟨_, _, _, e, _⟩ => SqT.same e sy) ?_ ?_⟩
    · rintro i y σ H2 T' hi ⟨v1, v2, rfl, e, hb⟩ hT
      obtain ⟨p, hp, hy1⟩ := its_get dl hi
      have f1 := same_upd (o := HO.tup [.int (i : Nat), y]) hT
      have e1 := e.trans f1
      have dp := Dp.same e1 _ _ hy1
      have sm := hs p (List.mem_of_getElem? hp)
      have hi1 := (List.getElem?_eq_some_iff.mp hi).1
      refine ⟨T', _, rfl, SqT.of upd_same, rfl, _, _, rfl, _, _, rfl, rfl, ?_⟩
      refine ⟨_, rfl, _, rfl, h, y, p, d, rfl, hh.nl (nl_same e1), dp, sm, fun z => (kE fun g => ?_).same e1, fun z => ?_⟩
      · obtain ⟨⟨g1, g2⟩, _⟩ := g i p hp
        exact z.elim (fun q => q g1) g2
      have gi : inH d p ∧ p.1 ≠ .sl := ⟨Classical.byContradiction fun q => z (.inl q), fun q => z (.inr q)⟩
      refine ⟨_, rfl, _, _, rfl, rfl, _, rfl, ?_⟩
      by_cases c0 : 0 < i
      · obtain ⟨y', hy'⟩ : ∃ y', xs[i - 1]? = some y' := ⟨_, List.getElem?_eq_getElem (by omega)⟩
        obtain ⟨p', hp', dp'⟩ := its_get dl hy'
        obtain ⟨ip, rfl, sp⟩ := it_at dp
        have dp'1 := Dp.same e1 _ _ dp'
        obtain ⟨ip', rfl, sp'⟩ := it_at dp'1
        refine iteTe (decide_eq_true (by omega)) ⟨_, rfl, _, rfl, _, rfl, _, _, rfl, rfl, ay, xs, ((i - 1 : Nat) : Int), _, rfl, congrArg V.int (by omega), SqT.same e1 sy, atI_nat hy', ip, ip', p, p', rfl, rfl, sp, sp', _, rfl, ?_⟩
        by_cases c1 : itLt p' p = true
        · rw [c1]
          refine iteF ⟨_, _, rfl, e1, fun j z hj hz => ?_⟩
          by_cases cj : j = i
          · subst cj
            rw [hp] at hz
            cases hz
            refine ⟨gi, fun q _ hq => ?_⟩
            rw [hp'] at hq
            cases hq
            exact c1
          · exact hb j z (by omega) hz
        · rw [Bool.eq_false_iff.mpr c1]
          have l5 := sizeLine_eq
          have l1 : (Str.empty : Str).length = 0 := rfl
          have l2 : (" does not ascend" : Str).length = 16 := by decide +kernel
          refine iteT ⟨_, rfl, ip, _, _, rfl, sp, (kd_len _).1, (kd_len _).2, by omega, by omega, fun m hm => ⟨_, rfl, by rw [str_app]; omega, _, rfl, by rw [str_app, str_app]; omega, (kE fun g => c1 ((g i p hp).2 p' c0 hp')) _ e1⟩⟩
      · refine iteFe (decide_eq_false (by omega)) ⟨_, _, rfl, e1, fun j z hj hz => ?_⟩
        by_cases cj : j = i
        · subst cj
          rw [hp] at hz
          cases hz
          exact ⟨gi, fun q h => absurd h c0⟩
        · exact hb j z (by omega) hz
    · rintro σ H2 ⟨v1, v2, rfl, e, hb⟩
      exact kQ (fun i p hp => hb i p (by have := (List.getElem?_eq_some_iff.mp hp).1; omega) hp) _ e
/-! ### need_sight -/
def spNSight (K : PySem.W.Frag) (C : Addr) (ce : Str → Addr) (n : Nat) : Sp := fun vs H Q E => ∃ (h : Addr) (y : V) (g : Sg) (d : Hs), vs = [.ref h, y] ∧ depS g < n ∧ HouseAt K C H h d ∧ Dp K H y (sgD g) ∧ SmS g ∧
  (∀ z, unkS d g = z → z ≠ "" → Rp (ce z) H E) ∧ (unkS d g = "" → ∀ H', Same H H' → Q .non H')
theorem scNSight : FnScope ["house", "sight", "item", "place", "box", "items", "seal", "other"] ["house", "sight"] (defScope sNSight) := ⟨rfl, rfl, rfl, by decide +kernel, rfl, by decide +kernel, by decide +kernel⟩
theorem ok_nsight {f gI gP gB gL gS C : Addr} {fd fdI fdP fdB fdL fdS : FuncData} {ce : Str → Addr} (F : Fun K "need_sight" "need_sight" sNSight f fd) (mF : mg "need_sight" = some (.ref f)) (bF : Binds K fd ["house", "sight"] [])
    (NI : NItemF P w K mg base C (ce "UnknownItem") gI fdI) (NP : OnceX P w K mg base "need_place" 3 ["house", "place"] (spNPlace K C ce) gP fdP) (NB : NBoxF P w K mg base C (ce "UnknownBox") gB fdB)
    (NL : OnceX P w K mg base "need_loads" 4 ["house", "items"] (spNLoads K C (ce "UnknownItem")) gL fdL) (NS : NSealF P w K mg base C (ce "UnknownSeal") gS fdS) :
    ∀ n : Nat, FnOk P w K mg base (L2N.CX P w) (n + 4) f fd ["house", "sight"] (spNSight K C ce n) := by
  intro n
  induction n with
  | zero => exact ⟨fun vs H Q E h => by obtain ⟨_, _, _, _, _, h, _⟩ := h; omega, fun A outer s H args us vs Q E _ _ _ _ h => by obtain ⟨_, _, _, _, _, h, _⟩ := h; omega⟩
  | succ n R =>
  refine okN F scNSight (fun vs H Q E h => ?_) (fun cdv A outer s H vs Q E hr h => ?_)
  · obtain ⟨h, y, g, d, rfl, _⟩ := h
    rfl
  · obtain ⟨h, y, g, d, rfl, hn, hh, hy, hm, kE, kQ⟩ := h
    have hr2 : Room 2 _ := hr.mono (by omega)
    have hr3 : Room 3 _ := hr.mono (by omega)
    have hr4 : Room 4 _ := hr.mono (by omega)
    have hrn : Room (n + 4) _ := hr.mono (by omega)
    have tk : L2N.Takes (cxOf (L2N.CX P w) P w K mg base ["house", "sight", "item", "place", "box", "items", "seal", "other"] "need_sight" (defScope sNSight) f cdv A outer s H E) (fun cls d _ H => E cls d H) := L2N.takes_of rfl rfl rfl rfl
    refine ⟨_, pss_one (ps_match rfl scNSight.nd (pv 1)
      (.cons (.name (i := 2) rfl rfl (.name (i := 3) rfl rfl .nil)) (pss_cons (ps_expr (pe_call NI.G hr3 rfl NI.m NI.k NI.b .nil (L2N.passes_call tk (fun _ _ _ _ h => h)) (pa_cons (pv 0) (pa_cons (pv 2) pa_nil))))
        (pss_one (ps_expr (pe_call NP.G hr3 rfl NP.m NP.k NP.b .nil (L2N.passes_call tk (fun _ _ _ _ h => h)) (pa_cons (pv 0) (pa_cons (pv 3) pa_nil))))))
      (.cons (.name (i := 4) rfl rfl .nil) (pss_one (ps_expr (pe_call NB.G hr2 rfl NB.m NB.k NB.b .nil (L2N.passes_call tk (fun _ _ _ _ h => h)) (pa_cons (pv 0) (pa_cons (pv 4) pa_nil)))))
      (.cons (.name (i := 4) rfl rfl (.name (i := 5) rfl rfl .nil)) (pss_cons (ps_expr (pe_call NB.G hr2 rfl NB.m NB.k NB.b .nil (L2N.passes_call tk (fun _ _ _ _ h => h)) (pa_cons (pv 0) (pa_cons (pv 4) pa_nil))))
        (pss_one (ps_expr (pe_call NL.G hr4 rfl NL.m NL.k NL.b .nil (L2N.passes_call tk (fun _ _ _ _ h => h)) (pa_cons (pv 0) (pa_cons (pv 5) pa_nil))))))
      (.cons (.name (i := 6) rfl rfl .nil) (pss_one (ps_expr (pe_call NS.G hr2 rfl NS.m NS.k NS.b .nil (L2N.passes_call tk (fun _ _ _ _ h => h)) (pa_cons (pv 0) (pa_cons (pv 6) pa_nil)))))
      (.cons (.name (i := 7) rfl rfl .nil) (pss_one (ps_expr (pe_call R hrn rfl mF F.kp bF .nil (L2N.passes_call tk (fun _ _ _ _ h => h)) (pa_cons (pv 0) (pa_cons (pv 7) pa_nil)))))
      .nil)))))), ?_⟩
    obtain ⟨yd, vs, rfl, sy, dvs⟩ := sg_at hy
    have z1 := Same.refl H
    refine ⟨_, rfl, yd, sgW g, _, rfl, sy, ?_⟩
    cases g with
    | loc p q =>
      obtain ⟨m1, m2, m3⟩ := hm
      cases dvs with
      | cons dp r =>
      cases r with
      | cons dq r =>
      cases r
      dsimp only [sgW] at *
      unfold unkS at kE kQ
      refine mGo_hit rfl rfl ?_
      refine ⟨_, rfl, _, rfl, h, _, p, d, rfl, hh, dp, m1, fun c => kE _ (if_pos c) ne_e2, fun c => ?_⟩
      have c' : ¬ ¬ inH d p := fun q => q c
      simp only [if_neg c'] at kE kQ
      exact ⟨_, rfl, _, rfl, h, _, q, d, rfl, hh, dq, m2, m3, fun z e => kE z (by unfold plErr at e; exact e), fun e => kQ (by unfold plErr at e; exact e)⟩
    | bare b =>
      cases dvs with
      | cons dp r =>
      cases r
      cases dp
      dsimp only [sgW] at *
      unfold unkS at kE kQ
      refine mGo_miss (by dsimp only; decide +kernel) (mGo_hit rfl rfl ?_)
      exact ⟨_, rfl, _, rfl, h, b, d, rfl, hh, hm, fun c => kE _ (if_pos c) ne_e3, fun c => kQ (if_neg (by omega)) _ z1⟩
    | inn b l =>
      obtain ⟨m1, m2, m3⟩ := hm
      cases dvs with
      | cons dp r =>
      cases r with
      | cons dq r =>
      cases r
      cases dp
      dsimp only [sgW] at *
      unfold unkS at kE kQ
      refine mGo_miss (by dsimp only; decide +kernel) (mGo_miss (by dsimp only; decide +kernel) (mGo_hit rfl rfl ?_))
      refine ⟨_, rfl, _, rfl, h, b, d, rfl, hh, m1, fun c => kE _ (if_pos c) ne_e3, fun c => ?_⟩
      have c' : ¬ d.bs.length ≤ b := by omega
      simp only [if_neg c'] at kE kQ
      exact ⟨_, rfl, _, rfl, h, _, l, d, rfl, hh, dq, m2, m3, fun c => kE _ (if_neg c) ne_e2, fun c => kQ (if_pos c)⟩
    | gone b =>
      cases dvs with
      | cons dp r =>
      cases r
      cases dp
      dsimp only [sgW] at *
      unfold unkS at kE kQ
      refine mGo_miss (by dsimp only; decide +kernel) (mGo_miss (by dsimp only; decide +kernel) (mGo_miss (by dsimp only; decide +kernel) (mGo_hit rfl rfl ?_)))
      exact ⟨_, rfl, _, rfl, h, b, d, rfl, hh, hm, fun c => kE _ (if_pos c) ne_e5, fun c => kQ (if_neg (by omega)) _ z1⟩
    | nt g =>
      cases dvs with
      | cons dg r =>
      cases r
      dsimp only [sgW] at *
      unfold unkS at kE kQ
      refine mGo_miss (by dsimp only; decide +kernel) (mGo_miss (by dsimp only; decide +kernel) (mGo_miss (by dsimp only; decide +kernel) (mGo_miss (by dsimp only; decide +kernel) (mGo_hit rfl rfl ?_))))
      exact ⟨_, rfl, _, rfl, h, _, g, d, rfl, (by unfold depS at hn; omega), hh, dg, hm, kE, kQ⟩
/-! ### is_true -/
end
end Kw


set_option Elab.async false
set_option linter.all false
set_option maxRecDepth 100000
set_option maxHeartbeats 4000000
namespace Kw
open PySem PySem.Spec PyProof.Rows L2
theorem log2_small1 {i : Int} (h0 : -1 ≤ i) (h1 : i ≤ 1000) : i.natAbs.log2 < 1920 := by
  by_cases c : i = -1
  · subst c
    decide +kernel
  · exact log2_small (by omega) h1
theorem digits_small1 {i : Int} (h0 : -1 ≤ i) (h1 : i ≤ 1000) : (toString i : Str).length ≤ 4 := by
  by_cases c : i = -1
  · subst c
    decide +kernel
  · exact digits_small (by omega) h1
/-! ### what a hand holds -/
def kdI (k : Kd) (n : Nat) : List It := (List.range n).map fun i => (k, i)
def allI (d : Hs) : List It := kdI .box d.bs.length ++ kdI .sl d.ss.length ++ kdI .thing d.ts.length
theorem kindD_its (k : Kd) (n : Nat) : kindD k.str n = (kdI k n).map itP := by
  unfold kindD kdI
  rw [List.map_map]
  rfl
theorem allI_D (d : Hs) : itemsD d = .list ((allI d).map itP) := by
  unfold itemsD allI
  rw [List.map_append, List.map_append, ← kindD_its, ← kindD_its, ← kindD_its]
  rfl
def heldL (d : Hs) (q : Pl) : List It := atOf d.bs .box q ++ atOf d.ss .sl q ++ atOf d.ts .thing q
theorem at_mem {l : List Pl} {k : Kd} {q : Pl} {p : It} (h : p ∈ atOf l k q) : p.1 = k ∧ l[p.2]? = some q := by
  unfold atOf at h
  obtain ⟨i, h1, rfl⟩ := List.mem_map.mp h
  exact ⟨rfl, of_decide_eq_true (List.mem_filter.mp h1).2⟩
theorem at_asc (l : List Pl) (k : Kd) (q : Pl) : (atOf l k q).Pairwise fun x y => itLt x y = true := by
  unfold atOf
  rw [List.pairwise_map]
  refine List.Pairwise.filter _ ?_
  refine List.Pairwise.imp ?_ List.pairwise_lt_range
  intro a b h
  exact itLt_iff.mpr (.inr ⟨rfl, h⟩)
theorem itLt_asym {x y : It} (h : itLt x y = true) : itLt y x = false := by
  cases e : itLt y x with
  | false => rfl
  | true =>
    rcases itLt_iff.mp h with a | ⟨a, b⟩ <;> rcases itLt_iff.mp e with c | ⟨c, d⟩
    · omega
    · rw [c] at a; omega
    · rw [a] at c; omega
    · omega
theorem held_asc (d : Hs) (q : Pl) : (heldL d q).Pairwise fun x y => itLt x y = true := by
  unfold heldL
  have r1 : rkd .box < rkd .sl := by decide
  have r2 : rkd .sl < rkd .thing := by decide
  refine List.pairwise_append.mpr ⟨List.pairwise_append.mpr ⟨at_asc _ _ _, at_asc _ _ _, fun x hx y hy => ?_⟩, at_asc _ _ _, fun x hx y hy => ?_⟩
  · obtain ⟨a1, _⟩ := at_mem hx
    obtain ⟨a2, _⟩ := at_mem hy
    exact itLt_iff.mpr (.inl (by rw [a1, a2]; exact r1))
  · obtain ⟨a2, _⟩ := at_mem hy
    rcases List.mem_append.mp hx with hx | hx
    · obtain ⟨a1, _⟩ := at_mem hx
      exact itLt_iff.mpr (.inl (by rw [a1, a2]; omega))
    · obtain ⟨a1, _⟩ := at_mem hx
      exact itLt_iff.mpr (.inl (by rw [a1, a2]; exact r2))
theorem sorted_held {d : Hs} {q : Pl} {qs : List It} (hp : qs.Perm (loadsOf d q ++ atOf d.ss .sl q)) (ha : qs.Pairwise fun x y => itLt y x = false) : qs = heldL d q := by
  refine List.Perm.eq_of_pairwise (le := fun x y => itLt y x = false) (fun a b _ _ h1 h2 => itLt_total h2 h1) ha ((held_asc d q).imp fun h => itLt_asym h) (hp.trans ?_)
  unfold loadsOf heldL
  rw [List.append_assoc, List.append_assoc]
  exact List.Perm.append_left _ List.perm_append_comm
theorem unk_knS {d : Hs} : ∀ {g : Sg}, SmS g → unkS d g = "" → KnS d g
  | .loc p q, _, h => by
    unfold unkS at h
    by_cases c : ¬ inH d p
    · rw [if_pos c] at h; exact absurd h ne_e2
    · exact inH_where (Classical.not_not.mp c)
  | .bare b, _, h => by
    unfold unkS at h
    by_cases c : d.bs.length ≤ b
    · rw [if_pos c] at h; exact absurd h ne_e3
    · show b < d.bs.length; omega
  | .inn b l, m, h => by
    unfold unkS at h
    by_cases c : d.bs.length ≤ b
    · rw [if_pos c] at h; exact absurd h ne_e3
    · exact ⟨by omega, m.2.1⟩
  | .gone b, _, h => by
    unfold unkS at h
    by_cases c : d.ss.length ≤ b
    · rw [if_pos c] at h; exact absurd h ne_e5
    · show b < d.ss.length; omega
  | .nt g, m, h => unk_knS (g := g) m (by unfold unkS at h; exact h)
theorem Shp.good {d0 d : Hs} (s : Shp d0 d) (l : List It) : GoodI d0 l ↔ GoodI d l := by
  unfold GoodI
  simp only [s.inH]
theorem unkS_shp {d0 d : Hs} (s : Shp d0 d) : ∀ g : Sg, unkS d0 g = unkS d g
  | .loc p q => by
    have hb : d0.bs.length = d.bs.length := s.r .box
    unfold unkS
    simp only [s.h, s.inH, hb]
  | .bare b => by
    have hb : d0.bs.length = d.bs.length := s.r .box
    unfold unkS
    simp only [hb]
  | .inn b l => by
    have hb : d0.bs.length = d.bs.length := s.r .box
    have hg := s.good l
    unfold unkS
    by_cases c : GoodI d l
    · simp only [hb, if_pos c, if_pos (hg.mpr c)]
    · simp only [hb, if_neg c, if_neg (fun z => c (hg.mp z))]
  | .gone b => by
    have hb : d0.ss.length = d.ss.length := s.r .sl
    unfold unkS
    simp only [hb]
  | .nt g => by
    unfold unkS
    exact unkS_shp s g
section
variable {P : Program} {w : World} {K : PySem.W.Frag} {mg : Str → Option Value} {base : Heap}
/-! ### need_box, of any whole number near 0 -/
def spNBoxZ (K : PySem.W.Frag) (C X : Addr) : Sp := fun vs H Q E => ∃ (h : Addr) (n : Int) (d : Hs), vs = [.ref h, .int n] ∧ HouseAt K C H h d ∧ -1 ≤ n ∧ n ≤ 1000 ∧ (¬ (0 ≤ n ∧ n < d.bs.length) → Rp X H E) ∧ (0 ≤ n ∧ n < d.bs.length → Q .non H)
theorem ok_nboxZ {f g C X : Addr} {fd fdg : FuncData} (F : Fun K "need_box" "need_box" sNBox f fd) (B : Bt mg) (T : HouseC K C) (N : NumF P w K mg base g fdg) (X1 : PErr K mg "UnknownBox" X) :
    FnOk P w K mg base (L2N.CX P w) 2 f fd ["house", "box"] (spNBoxZ K C X) := by
  refine okN F scNBox (fun vs H Q E h => ?_) (fun cdv A outer s H vs Q E hr h => ?_)
  · obtain ⟨h, n, d, rfl, _⟩ := h
    rfl
  · obtain ⟨h, n, d, rfl, hh, h0, h1, kE, kQ⟩ := h
    have tk : L2N.Takes (cxOf (L2N.CX P w) P w K mg base ["house", "box"] "need_box" (defScope sNBox) f cdv A outer s H E) (fun cls d _ H => E cls d H) := L2N.takes_of rfl rfl rfl rfl
    refine ⟨_, pss_one (ps_if (pt_not (pt_val (pe_call N.G hr rfl N.m N.k N.b .nil pass0 (pa_cons (pv 1) (pa_cons (pe_callB call_len_seq (by rfl) B.len PySem.boot_len (pa_cons (pe_fld (pv 0) rfl) pa_nil)) pa_nil)))))
      (pss_one (L2N.ps_raise rfl tk (pmk_own1N PySem.F.excBase_ValueError X1.ex X1.mg X1.kp (raises_own X1.sb X1.ty) rfl (pe_joined (.cons pe_str (.cons (pe_fmt (pv 1)) .nil)))))) pss_nil), ?_⟩
    obtain ⟨dx, vb, vt, vs, vst, g0, g1, g2, g3, g4⟩ := hh.ex
    obtain ⟨ab, xb, rfl, qb, db, lb⟩ := pls_at g1
    refine ⟨_, rfl, _, rfl, h, C, dx, _, _, rfl, g0, T.cl, T.nB, fs_boxes _ _ _ _ _, ab, xb, rfl, .inr qb, n, (xb.length : Nat), rfl, _, rfl, ?_⟩
    by_cases c : 0 ≤ n ∧ n < d.bs.length
    · have e : numOk n (xb.length : Nat) = true := by
        unfold numOk
        rw [decide_eq_true c.1, decide_eq_true (show n < (xb.length : Nat) by omega)]
        rfl
      rw [e]
      exact iteF (kQ c)
    · have e : numOk n (xb.length : Nat) = false := by
        unfold numOk
        by_cases c0 : 0 ≤ n
        · rw [decide_eq_false (show ¬ n < (xb.length : Nat) from fun z => c ⟨c0, by omega⟩), Bool.and_false]
        · rw [decide_eq_false c0, Bool.false_and]
      rw [e]
      have l5 := sizeLine_eq
      have l1 : (Str.empty : Str).length = 0 := rfl
      have l2 : ("there is no box " : Str).length = 16 := by decide +kernel
      have l3 := digits_small1 h0 h1
      exact iteT ⟨_, rfl, by rw [str_app]; omega, _, rfl, .inr ⟨_, rfl, log2_small1 h0 h1, _, rfl, by rw [str_app, str_app]; omega, kE c _ (Same.refl _)⟩⟩
structure WIn (K : PySem.W.Frag) (C CW : Addr) (H : Hp) (a h : Addr) (d0 d : Hs) : Prop where
  wd : WorldAt K CW H a h d
  hh : HouseAt K C H h d0
  sh : Shp d0 d
  ls : Ls d
theorem WIn.same {C CW : Addr} {H H' : Hp} {a h : Addr} {d0 d : Hs} (e : Same H H') (x : WIn K C CW H a h d0 d) : WIn K C CW H' a h d0 d := ⟨x.wd.same e, x.hh.nl (nl_same e), x.sh, x.ls⟩
/-! ### where, holder -/
def spWWhere (K : PySem.W.Frag) (C CW X : Addr) : Sp := fun vs H Q E => ∃ (a h : Addr) (y : V) (p : It) (d0 d : Hs), vs = [.ref a, y] ∧ WIn K C CW H a h d0 d ∧ Dp K H y (itP p) ∧ p.2 ≤ 1000 ∧ (¬ inH d p → Rp X H E) ∧ (∀ q, whereD d p = some q → ∀ v H', Same H H' → Dp K H' v (plD q) → Q v H')
def spWHold (K : PySem.W.Frag) (C CW X : Addr) : Sp := fun vs H Q E => ∃ (a h : Addr) (y : V) (p : It) (d0 d : Hs), vs = [.ref a, y] ∧ WIn K C CW H a h d0 d ∧ Dp K H y (itP p) ∧ p.2 ≤ 1000 ∧ Wf d ∧ (¬ inH d p → Rp X H E) ∧ (∀ q, whereD d p = some q → ∃ r n, Hold d r n q ∧ ∀ H', Same H H' → Q (endV r) H')
/-! ### what is inside, what is on it -/
def spWIn (K : PySem.W.Frag) (C CW X : Addr) : Sp := fun vs H Q E => ∃ (a h : Addr) (n : Int) (d0 d : Hs), vs = [.ref a, .int n] ∧ WIn K C CW H a h d0 d ∧ -1 ≤ n ∧ n ≤ 1000 ∧ (¬ (0 ≤ n ∧ n < d.bs.length) → Rp X H E) ∧ (∀ b : Nat, n = (b : Int) → b < d.bs.length → ∀ v H', Same H H' → Dp K H' v (.list ((insideOf d b).map itP)) → Q v H')
def spWSeal (K : PySem.W.Frag) (C CW X : Addr) : Sp := fun vs H Q E => ∃ (a h : Addr) (n : Int) (d0 d : Hs), vs = [.ref a, .int n] ∧ WIn K C CW H a h d0 d ∧ -1 ≤ n ∧ n ≤ 1000 ∧ (¬ (0 ≤ n ∧ n < d.bs.length) → Rp X H E) ∧ (∀ b : Nat, n = (b : Int) → b < d.bs.length → ((Wd.box, (b : Int)) ∈ d.ss → ∀ H', Same H H' → Q (.int (onIx d b : Nat)) H') ∧ ((Wd.box, (b : Int)) ∉ d.ss → ∀ H', Same H H' → Q .non H'))
/-! ### held -/
def spWHeld (K : PySem.W.Frag) (C CW X : Addr) : Sp := fun vs H Q E => ∃ (a h : Addr) (n : Int) (d0 d : Hs), vs = [.ref a, .int n] ∧ WIn K C CW H a h d0 d ∧ 0 ≤ n ∧ n ≤ 1000 ∧ (d0.hands ≤ n → Rp X H E) ∧ (n < d0.hands → ∀ v H', Same H H' → Dp K H' v (.list ((heldL d (.hand, n)).map itP)) → Q v H')
/-! ### is_so -/
def spWSo (K : PySem.W.Frag) (C CW : Addr) (ce : Str → Addr) (n : Nat) : Sp := fun vs H Q E => ∃ (a h : Addr) (y : V) (g : Sg) (d0 d : Hs), vs = [.ref a, y] ∧ WIn K C CW H a h d0 d ∧ depS g < n ∧ Dp K H y (sgD g) ∧ SmS g ∧ (∀ z, unkS d g = z → z ≠ "" → Rp (ce z) H E) ∧ (unkS d g = "" → ∀ H', Same H H' → Q (.bl (isS d g)) H')
end
end Kw


set_option Elab.async false
set_option linter.all false
set_option maxRecDepth 100000
set_option maxHeartbeats 4000000
namespace Kw
open PySem PySem.Spec PyProof.Rows L2
theorem itLt_trans {x y z : It} (h1 : itLt x y = true) (h2 : itLt y z = true) : itLt x z = true := by
  refine itLt_iff.mpr ?_
  rcases itLt_iff.mp h1 with a | ⟨a, b⟩ <;> rcases itLt_iff.mp h2 with c | ⟨c, e⟩
  · exact .inl (by omega)
  · exact .inl (by rw [← c]; exact a)
  · exact .inl (by rw [a]; exact c)
  · exact .inr ⟨a.trans c, by omega⟩
theorem good_of {d : Hs} {l : List It} (h : ∀ p ∈ l, inH d p ∧ p.1 ≠ .sl) (hp : l.Pairwise fun x y => itLt x y = true) : GoodI d l := fun i p e => by
  refine ⟨h p (List.mem_of_getElem? e), fun p' h0 e' => ?_⟩
  obtain ⟨h1, rfl⟩ := List.getElem?_eq_some_iff.mp e
  obtain ⟨h2, rfl⟩ := List.getElem?_eq_some_iff.mp e'
  exact List.pairwise_iff_getElem.mp hp (i - 1) i h2 h1 (by omega)
theorem of_good {d : Hs} {l : List It} (h : GoodI d l) : l.Pairwise fun x y => itLt x y = true := by
  refine List.pairwise_iff_getElem.mpr fun i j hi hj hij => ?_
  have go : ∀ (k : Nat) (hk : i + 1 + k < l.length), itLt (l[i]) (l[i + 1 + k]) = true := by
    intro k
    induction k with
    | zero => intro hk; exact (h (i + 1) l[i + 1] (List.getElem?_eq_getElem hk)).2 l[i] (by omega) (List.getElem?_eq_getElem hi)
    | succ k ih =>
      intro hk
      have h1 := ih (by omega)
      have h2 := (h (i + 1 + (k + 1)) l[i + 1 + (k + 1)] (List.getElem?_eq_getElem hk)).2 l[i + 1 + k] (by omega) (List.getElem?_eq_getElem (by omega))
      exact itLt_trans h1 h2
  have := go (j - i - 1) (by omega)
  have e : i + 1 + (j - i - 1) = j := by omega
  simp only [e] at this
  exact this
theorem good_inside (d : Hs) (b : Nat) : GoodI d (insideOf d b) := by
  refine good_of (fun p hp => ?_) ?_
  · unfold insideOf loadsOf at hp
    rcases List.mem_append.mp hp with hp | hp
    · obtain ⟨a1, a2⟩ := at_mem hp
      refine ⟨?_, by rw [a1]; decide⟩
      unfold inH
      rw [a1]
      exact (List.getElem?_eq_some_iff.mp a2).1
    · obtain ⟨a1, a2⟩ := at_mem hp
      refine ⟨?_, by rw [a1]; decide⟩
      unfold inH
      rw [a1]
      exact (List.getElem?_eq_some_iff.mp a2).1
  · unfold insideOf loadsOf
    refine List.pairwise_append.mpr ⟨at_asc _ _ _, at_asc _ _ _, fun x hx y hy => ?_⟩
    obtain ⟨a1, _⟩ := at_mem hx
    obtain ⟨a2, _⟩ := at_mem hy
    exact itLt_iff.mpr (.inl (by rw [a1, a2]; decide))
theorem inside_len (d : Hs) (b : Nat) : (insideOf d b).length ≤ d.bs.length + d.ts.length := by
  unfold insideOf loadsOf
  rw [List.length_append]
  have := at_len d.bs .box (.box, (b : Int))
  have := at_len d.ts .thing (.box, (b : Int))
  omega
theorem inside_mem {d : Hs} {b : Nat} {p : It} (h : p ∈ insideOf d b) : p.2 < (rowOf d p.1).length := by
  obtain ⟨i, hi⟩ := mem_get h
  exact (good_inside d b i p hi).1.1
theorem allI_mem {d : Hs} {p : It} (h : p ∈ allI d) : inH d p := by
  unfold allI at h
  have one : ∀ k n, p ∈ kdI k n → p.1 = k ∧ p.2 < n := fun k n h => by
    unfold kdI at h
    obtain ⟨i, h1, rfl⟩ := List.mem_map.mp h
    exact ⟨rfl, List.mem_range.mp h1⟩
  unfold inH
  rcases List.mem_append.mp h with h | h
  · rcases List.mem_append.mp h with h | h <;> (obtain ⟨a, b⟩ := one _ _ h; rw [a]; exact b)
  · obtain ⟨a, b⟩ := one _ _ h
    rw [a]
    exact b
theorem allI_len (d : Hs) : (allI d).length = d.bs.length + d.ss.length + d.ts.length := by
  unfold allI kdI
  simp
  omega
def SgV (d : Hs) (g : Sg) : Prop := depS g ≤ 1 ∧ SmS g ∧ unkS d g = ""
section
variable {P : Program} {w : World} {K : PySem.W.Frag} {mg : Str → Option Value} {base : Heap}
/-! ### _law_hands -/
def spHands (K : PySem.W.Frag) (C : Addr) : Sp := fun vs H Q _ => ∃ (b l h : Addr) (d : Hs), vs = [.ref b, .ref h] ∧ BoxAt H b l ∧ HouseAt K C H h d ∧ 1 ≤ d.hands ∧ d.hands ≤ 4 ∧
  ∀ (t : Addr) (hs : List Nat) H', SqT K H' t (nV hs) → hs.length ≤ 4 → (∀ u ∈ hs, (u : Int) < d.hands) → hs.Pairwise (· < ·) → BoxAt H' b l → Kb b l H H' → Q (.ref t) H'
theorem scHands : FnScope ["_law_box", "_law_house_here", "_law_hand"] ["_law_box", "_law_house_here"] (defScope sHands) := ⟨rfl, rfl, rfl, by decide +kernel, rfl, by decide +kernel, by decide +kernel⟩
theorem ok_hands {f gT C : Addr} {fd fdT : FuncData} (F : Fun K "_law_hands" "_law_hands" sHands f fd) (B : Bt mg) (hc : HouseC K C) (GT : OnceF P w K mg base "_law_take" 1 ["_law_box", "_law_many"] spTake gT fdT) : FnOk P w K mg base CX0 2 f fd ["_law_box", "_law_house_here"] (spHands K C) := by
  refine F.ok scHands (fun vs H Q E h => ?_) (fun cdv A outer s H vs Q E hr h => ?_)
  · obtain ⟨b, l, h, d, rfl, _⟩ := h
    rfl
  · obtain ⟨b, l, h, d, rfl, hB, hh, h0, h1, k⟩ := h
    have hr1 : Room 1 _ := hr
    refine ⟨_, pss_one (ps_ret (pe_callTy call_tuple_of (by rfl) B.tup (by decide +kernel) (pa_cons (pe_lc (own := [("_law_hand", 2)]) (g := gName 2) (tt := tTest (tOp (rI0 fun i j => .bl (decide (j < i))) (tCall spTake [] E0 (tCons (tVar 0) (tCons (tC (.int 4)) tNil))) (tC (.int 0)))) (te := tVar 2) rfl scHands.nd
        (pi_range1 rfl B.rng (pa_cons (pe_fld (pv 1) rfl) pa_nil))
        (blkOk_by (own := [("_law_hand", 2)]) (N := ["_law_box", "_law_house_here", "_law_hand"]) (sc := defScope sHands) (by decide +kernel)) (fun _ _ _ _ _ => pg_name (i := 2) scHands.nd rfl (.inl rfl))
        (fun _ _ _ _ _ => pts_one (pt_cmpR op_gt (pe_call GT.G hr1 rfl GT.m GT.k GT.b .nil pass0 (pa_cons (pv 0) (pa_cons pe_int pa_nil))) pe_int (nomark _))) (fun _ _ _ _ _ => pv 2)) pa_nil))), ?_⟩
    obtain ⟨dx, vb, vt, vs, vst, g0, g1, g2, g3, g4⟩ := hh.ex
    refine ⟨_, rfl, h, C, dx, _, _, rfl, g0, hc.cl, hc.nH, fs_hands _ _ _ _ _, d.hands, rfl, by omega, by omega, fun D hD => ?_⟩
    obtain ⟨nb, nl⟩ := hB.neL hD
    refine lc_range (lo := 0) (n := d.hands.toNat) (fun i H' => Kb b l H H' ∧ BoxAt H' b l ∧ ∃ hs : List Nat, H' D = some (.lst (nV hs)) ∧ hs.length ≤ i ∧ (∀ u ∈ hs, u < i) ∧ hs.Pairwise (· < ·))
      ⟨(Kb.refl b l H).updD hD, hB.updD nb nl, [], upd_same, Nat.le_refl _, (fun u hu => by cases hu), .nil⟩ ?_ ?_
    · rintro i H' hi ⟨hk, hB1, hs, hhs, lhs, ohs, phs⟩
      refine ⟨wipe_one _ 2 _, ?_⟩
      refine ⟨_, rfl, b, l, 4, rfl, by omega, by omega, hB1, fun r H2 r0 r1 hB2 k2 => ⟨_, _, rfl, rfl, _, rfl, ?_⟩⟩
      have h2 := k2.kp.ls _ _ hhs nb nl
      have lnv : (nV hs).length = hs.length := by unfold nV; rw [List.length_map]
      refine ite_b _ (fun _ => ?_) (fun _ => ?_)
      · refine ⟨_, rfl, nV hs, h2, by rw [lnv, sizeLine_eq]; omega, (hk.trans k2).updD hD, hB2.updD nb nl, hs ++ [i], ?_, by rw [List.length_append]; simp; exact lhs, fun u hu => ?_, List.pairwise_append.mpr ⟨phs, List.pairwise_singleton _ _, fun x hx y hy => by rw [List.mem_singleton.mp hy]; exact ohs x hx⟩⟩
        · have : nV (hs ++ [i]) = nV hs ++ [.int (0 + (i : Int))] := by
            unfold nV
            rw [List.map_append, Int.zero_add]
            rfl
          rw [this]
          exact upd_same
        · rcases List.mem_append.mp hu with hu | hu
          · have := ohs u hu
            omega
          · rw [List.mem_singleton.mp hu]
            omega
      · exact ⟨hk.trans k2, hB2, hs, h2, by omega, (fun u hu => by have := ohs u hu; omega), phs⟩
    · rintro H' ⟨hk, hB1, hs, hhs, lhs, ohs, phs⟩
      refine ⟨D, nV hs, rfl, .inl ⟨SqL.of hhs, fun t ht => ?_⟩⟩
      exact k t hs _ (SqT.of upd_same) (by omega) (fun u hu => by have := ohs u hu; omega) phs (hB1.upd ht) (hk.trans (Kb.same (same_upd ht)))
/-! ### all items, with the list itself -/
def spItemsA (K : PySem.W.Frag) (C : Addr) : Sp := fun vs H Q _ => ∃ (h : Addr) (d : Hs), vs = [.ref h] ∧ HouseAt K C H h d ∧ d.bs.length ≤ 100 ∧ d.ts.length ≤ 100 ∧ d.ss.length ≤ 100 ∧ ∀ p H' xs, Same H H' → H p = none → H' p = some (.lst xs) → DpAll K H' xs ((allI d).map itP) → Q (.ref p) H'
theorem ok_itemsA {f C : Addr} {fd : FuncData} (F : Fun K "all_items" "House.all_items" sItems f fd) (B : Bt mg) (T : HouseC K C) : FnOk P w K mg base CX0 1 f fd ["self"] (spItemsA K C) := by
  refine F.ok scItems (fun vs H Q E h => ?_) (fun cdv A outer s H vs Q E hr h => ?_)
  · obtain ⟨h, d, rfl, _⟩ := h
    rfl
  · obtain ⟨h, d, rfl, hh, l1, l2, l3, k⟩ := h
    refine ⟨_, pss_cons (ps_setLc (i := 1) (own := [("number", 4)]) (g := gName 4) (tt := tYes) (te := tTup (tCons (tC (.str "box")) (tCons (tVar 4) tNil))) rfl scItems.nd rfl rfl (sw_true rfl rfl rfl (by decide +kernel)) (pi_range1 rfl B.rng (pa_cons (pe_callB call_len_seq (by rfl) B.len PySem.boot_len (pa_cons (pe_fld (pv 0) rfl) pa_nil)) pa_nil))
        (blkOk_by (own := [("number", 4)]) (N := ["self", "boxes", "seals", "things", "number"]) (sc := defScope sItems) (by decide +kernel)) (fun _ _ _ _ _ => pg_name (i := 4) scItems.nd rfl (.inl rfl)) (fun _ _ _ _ _ => pts_nil) (fun _ _ _ _ _ => pe_tup (pa_cons pe_str (pa_cons (pv 4) pa_nil))))
      (pss_cons (ps_setLc (i := 2) (own := [("number", 4)]) (g := gName 4) (tt := tYes) (te := tTup (tCons (tC (.str "seal")) (tCons (tVar 4) tNil))) rfl scItems.nd rfl rfl (sw_true rfl rfl rfl (by decide +kernel)) (pi_range1 rfl B.rng (pa_cons (pe_callB call_len_seq (by rfl) B.len PySem.boot_len (pa_cons (pe_fld (pv 0) rfl) pa_nil)) pa_nil))
        (blkOk_by (own := [("number", 4)]) (N := ["self", "boxes", "seals", "things", "number"]) (sc := defScope sItems) (by decide +kernel)) (fun _ _ _ _ _ => pg_name (i := 4) scItems.nd rfl (.inl rfl)) (fun _ _ _ _ _ => pts_nil) (fun _ _ _ _ _ => pe_tup (pa_cons pe_str (pa_cons (pv 4) pa_nil))))
      (pss_cons (ps_setLc (i := 3) (own := [("number", 4)]) (g := gName 4) (tt := tYes) (te := tTup (tCons (tC (.str "thing")) (tCons (tVar 4) tNil))) rfl scItems.nd rfl rfl (sw_true rfl rfl rfl (by decide +kernel)) (pi_range1 rfl B.rng (pa_cons (pe_callB call_len_seq (by rfl) B.len PySem.boot_len (pa_cons (pe_fld (pv 0) rfl) pa_nil)) pa_nil))
        (blkOk_by (own := [("number", 4)]) (N := ["self", "boxes", "seals", "things", "number"]) (sc := defScope sItems) (by decide +kernel)) (fun _ _ _ _ _ => pg_name (i := 4) scItems.nd rfl (.inl rfl)) (fun _ _ _ _ _ => pts_nil) (fun _ _ _ _ _ => pe_tup (pa_cons pe_str (pa_cons (pv 4) pa_nil))))
      (pss_one (ps_ret (pe_op op_cat (pe_op op_cat (pv 1) (pv 2)) (pv 3)))))), ?_⟩
    obtain ⟨dx, vb, vt, vs, vst, h0, h1, h2, h3, h4⟩ := hh.ex
    obtain ⟨ab, xb, rfl, qb, db, lb⟩ := pls_at h1
    obtain ⟨at', xt, rfl, qt, dt, lt⟩ := pls_at h2
    obtain ⟨as, xs, rfl, qs, ds, ls⟩ := pls_at h3
    have nn : ∀ n : Nat, ((n : Nat) : Int).toNat = n := fun n => by omega
    refine ⟨_, rfl, h, C, dx, _, .ref ab, rfl, h0, T.cl, T.nB, fs_boxes _ _ _ _ _, _, _, rfl, .inr qb, _, rfl, by omega, by omega, fun D1 hD1 => ?_⟩
    rw [nn]
    refine lc_kind (K := K) "box" xb.length 4 (show 4 < 5 by decide) (by omega) hD1 fun Ha ys1 e1 hy1 dy1 => ?_
    refine ⟨_, rfl, h, C, dx, _, .ref as, rfl, e1 _ _ h0, T.cl, T.nS, fs_seals _ _ _ _ _, _, _, rfl, .inr (SqT.same e1 qs), _, rfl, by omega, by omega, fun D2 hD2 => ?_⟩
    rw [nn]
    refine lc_kind (K := K) "seal" xs.length 4 (show 4 < 5 by decide) (by omega) hD2 fun Hb ys2 e2 hy2 dy2 => ?_
    refine ⟨_, rfl, h, C, dx, _, .ref at', rfl, e2 _ _ (e1 _ _ h0), T.cl, T.nT, fs_things _ _ _ _ _, _, _, rfl, .inr (SqT.same (e1.trans e2) qt), _, rfl, by omega, by omega, fun D3 hD3 => ?_⟩
    rw [nn]
    refine lc_kind (K := K) "thing" xt.length 4 (show 4 < 5 by decide) (by omega) hD3 fun Hc ys3 e3 hy3 dy3 => ?_
    have y1 := e3 _ _ (e2 _ _ hy1)
    have y2 := e3 _ _ hy2
    have b1 : ys1.length = xb.length := by rw [DpAll.len dy1]; simp [kindD]
    have b2 : ys2.length = xs.length := by rw [DpAll.len dy2]; simp [kindD]
    have b3 : ys3.length = xt.length := by rw [DpAll.len dy3]; simp [kindD]
    refine ⟨_, rfl, _, rfl, D1, D2, ys1, ys2, rfl, rfl, y1, y2, by rw [sizeLine_eq]; omega, fun p hp => ?_⟩
    have e4 : Same Hc (upd Hc p (.lst (ys1 ++ ys2))) := same_upd hp
    refine ⟨_, rfl, p, D3, _, ys3, rfl, rfl, upd_same, e4 _ _ hy3, by rw [List.length_append, sizeLine_eq]; omega, fun q hq => ?_⟩
    have e5 : Same Hc (upd (upd Hc p (.lst (ys1 ++ ys2))) q (.lst (ys1 ++ ys2 ++ ys3))) := Same.upd2 e4 hq
    have e6 := ((e1.trans e2).trans e3).trans e5
    have eq : (allI d).map itP = (kindD "box" xb.length ++ kindD "seal" xs.length) ++ kindD "thing" xt.length := by
      unfold allI
      rw [List.map_append, List.map_append, ← kindD_its, ← kindD_its, ← kindD_its, lb, ls, lt]
      rfl
    refine k q _ _ e6 ((((e1.trans e2).trans e3).trans e4).free hq) upd_same ?_
    rw [eq]
    refine DpAll.app (DpAll.app ?_ ?_) ?_
    · exact Dp.sames (e2.trans (e3.trans e5)) _ _ dy1
    · exact Dp.sames (e3.trans e5) _ _ dy2
    · exact Dp.sames e5 _ _ dy3
/-! ### _law_sight -/
def spSight (K : PySem.W.Frag) (C : Addr) : Sp := fun vs H Q _ => ∃ (b l h : Addr) (v : V) (d0 d : Hs), vs = [.ref b, .ref h, v] ∧ BoxAt H b l ∧ HouseAt K C H h d0 ∧ Dp K H v (stD d) ∧ Shp d0 d ∧ HsOk d0 ∧ Wf d ∧
  ∀ y g H', Dp K H' y (sgD g) → SgV d g → BoxAt H' b l → Kb b l H H' → Q y H'
theorem scSight : FnScope ["_law_box", "_law_house_here", "_law_state", "_law_item", "_law_kind", "_law_number", "_law_place", "_law_sight_here"] ["_law_box", "_law_house_here", "_law_state"] (defScope sSight) := ⟨rfl, rfl, rfl, by decide +kernel, rfl, by decide +kernel, by decide +kernel⟩
structure ItF (P : Program) (w : World) (K : PySem.W.Frag) (mg : Str → Option Value) (base : Heap) (C p g : Addr) (fd : FuncData) : Prop where
  Pr : PropOf K C "all_items" p g
  I : FnOk P w K mg base CX0 1 g fd ["self"] (spItemsA K C)
  b : Binds K fd ["self"] []
theorem noL_sg : ∀ g : Sg, noL (sgD g) = true
  | .loc p q => rfl
  | .bare b => rfl
  | .inn b l => by
    have : noLs (l.map itP) = true := noLs_map itP (fun _ => rfl) l
    simp [sgD, sgT, itsD, noL, noLs, this]
  | .gone b => rfl
  | .nt g => by
    have : noL (sgD g) = true := noL_sg g
    unfold sgD at this
    simp [sgD, sgT, noL, noLs] at this ⊢
    exact this
theorem ok_sight {f gT gP gW gI gN pI C : Addr} {fd fdT fdP fdW fdI fdN : FuncData} (F : Fun K "_law_sight" "_law_sight" sSight f fd) (B : Bt mg) (hc : HouseC K C) (GT : OnceF P w K mg base "_law_take" 1 ["_law_box", "_law_many"] spTake gT fdT)
    (GP : OnceF P w K mg base "_law_places" 2 ["_law_box", "_law_hands_here", "_law_many"] (spPlaces K) gP fdP) (GW : OnceF P w K mg base "_law_where" 1 ["_law_state", "_law_item"] (spWhere K) gW fdW) (GN : OnceF P w K mg base "_law_inside" 1 ["_law_state", "_law_box"] (spInside K) gN fdN) (IT : ItF P w K mg base C pI gI fdI) :
    FnOk P w K mg base CX0 3 f fd ["_law_box", "_law_house_here", "_law_state"] (spSight K C) := by
  refine F.ok scSight (fun vs H Q E h => ?_) (fun cdv A outer s H vs Q E hr h => ?_)
  · obtain ⟨b, l, h, v, d0, d, rfl, _⟩ := h
    rfl
  · obtain ⟨b, l, h, v, d0, d, rfl, hB, hh, hv, sh, hok, wf, k⟩ := h
    have hr1 : Room 1 _ := hr.mono (by decide)
    have hr2 : Room 2 _ := hr
    have hu : (cxOf CX0 P w K mg base ["_law_box", "_law_house_here", "_law_state", "_law_item", "_law_kind", "_law_number", "_law_place", "_law_sight_here"] "_law_sight" (defScope sSight) f cdv A outer s H E).nox.A.units + 64 < cLine := by have := hr.un; show (A.deeper _).units + 64 < cLine; omega
    have L0 : Ls d0 := ⟨by have := hok.b1; omega, by have := hok.t1; omega, by have := hok.s1; omega⟩
    have L1 := sh.ls L0
    have rb : d0.bs.length = d.bs.length := sh.r .box
    have rt : d0.ts.length = d.ts.length := sh.r .thing
    have rs : d0.ss.length = d.ss.length := sh.r .sl
    have o1 := hok.b1
    have o2 := hok.b0
    have o3 := hok.t1
    have o4 := hok.s1
    have o5 := hok.h0
    have o6 := hok.h1
    refine ⟨_, (pss_cons (ps_set (i := 3) scSight.nd rfl (.inl rfl) (pe_ix ix_list (pe_prop (pv 1) hc.cl IT.Pr IT.I hr2 IT.b .nil pass0 rfl) (pe_call GT.G hr1 rfl GT.m GT.k GT.b .nil pass0 (pa_cons (pv 0) (pa_cons (pe_callB call_len_seq (by rfl) B.len PySem.boot_len (pa_cons (pe_prop (pv 1) hc.cl IT.Pr IT.I hr2 IT.b .nil pass0 rfl) pa_nil)) pa_nil))) (fun _ _ => rfl))) (pss_cons (ps_par (i := 4) (j := 5) rfl scSight.nd rfl rfl (by decide) rfl rfl (pa_cons (pe_call GT.G hr1 rfl GT.m GT.k GT.b .nil pass0 (pa_cons (pv 0) (pa_cons pe_int pa_nil))) (pa_cons (pe_call GT.G hr1 rfl GT.m GT.k GT.b .nil pass0 (pa_cons (pv 0) (pa_cons (pe_callB call_len_seq (by rfl) B.len PySem.boot_len (pa_cons (pe_fld (pv 1) rfl) pa_nil)) pa_nil))) pa_nil)) (by rfl)) (pss_cons (ps_if (pt_cmpR op_lt (pv 4) pe_int (nomark _)) (pss_cons (ps_set (i := 6) scSight.nd rfl (.inl rfl) (pe_call GP.G hr2 rfl GP.m GP.k GP.b .nil pass0 (pa_cons (pv 0) (pa_cons (pe_fld (pv 1) rfl) (pa_cons (pe_callB call_len_seq (by rfl) B.len PySem.boot_len (pa_cons (pe_fld (pv 1) rfl) pa_nil)) pa_nil))))) (pss_cons (ps_set (i := 6) scSight.nd rfl (.inl rfl) (pe_ifExp (pt_cmpR op_gt (pe_call GT.G hr1 rfl GT.m GT.k GT.b .nil pass0 (pa_cons (pv 0) (pa_cons pe_int pa_nil))) pe_int (nomark _)) (pe_call GW.G hr1 rfl GW.m GW.k GW.b .nil pass0 (pa_cons (pv 2) (pa_cons (pv 3) pa_nil))) (pv 6))) (pss_one (ps_set (i := 7) scSight.nd rfl (.inl rfl) (pe_ifExp (pt_cmpR (op_neD hu) (pv 6) (pe_tup (pa_cons pe_str (pa_cons pe_int pa_nil))) (nomark _)) (pe_tup (pa_cons pe_str (pa_cons (pv 3) (pa_cons (pv 6) pa_nil)))) (pe_tup (pa_cons pe_str (pa_cons (pe_ix ix_tup (pv 3) pe_int (fun _ _ => rfl)) pa_nil)))))))) (pss_one (ps_if (pt_cmpR op_eq (pv 4) pe_int (nomark _)) (pss_one (ps_set (i := 7) scSight.nd rfl (.inl rfl) (pe_tup (pa_cons pe_str (pa_cons (pv 5) pa_nil))))) (pss_one (ps_if (PW.pt (pw_and (pt_cmpR op_eq (pv 4) pe_int (nomark _)) (pw_and1 (pt_cmpR (op_neD hu) (pe_fld (pv 1) rfl) (pe_tup pa_nil) (nomark _))))) (pss_one (ps_set (i := 7) scSight.nd rfl (.inl rfl) (pe_tup (pa_cons pe_str (pa_cons (pe_call GT.G hr1 rfl GT.m GT.k GT.b .nil pass0 (pa_cons (pv 0) (pa_cons (pe_callB call_len_seq (by rfl) B.len PySem.boot_len (pa_cons (pe_fld (pv 1) rfl) pa_nil)) pa_nil))) pa_nil))))) (pss_one (ps_set (i := 7) scSight.nd rfl (.inl rfl) (pe_tup (pa_cons pe_str (pa_cons (pv 5) (pa_cons (pe_call GN.G hr1 rfl GN.m GN.k GN.b .nil pass0 (pa_cons (pv 2) (pa_cons (pv 5) pa_nil))) pa_nil))))))))))) (pss_one (ps_ret (pe_ifExp (pt_cmpR op_gt (pe_call GT.G hr1 rfl GT.m GT.k GT.b .nil pass0 (pa_cons (pv 0) (pa_cons pe_int pa_nil))) pe_int (nomark _)) (pv 7) (pe_tup (pa_cons pe_str (pa_cons (pv 7) pa_nil))))))))), ?_⟩
    have fin : ∀ (σ : L2.St) (H2 : Hp) (y : V) (g : Sg), σ[0]? = some (some (.ref b)) → σ[7]? = some (some y) → Dp K H2 y (sgD g) → depS g = 0 → SmS g → unkS d g = "" → BoxAt H2 b l → Kb b l H H2 →
        tIf (tTest (tOp (rI0 fun i j => .bl (decide (j < i))) (tCall spTake [] E0 (tCons (tVar 0) (tCons (tC (.int 4)) tNil))) (tC (.int 0)))) (tVar 7) (tTup (tCons (tC (.str ("not" : Str))) (tCons (tVar 7) tNil))) σ H2 Q := by
      intro σ H2 y g h0 h7 dy dg sm un hB2 k2
      refine ⟨_, h0, b, l, 4, rfl, by omega, by omega, hB2, fun r H3 r0 r1 hB3 k3 => ⟨_, _, rfl, rfl, _, rfl, ?_⟩⟩
      have dy3 := Dp.nl k3.nl _ _ (noL_sg g) dy
      refine ite_b _ (fun _ => ⟨_, h7, ?_⟩) (fun _ => ⟨_, h7, (by show 2 ≤ sizeLine; decide), fun t ht => ?_⟩)
      · exact k y g H3 dy3 ⟨by omega, sm, un⟩ hB3 (k2.trans k3)
      · refine k (.ref t) (.nt g) _ (.tup (SqT.of upd_same) (.cons (.str _) (.cons (Dp.same (same_upd ht) _ _ dy3) .nil))) ⟨?_, sm, ?_⟩ (hB3.upd ht) ((k2.trans k3).trans (Kb.same (same_upd ht)))
        · show depS g + 1 ≤ 1
          omega
        · unfold unkS
          exact un
    -- the item
    obtain ⟨dx, vb, vt, vs, vst, g0, g1, g2, g3, g4⟩ := hh.ex
    refine ⟨_, rfl, h, dx, _, rfl, g0, h, d0, rfl, hh, L0.b, L0.t, L0.s, fun p H1 xs e1 hpn hp1 dp1 => ?_⟩
    obtain ⟨pb, pl⟩ := hB.neL hpn
    refine ⟨_, rfl, _, rfl, h, dx, _, rfl, e1 _ _ g0, h, d0, rfl, hh.nl (nl_same e1), L0.b, L0.t, L0.s, fun p2 H2 xs2 e2 hpn2 hp2 dp2 => ?_⟩
    have lx : xs.length = (allI d0).length := by rw [DpAll.len dp1, List.length_map]
    have lx2 : xs2.length = (allI d0).length := by rw [DpAll.len dp2, List.length_map]
    have la := allI_len d0
    have e12 := e1.trans e2
    refine ⟨p2, xs2, rfl, .inl (SqL.of hp2), b, l, (xs2.length : Nat), rfl, by omega, by omega, hB.same e12, fun r H3 r0 r1 hB3 k3 => ?_⟩
    obtain ⟨n, rfl⟩ := nat_of r0
    have hn : n < (allI d0).length := by omega
    have hp3 := k3.kp.ls _ _ (e2 _ _ hp1) pb pl
    obtain ⟨it, hit⟩ : ∃ it, (allI d0)[n]? = some it := ⟨_, List.getElem?_eq_getElem hn⟩
    obtain ⟨vi, i1, i2⟩ := DpAll.at2 (Dp.sames e2 _ _ dp1) (i := n) (d := itP it) (by rw [List.getElem?_map, hit]; rfl)
    have i3 := Dp.nl k3.nl _ _ rfl i2
    have inh0 := allI_mem (List.mem_of_getElem? hit)
    have inh := (sh.inH it).mp inh0
    have k03 := (Kb.same e12).trans k3
    refine ⟨p, xs, (n : Nat), vi, rfl, rfl, SqL.of hp3, atI_nat i1, ?_⟩
    -- the kind, the number
    refine ⟨_, rfl, b, l, 5, rfl, by omega, by omega, hB3, fun kd H4 kd0 kd1 hB4 k4 => ?_⟩
    have k04 := k03.trans k4
    have hh4 := hh.nl k04.nl
    obtain ⟨dx4, vb4, vt4, vs4, vst4, q0, q1, q2, q3, q4⟩ := id hh4.ex
    obtain ⟨ab, xb, rfl, sb, db, lb⟩ := pls_at q1
    refine ⟨_, rfl, _, rfl, h, C, dx4, _, _, rfl, q0, hc.cl, hc.nB, fs_boxes _ _ _ _ _, ab, xb, rfl, .inr sb, b, l, (xb.length : Nat), rfl, by omega, by omega, hB4, fun nb H5 nb0 nb1 hB5 k5 => ⟨_, _, rfl, ?_⟩⟩
    have k05 := k04.trans k5
    have hh5 := hh.nl k05.nl
    have hv5 := Dp.nl k05.nl _ _ (noL_st d) hv
    have i5 := Dp.nl (k4.trans k5).nl _ _ rfl i3
    obtain ⟨m, rfl⟩ := nat_of nb0
    have hm : m < d.bs.length := by omega
    refine ⟨_, rfl, _, _, rfl, rfl, _, rfl, ?_⟩
    obtain ⟨dx5, vb5, vt5, vs5, vst5, w0, w1, w2, w3, w4⟩ := id hh5.ex
    by_cases c1 : kd < 2
    · refine iteTe (decide_eq_true c1) ?_
      obtain ⟨ab5, xb5, rfl, sb5, db5, lb5⟩ := pls_at w1
      refine ⟨_, rfl, _, rfl, h, C, dx5, _, _, rfl, w0, hc.cl, hc.nH, fs_hands _ _ _ _ _, _, rfl, h, C, dx5, _, _, rfl, w0, hc.cl, hc.nB, fs_boxes _ _ _ _ _, ab5, xb5, rfl, .inr sb5, b, l, d0.hands, (xb5.length : Nat), rfl, by omega, by omega, by omega, by omega, hB5, fun v6 q H6 dq okq hB6 k6 => ?_⟩
      have k06 := k05.trans k6
      obtain ⟨x1, x2, x3⟩ := plOk_at okq
      refine ⟨_, rfl, b, l, 3, rfl, by omega, by omega, hB6, fun r7 H7 r70 r71 hB7 k7 => ⟨_, _, rfl, rfl, _, rfl, ?_⟩⟩
      have k07 := k06.trans k7
      have hv7 := Dp.nl k07.nl _ _ (noL_st d) hv
      have i7 := Dp.nl (k6.trans k7).nl _ _ rfl i5
      obtain ⟨q0', hq0'⟩ := Option.isSome_iff_exists.mp (inH_where inh)
      have PK := wf.pl it.1 it.2 q0' hq0'
      -- the place that is told
      have go : ∀ (vp : V) (q' : Pl) (H8 : Hp), Dp K H8 vp (plD q') → Kb b l H H8 → BoxAt H8 b l → Dp K H8 vi (itP it) → PlOk d it.1 q' →
          ∀ (σ : L2.St), σ = [some (.ref b), some (.ref h), some v, some vi, some (.int kd), some (.int (m : Nat)), some vp, none] →
          tIf (tTest (tOp (rNeD K) (tVar 6) (tTup (tCons (tC (.str ("gone" : Str))) (tCons (tC (.int 0)) tNil))))) (tTup (tCons (tC (.str ("at" : Str))) (tCons (tVar 3) (tCons (tVar 6) tNil)))) (tTup (tCons (tC (.str ("gone" : Str))) (tCons (tOp (rIxT K) (tVar 3) (tC (.int 1))) tNil))) σ H8 fun y H9 =>
            tIf (tTest (tOp (rI0 fun i j => .bl (decide (j < i))) (tCall spTake [] E0 (tCons (tVar 0) (tCons (tC (.int 4)) tNil))) (tC (.int 0)))) (tVar 7) (tTup (tCons (tC (.str ("not" : Str))) (tCons (tVar 7) tNil))) (σ.set 7 (some y)) H9 Q := by
        intro vp q' H8 dq' k8 hB8 i8 pk σ hσ
        subst hσ
        refine ⟨_, rfl, (by show 2 ≤ sizeLine; decide), fun t ht => ?_⟩
        have f1 := same_upd (o := HO.tup [.str ("gone" : Str), .int 0]) ht
        refine ⟨plD q', plD (.gone, 0), Dp.same f1 _ _ dq', .tup (SqT.of upd_same) (.cons (.str _) (.cons (.int _) .nil)), shaped_pl _, shaped_pl _, _, rfl, ?_⟩
        rw [eqv_pl]
        obtain ⟨ai, rfl, si⟩ := it_at i8
        obtain ⟨p1, p2, p3⟩ := pk
        by_cases c : q' = (.gone, 0)
        · rw [decide_eq_true c]
          refine iteF ⟨_, rfl, ai, _, 1, _, rfl, rfl, SqT.same f1 si, rfl, (by show 2 ≤ sizeLine; decide), fun t2 ht2 => ?_⟩
          have f2 := same_upd (o := HO.tup [.str ("gone" : Str), .int (it.2 : Nat)]) ht2
          have ks : it.1 = .sl := (p3 (by rw [c])).1
          have hs : it.2 < d.ss.length := by
            have := inh
            unfold inH at this
            rw [ks] at this
            exact this
          refine fin _ _ (.ref t2) (.gone it.2) rfl rfl (.tup (SqT.of upd_same) (.cons (.str _) (.cons (.int _) .nil))) rfl ?_ ?_ ((hB8.same f1).upd ht2) (k8.trans (Kb.same (f1.trans f2)))
          · show it.2 ≤ 1000
            omega
          · unfold unkS
            rw [if_neg (by omega)]
        · rw [decide_eq_false c]
          refine iteT ⟨_, rfl, _, rfl, (by show 3 ≤ sizeLine; decide), fun t2 ht2 => ?_⟩
          have f2 := same_upd (o := HO.tup [.str ("at" : Str), .ref ai, vp]) ht2
          have ng : q'.1 ≠ .gone := fun z => c (Prod.ext z (p3 z).2)
          refine fin _ _ (.ref t2) (.loc it q') rfl rfl (.tup (SqT.of upd_same) (.cons (.str _) (.cons (Dp.same (f1.trans f2) _ _ i8) (.cons (Dp.same (f1.trans f2) _ _ dq') .nil)))) rfl ?_ ?_ ((hB8.same f1).upd ht2) (k8.trans (Kb.same (f1.trans f2)))
          · have li := inh
            unfold inH at li
            have lr := L1.row it.1
            refine ⟨by omega, ?_⟩
            cases hq : q'.1 with
            | hand => have := p1 hq; have := sh.h; omega
            | box => obtain ⟨j, e1, e2⟩ := p2 hq; omega
            | gone => exact absurd hq ng
          · unfold unkS
            rw [if_neg (fun z => z inh)]
            by_cases ch : q'.1 = .hand
            · rw [if_pos ch, if_neg (by have := p1 ch; omega)]
            · have cb : q'.1 = .box := by
                cases hq : q'.1 with
                | hand => exact absurd hq ch
                | box => rfl
                | gone => exact absurd hq ng
              obtain ⟨j, e1, e2⟩ := p2 cb
              rw [if_neg ch, if_neg (by omega)]
      refine ite_b _ (fun _ => ?_) (fun _ => ?_)
      · refine ⟨_, rfl, _, rfl, v, vi, d, it, q0', rfl, hv7, i7, hq0', fun v8 H8 e8 d8 => ?_⟩
        exact go v8 q0' H8 d8 (k07.trans (Kb.same e8)) (hB7.same e8) (Dp.same e8 _ _ i7) PK _ rfl
      · refine ⟨_, rfl, go v6 q H7 (Dp.nl k7.nl _ _ (noL_pl q) dq) k07 hB7 i7 ⟨fun z => by have := x1 z; have := sh.h; omega, fun z => ?_, fun z => absurd z x3⟩ _ rfl⟩
        have := x2 z
        exact ⟨q.2.toNat, by omega, by omega⟩
    refine iteFe (decide_eq_false c1) ⟨_, rfl, rfl, _, rfl, ?_⟩
    rw [decZ]
    by_cases c2 : kd = 2
    · rw [decide_eq_true c2]
      refine iteT ⟨_, rfl, (by show 2 ≤ sizeLine; decide), fun t ht => ?_⟩
      refine fin _ _ (.ref t) (.bare m) rfl rfl (.tup (SqT.of upd_same) (.cons (.str _) (.cons (.int _) .nil))) rfl ?_ ?_ (hB5.upd ht) (k05.trans (Kb.same (same_upd ht)))
      · show m ≤ 1000
        omega
      · unfold unkS
        rw [if_neg (by omega)]
    rw [decide_eq_false c2]
    refine iteF ⟨_, rfl, rfl, _, rfl, ?_⟩
    rw [decZ]
    by_cases c3 : kd = 3
    · rw [decide_eq_true c3]
      obtain ⟨as5, xs5, rfl, ss5, ds5, ls5⟩ := pls_at w3
      refine iteT ⟨_, rfl, h, C, dx5, _, _, rfl, w0, hc.cl, hc.nS, fs_seals _ _ _ _ _, (by show 0 ≤ sizeLine; decide), fun t ht => ?_⟩
      have f1 := same_upd (o := HO.tup []) ht
      refine ⟨plsD d0.ss, plsD [], Dp.same f1 _ _ w3, .tup (SqT.of upd_same) .nil, shaped_pls _, shaped_pls _, _, rfl, ?_⟩
      rw [eqv_pls]
      by_cases c4 : d0.ss = []
      · rw [decide_eq_true c4]
        refine iteF ⟨_, rfl, _, rfl, _, rfl, v, m, d, rfl, Dp.same (f1) _ _ hv5, L1, fun v7 H7 e7 d7 => ⟨(by show 3 ≤ sizeLine; decide), fun t3 ht3 => ?_⟩⟩
        refine fin _ _ (.ref t3) (.inn m (insideOf d m)) rfl rfl (.tup (SqT.of upd_same) (.cons (.str _) (.cons (.int _) (.cons (Dp.same (same_upd ht3) _ _ d7) .nil)))) rfl ?_ ?_ (((hB5.same (f1)).same e7).upd ht3) ((k05.trans (Kb.same (f1))).trans ((Kb.same e7).trans (Kb.same (same_upd ht3))))
        · have li := inside_len d m
          exact ⟨by omega, by omega, fun p' hp' => by have := inside_mem hp'; have := L1.row p'.1; omega⟩
        · unfold unkS
          rw [if_neg (by omega), if_pos (good_inside d m)]
      · rw [decide_eq_false c4]
        have l1 : 1 ≤ d0.ss.length := by
          cases hs : d0.ss with
          | nil => exact absurd hs c4
          | cons a r => simp
        refine iteT ⟨_, rfl, _, rfl, h, C, dx5, _, _, rfl, f1 _ _ w0, hc.cl, hc.nS, fs_seals _ _ _ _ _, as5, xs5, rfl, .inr (SqT.same f1 ss5), b, l, (xs5.length : Nat), rfl, by omega, by omega, hB5.same f1, fun s6 H6 s60 s61 hB6 k6 => ⟨(by show 2 ≤ sizeLine; decide), fun t3 ht3 => ?_⟩⟩
        obtain ⟨j, rfl⟩ := nat_of s60
        refine fin _ _ (.ref t3) (.gone j) rfl rfl (.tup (SqT.of upd_same) (.cons (.str _) (.cons (.int _) .nil))) rfl ?_ ?_ (hB6.upd ht3) ((k05.trans ((Kb.same f1).trans k6)).trans (Kb.same (same_upd ht3)))
        · show j ≤ 1000
          omega
        · unfold unkS
          rw [if_neg (by omega)]
    · rw [decide_eq_false c3]
      refine iteF ⟨_, rfl, _, rfl, _, rfl, v, m, d, rfl, Dp.same (Same.refl H5) _ _ hv5, L1, fun v7 H7 e7 d7 => ⟨(by show 3 ≤ sizeLine; decide), fun t3 ht3 => ?_⟩⟩
      refine fin _ _ (.ref t3) (.inn m (insideOf d m)) rfl rfl (.tup (SqT.of upd_same) (.cons (.str _) (.cons (.int _) (.cons (Dp.same (same_upd ht3) _ _ d7) .nil)))) rfl ?_ ?_ (((hB5.same (Same.refl H5)).same e7).upd ht3) ((k05.trans (Kb.same (Same.refl H5))).trans ((Kb.same e7).trans (Kb.same (same_upd ht3))))
      · have li := inside_len d m
        exact ⟨by omega, by omega, fun p' hp' => by have := inside_mem hp'; have := L1.row p'.1; omega⟩
      · unfold unkS
        rw [if_neg (by omega), if_pos (good_inside d m)]
end
end Kw


set_option Elab.async false
set_option linter.all false
set_option maxRecDepth 100000
set_option maxHeartbeats 4000000
namespace Kw
open PySem PySem.Spec PyProof.Rows L2
theorem by_cont {T : VK → Prop} {Q : VK} (PP : V → Hp → Prop) (h : ∀ Q' : VK, (∀ x H', PP x H' → Q' x H') → T Q') (k : ∀ x H', PP x H' → Q x H') : T Q := h Q k
theorem nx_by {D : Ends} {σ : L2.St} {H : Hp} (h : D.nx σ H) : tNext D σ H := h
theorem seq_by {a b : TS} {D : Ends} {σ : L2.St} {H : Hp} (h : a { D with nx := b D } σ H) : tSeq a b D σ H := h
theorem asg_by {te : TE} {g : TG} {D : Ends} {σ : L2.St} {H : Hp} (h : te σ H fun x H1 => g x σ H1 D.nx) : tAsg te g D σ H := h
theorem good_nil (d : Hs) : GoodI d [] := fun i p e => by simp at e
theorem shaped_itsL (ps : List It) : SeqAt.shaped (.list (ps.map itP)) = true := by
  have h1 := lay_its ps
  have h2 := depth_its ps
  simp [SeqAt.shaped, PyData.canLay0, PyData.depth, h1]
  omega
theorem eqv_itsL (l m : List It) : PyData.eqv (.list (l.map itP)) (.list (m.map itP)) = decide (l = m) := eqv_its l m
theorem any_it (p : It) : ∀ l : List It, ((l.map itP).any fun z => PyData.eqv z (itP p)) = l.any fun q => decide (q = p)
  | [] => rfl
  | a :: l => by
    rw [List.map_cons, List.any_cons, List.any_cons, any_it p l, eqv_it]
section
variable {P : Program} {w : World} {K : PySem.W.Frag} {mg : Str → Option Value} {base : Heap}
def spUnkS (K : PySem.W.Frag) (C : Addr) (n : Nat) : Sp := fun vs H Q _ => ∃ (h : Addr) (y : V) (g : Sg) (d : Hs), vs = [.ref h, y] ∧ depS g < n ∧ HouseAt K C H h d ∧ Dp K H y (sgD g) ∧ SmS g ∧ ∀ H', Same H H' → Q (.str (unkS d g)) H'
end
end Kw


set_option Elab.async false
set_option linter.all false
set_option maxRecDepth 100000
set_option maxHeartbeats 4000000
namespace Kw
open PySem PySem.Spec PyProof.Rows L2
/-- a hand that exists, behind a lesser one -/
def okH (n : Int) (zs : List Int) (i : Nat) : Prop := ∀ z, zs[i]? = some z → numOk z n = true ∧ ∀ z', 0 < i → zs[i - 1]? = some z' → z' < z
/-! ### rows of logs -/
inductive Rw where
  | gap (zs : List Int)
  | deed (e : Dd)
  | sight (g : Sg)
def intsD (zs : List Int) : PyData := .tuple (zs.map .int)
def rwD : Rw → PyData
  | .gap zs => .tuple [.str "gap", intsD zs]
  | .deed e => ddD e
  | .sight g => sgD g
/-- a row that can be by itself -/
def okR (d : Hs) : Rw → Prop
  | .gap zs => ∀ i, okH d.hands zs i
  | .deed e => unkOf d e = ""
  | .sight g => unkS d g = ""
def SmR : Rw → Prop
  | .gap zs => zs.length ≤ 100
  | .deed e => Sm e
  | .sight g => SmS g ∧ depS g < 2
theorem ints_at {K : PySem.W.Frag} {H : Hp} : ∀ {xs : List V} {zs : List Int}, DpAll K H xs (zs.map PyData.int) → xs = zs.map V.int
  | _, [], .nil => rfl
  | _, z :: zs, .cons h t => by
    cases h
    rw [ints_at (zs := zs) t]
    rfl
theorem noLs_ints : ∀ zs : List Int, noLs (zs.map PyData.int) = true
  | [] => rfl
  | z :: zs => by
    show (noL (.int z) && noLs (zs.map PyData.int)) = true
    rw [noLs_ints zs]
    rfl
theorem noL_rw : ∀ r : Rw, noL (rwD r) = true
  | .gap zs => by
    show (noL (.str "gap") && (noLs (zs.map PyData.int) && true)) = true
    rw [noLs_ints]
    rfl
  | .deed e => noL_dd e
  | .sight g => noL_sg g
theorem noLs_rw : ∀ rs : List Rw, noLs (rs.map rwD) = true := fun rs => noLs_map rwD noL_rw rs
/-- what a story's rows are -/
def RwOk (d : Hs) (r : Rw) : Prop := okR d r ∧ SmR r
def hsZ (hs : List Nat) : List Int := hs.map fun (h : Nat) => (h : Int)
theorem hsZ_V (hs : List Nat) : (hsZ hs).map V.int = nV hs := by
  unfold hsZ nV
  rw [List.map_map]
  rfl
theorem okH_of {n : Int} {hs : List Nat} (h1 : ∀ u ∈ hs, (u : Int) < n) (h2 : hs.Pairwise (· < ·)) : ∀ i, okH n (hsZ hs) i := by
  intro i z hz
  unfold hsZ at hz
  rw [List.getElem?_map] at hz
  cases e : hs[i]? with
  | none => rw [e] at hz; cases hz
  | some u =>
    rw [e] at hz
    cases hz
    have um := List.mem_of_getElem? e
    refine ⟨numOk_of (by show (0 : Int) ≤ (u : Nat); omega) (h1 u um), fun z' h0 hz' => ?_⟩
    unfold hsZ at hz'
    rw [List.getElem?_map] at hz'
    cases e' : hs[i - 1]? with
    | none => rw [e'] at hz'; cases hz'
    | some u' =>
      rw [e'] at hz'
      cases hz'
      obtain ⟨i1, q1⟩ := List.getElem?_eq_some_iff.mp e
      obtain ⟨i2, q2⟩ := List.getElem?_eq_some_iff.mp e'
      have := List.pairwise_iff_getElem.mp h2 (i - 1) i i2 i1 (by omega)
      rw [q1, q2] at this
      show (u' : Int) < (u : Int)
      omega
theorem not_le_of {a b : Int} (h : a < b) : ¬ b ≤ a := by omega
theorem unk_of {d : Hs} {e : Dd} (kn : Kn d e) (hb : Hb d e) : unkOf d e = "" := by
  have wl : ∀ {p : It}, (whereD d p).isSome = true → inH d p := fun {p} h => by
    obtain ⟨q, hq⟩ := Option.isSome_iff_exists.mp h
    exact where_lt hq
  have hh : ∀ e : Dd, Kn d e → Hb d e → ¬ d.hands ≤ (e.hand : Nat) := fun e _ hb => by
    cases e with
    | give h p o => exact not_le_of hb.1
    | put h p b => exact not_le_of hb.1
    | take h p b => exact not_le_of hb.1
    | lock h b s => exact not_le_of hb
    | brk h b => exact not_le_of hb
  unfold unkOf
  rw [if_neg (hh e kn hb)]
  have no : ∀ {p : It} {q : Prop}, (whereD d p).isSome = true → ¬ q → ¬ (¬ inH d p ∨ q) := fun {p q} h1 h2 z => by
    rcases z with z | z
    · exact z (wl h1)
    · exact h2 z
  cases e with
  | give h p o =>
    have n1 : ¬ (d.hands ≤ (o : Nat) ∨ o = h) := fun z => by
      rcases z with z | z
      · exact not_le_of hb.2.1 z
      · exact hb.2.2 z
    exact (if_neg (fun z => z (wl kn))).trans (if_neg n1)
  | put h p b =>
    have h2 : b < d.bs.length := kn.2
    exact (if_neg (no kn.1 hb.2.2)).trans ((if_neg (by omega)).trans (if_neg hb.2.1))
  | take h p b =>
    have h2 : b < d.bs.length := kn.2
    exact (if_neg (no kn.1 hb.2.2)).trans ((if_neg (by omega)).trans (if_neg hb.2.1))
  | lock h b s =>
    have h2 : b < d.bs.length := kn.1
    have h3 : s < d.ss.length := kn.2
    exact (if_neg (by omega)).trans (if_neg (by omega))
  | brk h b =>
    have h2 : b < d.bs.length := kn
    exact if_neg (by omega)
end Kw

set_option Elab.async false
set_option linter.all false
set_option maxRecDepth 100000
set_option maxHeartbeats 4000000
namespace Kw
open PySem PySem.Spec PyProof.Rows L2
theorem seq_cont {t u : TS} {D : Ends} {σ : L2.St} {H : Hp} (PP : L2.St → Hp → Prop) (h : ∀ D' : Ends, (∀ σ' H', PP σ' H' → D'.nx σ' H') → t D' σ H) (k : ∀ σ' H', PP σ' H' → u D σ' H') : tSeq t u D σ H := h _ k
theorem ifs_by {c : TT} {t u : TS} {D : Ends} {σ : L2.St} {H : Hp} (PP : Bool → Hp → Prop) (h : ∀ Q' : Bool → Hp → Prop, (∀ b H', PP b H' → Q' b H') → c σ H Q') (k1 : ∀ H', PP true H' → t D σ H') (k2 : ∀ H', PP false H' → u D σ H') : tIfS c t u D σ H :=
  h _ fun b H' p => by
    cases b with
    | true => exact k1 H' p
    | false => exact k2 H' p
theorem at_last {α : Type} (xs : List α) (x : α) : atI (xs ++ [x]) (-1) = some x := by
  unfold atI ixN
  rw [if_neg (by omega), if_pos (by rw [List.length_append]; simp; omega), List.length_append]
  show (xs ++ [x])[((-1 : Int) + ((xs.length + [x].length : Nat) : Int)).toNat]? = some x
  rw [show ((-1 : Int) + ((xs.length + [x].length : Nat) : Int)).toNat = xs.length by simp; omega, List.getElem?_append_right (Nat.le_refl _), Nat.sub_self]
  rfl
theorem HsOk.ls {d : Hs} (h : HsOk d) : Ls d := ⟨by have := h.b1; omega, by have := h.t1; omega, by have := h.s1; omega⟩
theorem shaped_dds (es : List Dd) : SeqAt.shaped (.list (es.map ddD)) = true := by
  have go : ∀ l : List Dd, PyData.canLayAll0 (l.map ddD) = true := by
    intro l
    induction l with
    | nil => rfl
    | cons a r ih =>
      show (PyData.canLay0 (ddD a) && PyData.canLayAll0 (r.map ddD)) = true
      rw [ih, (sd_dd a).lay]
      rfl
  have hd : ∀ l : List Dd, PyData.depthAll (l.map ddD) ≤ 10 := by
    intro l
    induction l with
    | nil => exact Nat.zero_le _
    | cons a r ih =>
      have h1 := (sd_dd a).dep
      show max (PyData.depth (ddD a)) (PyData.depthAll (r.map ddD)) ≤ 10
      omega
  have h1 := hd es
  simp [SeqAt.shaped, PyData.canLay0, PyData.depth, go es]
  omega
theorem rg_nV (n : Nat) : rgV 0 (n : Int) = nV (List.range n) := by
  unfold rgV nV
  rw [show ((n : Int) - 0).toNat = n by omega]
  refine List.map_congr_left fun i _ => ?_
  rw [Int.zero_add]
theorem Kb.fresh {b l : Addr} {H0 H : Hp} {Z : Addr} (k : Kb b l H0 H) (hB : BoxAt H b l) (hZ : H Z = none) : H0 Z = none := by
  obtain ⟨n1, n2⟩ := hB.neL hZ
  cases h : H0 Z with
  | none => rfl
  | some o =>
    by_cases c1 : ∃ xs, o = .lst xs
    · obtain ⟨xs, rfl⟩ := c1
      have := k.kp.ls _ _ h n1 n2
      rw [hZ] at this
      cases this
    · by_cases c2 : ∃ ps, o = .tbl ps
      · obtain ⟨ps, rfl⟩ := c2
        have := k.tb _ _ h
        rw [hZ] at this
        cases this
      · have := k.kp.nl _ _ h (fun xs z => c1 ⟨xs, z⟩) (fun ps z => c2 ⟨ps, z⟩)
        rw [hZ] at this
        cases this
/-- what a story keeps -/
structure SI (K : PySem.W.Frag) (C b l h R M S : Addr) (d0 : Hs) (H0 : Hp) (n nr : Nat) (v : V) (d : Hs) (H : Hp) : Prop where
  bx : BoxAt H b l
  hh : HouseAt K C H h d0
  st : StF K H v d
  sh : Shp d0 d
  wf : Wf d
  kb : Kb b l H0 H
  r : ∃ (xs : List V) (rs : List Rw), H R = some (.lst xs) ∧ DpAll K H xs (rs.map rwD) ∧ xs.length = nr ∧ ∀ r ∈ rs, RwOk d0 r
  m : ∃ xs, H M = some (.lst xs) ∧ xs.length ≤ n
  s : ∃ xs, H S = some (.lst xs) ∧ xs.length ≤ n
/-- addresses apart -/
structure SA (b l R M S : Addr) (H0 : Hp) : Prop where
  r0 : H0 R = none
  m0 : H0 M = none
  s0 : H0 S = none
  rb : R ≠ b ∧ R ≠ l
  mb : M ≠ b ∧ M ≠ l
  sb : S ≠ b ∧ S ≠ l
  rm : R ≠ M
  rs : R ≠ S
  ms : M ≠ S
section
variable {K : PySem.W.Frag} {C b l h R M S : Addr} {d0 d : Hs} {H0 H H' : Hp} {n nr : Nat} {v : V}
theorem SI.keep (a : SA b l R M S H0) (k : Kb b l H H') (hB : BoxAt H' b l) (x : SI K C b l h R M S d0 H0 n nr v d H) : SI K C b l h R M S d0 H0 n nr v d H' := by
  obtain ⟨r, rs, r1, r2, r3, r4⟩ := x.r
  obtain ⟨m, m1, m2⟩ := x.m
  obtain ⟨s, s1, s2⟩ := x.s
  exact ⟨hB, x.hh.nl k.nl, x.st.nl k.nl, x.sh, x.wf, x.kb.trans k, ⟨r, rs, k.kp.ls _ _ r1 a.rb.1 a.rb.2, Dp.nls k.nl _ _ (noLs_rw rs) r2, r3, r4⟩, ⟨m, k.kp.ls _ _ m1 a.mb.1 a.mb.2, m2⟩, ⟨s, k.kp.ls _ _ s1 a.sb.1 a.sb.2, s2⟩⟩
theorem SI.same (a : SA b l R M S H0) (e : Same H H') (x : SI K C b l h R M S d0 H0 n nr v d H) : SI K C b l h R M S d0 H0 n nr v d H' := x.keep a (Kb.same e) (x.bx.same e)
/-- another list than that of rows -/
theorem SI.updM (a : SA b l R M S H0) {D : Addr} {xs ys : List V} (hD : H D = some (.lst xs)) (f : H0 D = none) (n1 : D ≠ b ∧ D ≠ l) (n2 : R ≠ D) (hy : ys.length ≤ n + 1) (x : SI K C b l h R M S d0 H0 n nr v d H) : SI K C b l h R M S d0 H0 (n + 1) nr v d (L2.upd H D (.lst ys)) := by
  have k := nl_updL (ys := ys) hD
  have one : ∀ Z, (∃ zs, H Z = some (.lst zs) ∧ zs.length ≤ n) → ∃ zs, (L2.upd H D (.lst ys)) Z = some (.lst zs) ∧ zs.length ≤ n + 1 := fun Z ⟨zs, z1, z2⟩ => by
    by_cases c : Z = D
    · subst c
      exact ⟨ys, upd_same, hy⟩
    · exact ⟨zs, by rw [upd_ne c]; exact z1, by omega⟩
  obtain ⟨r, rs, r1, r2, r3, r4⟩ := x.r
  exact ⟨x.bx.updD n1.1 n1.2, x.hh.nl k, x.st.nl k, x.sh, x.wf, x.kb.updD f, ⟨r, rs, by rw [upd_ne n2]; exact r1, Dp.nls k _ _ (noLs_rw rs) r2, r3, r4⟩, one _ x.m, one _ x.s⟩
theorem SI.updR (a : SA b l R M S H0) {xs : List V} {y : V} {r : Rw} (hD : H R = some (.lst xs)) (dy : Dp K H y (rwD r)) (ok : RwOk d0 r) (x : SI K C b l h R M S d0 H0 n nr v d H) : SI K C b l h R M S d0 H0 n (nr + 1) v d (L2.upd H R (.lst (xs ++ [y]))) := by
  have k := nl_updL (ys := xs ++ [y]) hD
  obtain ⟨z, rs, r1, r2, r3, r4⟩ := x.r
  rw [hD] at r1
  cases r1
  obtain ⟨m, m1, m2⟩ := x.m
  obtain ⟨s, s1, s2⟩ := x.s
  refine ⟨x.bx.updD a.rb.1 a.rb.2, x.hh.nl k, x.st.nl k, x.sh, x.wf, x.kb.updD a.r0, ⟨xs ++ [y], rs ++ [r], upd_same, ?_, by rw [List.length_append, r3]; rfl, fun q hq => ?_⟩, ⟨m, by rw [upd_ne a.rm.symm]; exact m1, m2⟩, ⟨s, by rw [upd_ne a.rs.symm]; exact s1, s2⟩⟩
  · rw [List.map_append]
    exact DpAll.app (Dp.nls k _ _ (noLs_rw rs) r2) (.cons (Dp.nl k _ _ (noL_rw r) dy) .nil)
  · rcases List.mem_append.mp hq with hq | hq
    · exact r4 q hq
    · rw [List.mem_singleton.mp hq]
      exact ok
theorem SI.updZ (a : SA b l R M S H0) {D : Addr} {xs ys : List V} (hD : H D = some (.lst xs)) (f : H0 D = none) (n1 : D ≠ b ∧ D ≠ l) (n2 : R ≠ D ∧ M ≠ D ∧ S ≠ D) (x : SI K C b l h R M S d0 H0 n nr v d H) : SI K C b l h R M S d0 H0 n nr v d (L2.upd H D (.lst ys)) := by
  have k := nl_updL (ys := ys) hD
  obtain ⟨r, rs, r1, r2, r3, r4⟩ := x.r
  obtain ⟨m, m1, m2⟩ := x.m
  obtain ⟨s, s1, s2⟩ := x.s
  exact ⟨x.bx.updD n1.1 n1.2, x.hh.nl k, x.st.nl k, x.sh, x.wf, x.kb.updD f, ⟨r, rs, by rw [upd_ne n2.1]; exact r1, Dp.nls k _ _ (noLs_rw rs) r2, r3, r4⟩, ⟨m, by rw [upd_ne n2.2.1]; exact m1, m2⟩, ⟨s, by rw [upd_ne n2.2.2]; exact s1, s2⟩⟩
theorem SI.next {e : Dd} {v' : V} (x : SI K C b l h R M S d0 H0 n nr v d H) (st : StF K H v' (nextOf d e)) (kn : Kn d e) (hb : Hb d e) (br : barOf d e = "") : SI K C b l h R M S d0 H0 n nr v' (nextOf d e) H :=
  ⟨x.bx, x.hh, st, x.sh.trans (Shp.next d e), x.wf.next kn hb br, x.kb, x.r, x.m, x.s⟩
theorem SI.more (x : SI K C b l h R M S d0 H0 n nr v d H) {n' : Nat} (hn : n ≤ n') : SI K C b l h R M S d0 H0 n' nr v d H := by
  obtain ⟨m, m1, m2⟩ := x.m
  obtain ⟨s, s1, s2⟩ := x.s
  exact ⟨x.bx, x.hh, x.st, x.sh, x.wf, x.kb, x.r, ⟨m, m1, by omega⟩, ⟨s, s1, by omega⟩⟩
end
section
variable {P : Program} {w : World} {K : PySem.W.Frag} {mg : Str → Option Value} {base : Heap}
theorem dds_allK {d : Hs} {H : Hp} : ∀ {xs : List V}, (∀ v ∈ xs, DdV K d v H) → ∃ es : List Dd, DpAll K H xs (es.map ddD)
  | [], _ => ⟨[], .nil⟩
  | x :: xs, h => by
    obtain ⟨es, he⟩ := dds_allK (xs := xs) fun v hv => h v (List.mem_cons_of_mem _ hv)
    obtain ⟨e, h1, _⟩ := h x (List.mem_cons_self ..)
    exact ⟨e :: es, .cons h1 he⟩
def spStory (K : PySem.W.Frag) (C : Addr) : Sp := fun vs H Q _ => ∃ (b l h : Addr) (many sec : Int) (d0 : Hs), vs = [.ref b, .ref h, .int many, .int sec] ∧ 0 ≤ many ∧ many ≤ 20 ∧ 0 ≤ sec ∧ sec ≤ 10 ∧ BoxAt H b l ∧ HouseAt K C H h d0 ∧ HouseF K C H h d0 ∧ HsOk d0 ∧
  ∀ (t R : Addr) (r2 r3 : V) (xs : List V) (rs : List Rw) H', SqT K H' t [.ref R, r2, r3] → H R = none → H' R = some (.lst xs) → DpAll K H' xs (rs.map rwD) → xs.length = many.toNat → (∀ r ∈ rs, RwOk d0 r) → BoxAt H' b l → Kb b l H H' → Q (.ref t) H'
theorem scStory : FnScope ["_law_box", "_law_house_here", "_law_many", "_law_secret", "_law_state", "_law_rows", "_law_course", "_law_states", "_law_turn", "_law_kind", "_law_deeds_here", "_law_hands_here", "_law_step", "_law_sight_here"] ["_law_box", "_law_house_here", "_law_many", "_law_secret"] (defScope sStory) := ⟨rfl, rfl, rfl, by decide +kernel, rfl, by decide +kernel, by decide +kernel⟩
theorem ok_story {f gT gD gN gH gS gI C : Addr} {fd fdT fdD fdN fdH fdS fdI : FuncData} (F : Fun K "_law_story" "_law_story" sStory f fd) (B : Bt mg) (hc : HouseC K C) (GT : OnceF P w K mg base "_law_take" 1 ["_law_box", "_law_many"] spTake gT fdT)
    (GD : OnceF P w K mg base "_law_deeds" 3 ["_law_state", "_law_hands_here"] (spDeeds K) gD fdD) (GE : OnceF P w K mg base "_law_deeds" 3 ["_law_state", "_law_hands_here"] (spDeedsT K) gD fdD) (GN : OnceF P w K mg base "_law_next" 2 ["_law_state", "_law_deed"] (spNext K) gN fdN)
    (GH : OnceF P w K mg base "_law_hands" 2 ["_law_box", "_law_house_here"] (spHands K C) gH fdH) (GS : OnceF P w K mg base "_law_sight" 3 ["_law_box", "_law_house_here", "_law_state"] (spSight K C) gS fdS) (GI : OnceF P w K mg base "_law_is" 3 ["_law_state", "_law_sight_here"] (spIs K 2) gI fdI) :
    FnOk P w K mg base CX0 4 f fd ["_law_box", "_law_house_here", "_law_many", "_law_secret"] (spStory K C) := by
  refine F.ok scStory (fun vs H Q E h => ?_) (fun cdv A outer s H vs Q E hr h => ?_)
  · obtain ⟨b, l, h, many, sec, d0, rfl, _⟩ := h
    rfl
  · obtain ⟨b, l, h, many, sec, d0, rfl, hm0, hm1, hs0, hs1, hB, hh, hF, hok, k⟩ := h
    have hr1 : Room 1 _ := hr.mono (by decide)
    have hr2 : Room 2 _ := hr.mono (by decide)
    have hr3 : Room 3 _ := hr
    have hu : (cxOf CX0 P w K mg base ["_law_box", "_law_house_here", "_law_many", "_law_secret", "_law_state", "_law_rows", "_law_course", "_law_states", "_law_turn", "_law_kind", "_law_deeds_here", "_law_hands_here", "_law_step", "_law_sight_here"] "_law_story" (defScope sStory) f cdv A outer s H E).nox.A.units + 64 < cLine := by have := hr.un; show (A.deeper _).units + 64 < cLine; omega
    refine ⟨_, (pss_cons (ps_asg (pe_tup (pa_cons (pe_fld (pv 1) rfl) (pa_cons (pe_lst pa_nil) (pa_cons (pe_lst pa_nil) (pa_cons (pe_lst (pa_cons (pe_fld (pv 1) rfl) pa_nil)) pa_nil))))) (pg_tup (by rfl) (pgs_cons (pg_name (i := 4) scStory.nd rfl (.inl rfl)) (pgs_cons (pg_name (i := 5) scStory.nd rfl (.inl rfl)) (pgs_cons (pg_name (i := 6) scStory.nd rfl (.inl rfl)) (pgs_cons (pg_name (i := 7) scStory.nd rfl (.inl rfl)) pgs_nil)))))) (pss_cons (ps_for PassesOwn.never rfl (pi_range1 rfl B.rng (pa_cons (pv 2) pa_nil)) (pg_name (i := 8) scStory.nd rfl (.inl rfl)) (pss_cons (ps_par (i := 9) (j := 10) rfl scStory.nd rfl rfl (by decide) rfl rfl (pa_cons (pe_call GT.G hr1 rfl GT.m GT.k GT.b .nil pass0 (pa_cons (pv 0) (pa_cons pe_int pa_nil))) (pa_cons (pe_call GD.G hr3 rfl GD.m GD.k GD.b .nil pass0 (pa_cons (pv 4) (pa_cons (pe_listRg rfl (by rfl) B.lst (prg_1 (by rfl) B.rng (pe_fld (pv 1) rfl))) pa_nil))) pa_nil)) (by rfl)) (pss_cons (ps_if (PW.pt (pw_and (pt_cmpR op_eq (pv 9) pe_int (nomark _)) (pw_and1 (pt_cmpR (op_neD hu) (pv 10) (pe_lst pa_nil) (nomark _))))) (pss_cons (ps_expr (pe_bm PySem.F.plainAttrs_list PySem.F.slot_list_append PySem.F.type_list_append mt_append (pv 5) (pa_cons (pe_ix ix_list (pv 10) (pe_call GT.G hr1 rfl GT.m GT.k GT.b .nil pass0 (pa_cons (pv 0) (pa_cons (pe_callB call_len_seq (by rfl) B.len PySem.boot_len (pa_cons (pv 10) pa_nil)) pa_nil))) (fun _ _ => rfl)) pa_nil))) (pss_one (ps_set (i := 4) scStory.nd rfl (.inl rfl) (pe_call GN.G hr2 rfl GN.m GN.k GN.b .nil pass0 (pa_cons (pv 4) (pa_cons (pe_ix ix_list (pv 5) (pe_un un_neg pe_int) (fun _ _ => rfl)) pa_nil)))))) (pss_one (ps_if (pt_cmpR op_eq (pv 9) pe_int (nomark _)) (pss_cons (ps_set (i := 11) scStory.nd rfl (.inl rfl) (pe_call GH.G hr2 rfl GH.m GH.k GH.b .nil pass0 (pa_cons (pv 0) (pa_cons (pv 1) pa_nil)))) (pss_cons (ps_expr (pe_bm PySem.F.plainAttrs_list PySem.F.slot_list_append PySem.F.type_list_append mt_append (pv 5) (pa_cons (pe_tup (pa_cons pe_str (pa_cons (pv 11) pa_nil))) pa_nil))) (pss_cons (ps_expr (pe_bm PySem.F.plainAttrs_list PySem.F.slot_list_append PySem.F.type_list_append mt_append (pv 6) (pa_cons (pe_lst pa_nil) pa_nil))) (pss_one (ps_for PassesOwn.never rfl (pi_range1 rfl B.rng (pa_cons (pe_call GT.G hr1 rfl GT.m GT.k GT.b .nil pass0 (pa_cons (pv 0) (pa_cons (pe_op op_add (pv 3) pe_int) pa_nil))) pa_nil)) (pg_name (i := 12) scStory.nd rfl (.inl rfl)) (pss_cons (ps_set (i := 10) scStory.nd rfl (.inl rfl) (pe_call GE.G hr3 rfl GE.m GE.k GE.b .nil pass0 (pa_cons (pv 4) (pa_cons (pv 11) pa_nil)))) (pss_one (ps_if (pt_cmpR (op_neD hu) (pv 10) (pe_lst pa_nil) (nomark _)) (pss_cons (ps_expr (pe_bm PySem.F.plainAttrs_list PySem.F.slot_list_append PySem.F.type_list_append mt_append (pe_ix ix_list (pv 6) (pe_un un_neg pe_int) (fun _ _ => rfl)) (pa_cons (pe_ix ix_list (pv 10) (pe_call GT.G hr1 rfl GT.m GT.k GT.b .nil pass0 (pa_cons (pv 0) (pa_cons (pe_callB call_len_seq (by rfl) B.len PySem.boot_len (pa_cons (pv 10) pa_nil)) pa_nil))) (fun _ _ => rfl)) pa_nil))) (pss_one (ps_set (i := 4) scStory.nd rfl (.inl rfl) (pe_call GN.G hr2 rfl GN.m GN.k GN.b .nil pass0 (pa_cons (pv 4) (pa_cons (pe_ix ix_list (pe_ix ix_list (pv 6) (pe_un un_neg pe_int) (fun _ _ => rfl)) (pe_un un_neg pe_int) (fun _ _ => rfl)) pa_nil)))))) pss_nil)))))))) (pss_cons (ps_set (i := 13) scStory.nd rfl (.inl rfl) (pe_call GS.G hr3 rfl GS.m GS.k GS.b .nil pass0 (pa_cons (pv 0) (pa_cons (pv 1) (pa_cons (pv 4) pa_nil))))) (pss_one (ps_expr (pe_bm PySem.F.plainAttrs_list PySem.F.slot_list_append PySem.F.type_list_append mt_append (pv 5) (pa_cons (pe_ifExp (pt_val (pe_call GI.G hr3 rfl GI.m GI.k GI.b .nil pass0 (pa_cons (pv 4) (pa_cons (pv 13) pa_nil)))) (pv 13) (pe_ifExp (pt_cmpR op_eq (pe_ix ix_tup (pv 13) pe_int (fun _ _ => rfl)) pe_str (nomark _)) (pe_ix ix_tup (pv 13) pe_int (fun _ _ => rfl)) (pe_tup (pa_cons pe_str (pa_cons (pv 13) pa_nil))))) pa_nil)))))))) (pss_one (ps_expr (pe_bm PySem.F.plainAttrs_list PySem.F.slot_list_append PySem.F.type_list_append mt_append (pv 7) (pa_cons (pv 4) pa_nil))))))) (pss_one (ps_ret (pe_tup (pa_cons (pv 5) (pa_cons (pv 6) (pa_cons (pv 7) pa_nil)))))))), ?_⟩
    have hL0 := hok.ls
    have o1 := hok.b1
    have o3 := hok.t1
    have o4 := hok.s1
    have o5 := hok.h0
    have o6 := hok.h1
    obtain ⟨nh, hnh⟩ := nat_of (show 0 ≤ d0.hands by omega)
    obtain ⟨dx, vb, vt, vs, vst, g0, stf⟩ := id hF
    obtain ⟨dx1, vb1, vt1, vs1, vst1, g0', g1, g2, g3, g4⟩ := id hh.ex
    -- what is at first
    refine ⟨_, rfl, h, C, dx, _, _, rfl, g0, hc.cl, hc.nSt, fs_state _ _ _ _ _, (by show 0 ≤ sizeLine; decide), fun R hR => ⟨(by show 0 ≤ sizeLine; decide), fun M hM => ?_⟩⟩
    have f1 := same_upd (o := HO.lst []) hR
    have f2 := same_upd (o := HO.lst []) hM
    have f12 := f1.trans f2
    refine ⟨_, rfl, h, C, dx, _, _, rfl, f12 _ _ g0, hc.cl, hc.nSt, fs_state _ _ _ _ _, (by show 1 ≤ sizeLine; decide), fun S hS => ⟨(by show 4 ≤ sizeLine; decide), fun T hT => ?_⟩⟩
    have f3 := same_upd (o := HO.lst [vst]) hS
    have f4 := same_upd (o := HO.tup [vst, V.ref R, V.ref M, V.ref S]) hT
    have f13 := f12.trans f3
    have f14 := f13.trans f4
    have hR4 := (f2.trans (f3.trans f4)) _ _ (upd_same (H := H) (a := R) (o := HO.lst []))
    have hM4 := (f3.trans f4) _ _ (upd_same (H := L2.upd H R (.lst [])) (a := M) (o := HO.lst []))
    have hS4 := f4 _ _ (upd_same (H := L2.upd (L2.upd H R (.lst [])) M (.lst [])) (a := S) (o := HO.lst [vst]))
    have nRM : R ≠ M := ne_of_none upd_same hM
    have nRS : R ≠ S := ne_of_none (f2 _ _ upd_same) hS
    have nMS : M ≠ S := ne_of_none upd_same hS
    have hM0 : H M = none := (Kb.same (b := b) (l := l) f1).fresh (hB.same f1) hM
    have hS0 : H S = none := (Kb.same (b := b) (l := l) f12).fresh (hB.same f12) hS
    have A : SA b l R M S H := ⟨hR, hM0, hS0, hB.neL hR, hB.neL hM0, hB.neL hS0, nRM, nRS, nMS⟩
    have X0 : SI K C b l h R M S d0 H 1 0 vst d0 _ := ⟨hB.same f14, hh.nl (nl_same f14), stf.same f14, Shp.refl _, hok.wf, Kb.same f14, ⟨[], [], hR4, .nil, rfl, fun r hr => by cases hr⟩, ⟨[], hM4, by simp⟩, ⟨[vst], hS4, by simp⟩⟩
    have sT := SqT.of (K := K) (upd_same (H := L2.upd (L2.upd (L2.upd H R (.lst [])) M (.lst [])) S (.lst [vst])) (a := T) (o := HO.tup [vst, V.ref R, V.ref M, V.ref S]))
    generalize L2.upd (L2.upd (L2.upd (L2.upd H R (.lst [])) M (.lst [])) S (.lst [vst])) T (.tup [vst, V.ref R, V.ref M, V.ref S]) = H4 at *
    refine ⟨T, _, rfl, sT, rfl, _, _, rfl, _, _, rfl, _, _, rfl, _, _, rfl, rfl, ?_⟩
    refine ⟨_, rfl, many, rfl, by omega, by omega, ?_⟩
    refine for_range (lo := 0) (n := many.toNat) (fun i σ H' => ∃ (v : V) (d : Hs) (u8 u9 u10 u11 u12 u13 : Option V), σ = [some (.ref b), some (.ref h), some (.int many), some (.int sec), some v, some (.ref R), some (.ref M), some (.ref S), u8, u9, u10, u11, u12, u13] ∧ SI K C b l h R M S d0 H (1 + 3 * i) i v d H' ∧ ∃ ss, H' S = some (.lst ss) ∧ atI ss (-1) = some v)
      ⟨vst, d0, none, none, none, none, none, none, rfl, X0, [vst], hS4, rfl⟩ ?_ ?_
    · rintro i σ H1 hi ⟨v, d, u8, u9, u10, u11, u12, u13, rfl, X1, _⟩
      have hi' : i < 20 := by omega
      -- the kind, the deeds
      refine ⟨_, rfl, b, l, 4, rfl, by omega, by omega, X1.bx, fun kd H2 kd0 kd1 hB2 k2 => ?_⟩
      have X2 := X1.keep A k2 hB2
      obtain ⟨dx2, vb2, vt2, vs2, vst2, q0, _⟩ := id X2.hh.ex
      have rb : d0.bs.length = d.bs.length := X1.sh.r .box
      have rt : d0.ts.length = d.ts.length := X1.sh.r .thing
      have rs : d0.ss.length = d.ss.length := X1.sh.r .sl
      have rh := X1.sh.h
      refine ⟨_, rfl, _, rfl, h, C, dx2, _, _, rfl, q0, hc.cl, hc.nH, fs_hands _ _ _ _ _, d0.hands, rfl, RgOk.of_le (by omega) (by omega) (by omega) (by omega), fun qh hqh => ?_⟩
      have e1 := same_upd (o := HO.lst (rgV 0 d0.hands)) hqh
      refine ⟨v, qh, d, List.range nh, rfl, Dp.same e1 _ _ X2.st.dp, by rw [← rg_nV, ← hnh]; exact upd_same, by rw [List.length_range]; omega, fun u hu => by have := List.mem_range.mp hu; omega, by omega, by omega, by omega, by omega, fun p xs H3 e3 hpn hp lx rx => ⟨_, _, rfl, ?_⟩⟩
      have X3 := X2.same A (e1.trans e3)
      obtain ⟨pb, pl⟩ := (X2.bx.same e1).neL hpn
      dsimp only
      refine seq_cont (fun σ' H' => ∃ (v' : V) (d' : Hs) (w8 w9 w10 w11 w12 w13 : Option V), σ' = [some (.ref b), some (.ref h), some (.int many), some (.int sec), some v', some (.ref R), some (.ref M), some (.ref S), w8, w9, w10, w11, w12, w13] ∧ SI K C b l h R M S d0 H (1 + 3 * i + 2) (i + 1) v' d' H') (fun D' kD => ?_) ?_
      · refine ifs_by (fun b H' => Same H3 H' ∧ (b = true → xs ≠ [])) (fun Q' kq => ?_) (fun H4 p4 => ?_) (fun H4 p4 => ?_)
        · refine ⟨_, rfl, rfl, _, rfl, ?_⟩
          rw [decZ]
          by_cases c : kd = 0
          · rw [decide_eq_true c]
            refine iteT ⟨_, rfl, (by show 0 ≤ sizeLine; decide), fun q hq => ?_⟩
            have f5 := same_upd (o := HO.lst []) hq
            obtain ⟨es, hes⟩ := dds_allK rx
            refine ⟨.list (es.map ddD), .list [], .lst (SqL.of (f5 _ _ hp)) (Dp.sames f5 _ _ hes), .lst (SqL.of upd_same) .nil, shaped_dds es, rfl, _, rfl, kq _ _ ⟨f5, fun z ex => ?_⟩⟩
            have en : es = [] := List.eq_nil_of_length_eq_zero (by have := DpAll.len hes; rw [ex, List.length_map] at this; exact this.symm)
            subst en
            exact absurd (show (false : Bool) = true from z) (by decide)
          · rw [decide_eq_false c]
            exact iteF (kq _ _ ⟨Same.refl _, fun z => by cases z⟩)
        · -- a deed that is told
          obtain ⟨e4, ne⟩ := p4
          have ne := ne rfl
          have X4 := X3.same A e4
          have hp4 := e4 _ _ hp
          have l0 : 1 ≤ xs.length := by
            cases xs with
            | nil => exact absurd rfl ne
            | cons x r => simp
          obtain ⟨rs0, _, hr1', _⟩ := id X4.r
          refine ⟨_, rfl, .inl ⟨rfl, _, SqL.of hr1'⟩, _, rfl, _, rfl, _, rfl, p, xs, rfl, .inl (SqL.of hp4), b, l, (xs.length : Nat), rfl, by omega, by omega, X4.bx, fun r H5 r0 r1 hB5 k5 => ?_⟩
          obtain ⟨n5, rfl⟩ := nat_of r0
          have hn5 : n5 < xs.length := by omega
          have X5 := X4.keep A k5 hB5
          have hp5 := k5.kp.ls _ _ hp4 pb pl
          obtain ⟨ed, hd1, ⟨hd2, hd3, hd4⟩, hd5⟩ := ((rx _ (List.getElem_mem hn5)).nl (nl_same e4)).nl k5.nl
          obtain ⟨rs5, qs5, hr5, dr5, lr5, or5⟩ := id X5.r
          refine ⟨p, xs, (n5 : Nat), xs[n5], rfl, rfl, SqL.of hp5, atI_nat (List.getElem?_eq_getElem hn5), R, rs5, xs[n5], rfl, rfl, hr5, by rw [sizeLine_eq]; omega, ?_⟩
          have X6 := X5.updR A hr5 (r := .deed ed) hd1 ⟨(unk_shp X5.sh ed).trans (unk_of hd2 hd3), hd5⟩
          have k6 := nl_updL (ys := rs5 ++ [xs[n5]]) hr5
          refine ⟨_, rfl, _, rfl, 1, rfl, R, _, -1, xs[n5], rfl, rfl, SqL.of upd_same, at_last _ _, v, _, d, ed, rfl, X6.st, Dp.nl k6 _ _ (noL_dd ed) hd1, hd2, hd4, fun v' H7 e7 st7 => ?_⟩
          exact kD _ _ ⟨v', nextOf d ed, _, _, _, _, _, _, rfl, ((X6.same A e7).next st7 hd2 hd3 hd4).more (by omega)⟩
        obtain ⟨e4, _⟩ := p4
        have X4 := X3.same A e4
        refine ifs_by (fun b H' => H' = H4) (fun Q' kq => ?_) (fun H5 p5 => ?_) (fun H5 p5 => ?_)
        · refine ⟨_, rfl, rfl, _, rfl, ?_⟩
          exact kq _ _ rfl
        · -- a gap
          subst p5
          refine ⟨_, rfl, _, rfl, b, l, h, d0, rfl, X4.bx, X4.hh, by omega, by omega, fun th hs H6 sth lhs ohs phs hB6 k6 => ?_⟩
          have X6 := X4.keep A k6 hB6
          obtain ⟨rs6, qs6, hr6, dr6, lr6, or6⟩ := id X6.r
          refine ⟨_, rfl, .inl ⟨rfl, _, SqL.of hr6⟩, _, rfl, (by show 2 ≤ sizeLine; decide), fun tg htg => ?_⟩
          have f7 := same_upd (o := HO.tup [.str ("gap" : Str), .ref th]) htg
          refine ⟨R, rs6, .ref tg, rfl, rfl, f7 _ _ hr6, by rw [sizeLine_eq]; omega, ?_⟩
          have sth6 := SqT.same f7 sth
          have X7 := (X6.same A f7).updR A (f7 _ _ hr6) (y := .ref tg) (r := .gap (hsZ hs)) (.tup (SqT.of upd_same) (.cons (.str _) (.cons (.tup (by rw [hsZ_V]; exact sth6) (ints_all K _ _)) .nil))) ⟨okH_of ohs phs, by show (hsZ hs).length ≤ 100; unfold hsZ; rw [List.length_map]; omega⟩
          have sth7 := SqT.nl (nl_updL (ys := rs6 ++ [.ref tg]) (f7 _ _ hr6)) (SqT.same f7 sth)
          generalize L2.upd (L2.upd H6 tg (.tup [.str ("gap" : Str), .ref th])) R (.lst (rs6 ++ [.ref tg])) = H7 at *
          obtain ⟨ms7, hm7, lm7⟩ := id X7.m
          refine ⟨_, rfl, .inl ⟨rfl, _, SqL.of hm7⟩, (by show 0 ≤ sizeLine; decide), fun Z hZ => ?_⟩
          have f8 := same_upd (o := HO.lst []) hZ
          have Z0 : H Z = none := X7.kb.fresh X7.bx hZ
          have Zb := X7.bx.neL hZ
          have ZR : R ≠ Z ∧ M ≠ Z ∧ S ≠ Z := by
            obtain ⟨_, _, q1, _⟩ := id X7.r
            obtain ⟨_, q2, _⟩ := id X7.m
            obtain ⟨_, q3, _⟩ := id X7.s
            exact ⟨ne_of_none q1 hZ, ne_of_none q2 hZ, ne_of_none q3 hZ⟩
          refine ⟨M, ms7, .ref Z, rfl, rfl, f8 _ _ hm7, by rw [sizeLine_eq]; omega, ?_⟩
          have X8 := (X7.same A f8).updM A (f8 _ _ hm7) A.m0 A.mb A.rm (ys := ms7 ++ [.ref Z]) (by rw [List.length_append]; simp; omega)
          have sth8 := SqT.nl (nl_updL (ys := ms7 ++ [.ref Z]) (f8 _ _ hm7)) (SqT.same f8 sth7)
          have hZ8 : (L2.upd (L2.upd H7 Z (.lst [])) M (.lst (ms7 ++ [.ref Z]))) Z = some (.lst []) := by rw [upd_ne ZR.2.1.symm]; exact upd_same
          have hM8 : (L2.upd (L2.upd H7 Z (.lst [])) M (.lst (ms7 ++ [.ref Z]))) M = some (.lst (ms7 ++ [.ref Z])) := upd_same
          generalize L2.upd (L2.upd H7 Z (.lst [])) M (.lst (ms7 ++ [.ref Z])) = H8 at *
          refine ⟨_, rfl, _, rfl, _, _, rfl, rfl, b, l, sec + 1, rfl, by omega, by omega, X8.bx, fun nS H9 nS0 nS1 hB9 k9 => ⟨nS, rfl, by omega, by omega, ?_⟩⟩
          refine for_range (lo := 0) (n := nS.toNat) (fun j σ H' => ∃ (v : V) (d : Hs) (u8 u9 u10 u12 u13 : Option V), σ = [some (.ref b), some (.ref h), some (.int many), some (.int sec), some v, some (.ref R), some (.ref M), some (.ref S), u8, u9, u10, some (.ref th), u12, u13] ∧ SI K C b l h R M S d0 H (1 + 3 * i + 2) (i + 1) v d H' ∧ SqT K H' th (nV hs) ∧ (∃ zs, H' Z = some (.lst zs) ∧ zs.length ≤ j) ∧ H' M = some (.lst (ms7 ++ [.ref Z])))
            ⟨v, d, _, _, _, _, _, rfl, (X8.keep A k9 hB9).more (by omega), SqT.nl k9.nl sth8, ⟨[], k9.kp.ls _ _ hZ8 Zb.1 Zb.2, by simp⟩, k9.kp.ls _ _ hM8 A.mb.1 A.mb.2⟩ ?_ ?_
          · rintro j σ H10 hj ⟨v, d, u8, u9, u10, u12, u13, rfl, Y, sth10, ⟨zs, hz10, lz10⟩, hM10⟩
            have rb' : d0.bs.length = d.bs.length := Y.sh.r .box
            have rt' : d0.ts.length = d.ts.length := Y.sh.r .thing
            have rs' : d0.ss.length = d.ss.length := Y.sh.r .sl
            have rh' := Y.sh.h
            refine ⟨_, rfl, _, rfl, v, th, d, hs, rfl, Y.st.dp, sth10, lhs, fun u hu => by have := ohs u hu; omega, by omega, by omega, by omega, by omega, fun p xs H11 e11 hpn hp lx rx => ?_⟩
            obtain ⟨pb, pl⟩ := Y.bx.neL hpn
            have Y1 := Y.same A e11
            refine ⟨_, rfl, (by show 0 ≤ sizeLine; decide), fun q hq => ?_⟩
            have f12 := same_upd (o := HO.lst []) hq
            obtain ⟨es, hes⟩ := dds_allK rx
            refine ⟨.list (es.map ddD), .list [], .lst (SqL.of (f12 _ _ hp)) (Dp.sames f12 _ _ hes), .lst (SqL.of upd_same) .nil, shaped_dds es, rfl, _, rfl, ?_⟩
            have e12 := e11.trans f12
            have Y2 := Y.same A e12
            have hp12 := f12 _ _ hp
            have hz12 := e12 _ _ hz10
            have hM12 := e12 _ _ hM10
            have sth12 := SqT.same e12 sth10
            refine ite_b _ (fun cne => ?_) (fun _ => ?_)
            · have l0 : 1 ≤ xs.length := by
                cases xs with
                | nil =>
                  have en : es = [] := List.eq_nil_of_length_eq_zero (by have := DpAll.len hes; rw [List.length_map] at this; exact this.symm)
                  subst en
                  exact absurd (show (false : Bool) = true from cne) (by decide)
                | cons x r => simp
              refine ⟨_, rfl, 1, rfl, M, _, -1, .ref Z, rfl, rfl, SqL.of hM12, at_last _ _, .inl ⟨rfl, _, SqL.of hz12⟩, _, rfl, _, rfl, _, rfl, p, xs, rfl, .inl (SqL.of hp12), b, l, (xs.length : Nat), rfl, by omega, by omega, Y2.bx, fun r H13 r0 r1 hB13 k13 => ?_⟩
              obtain ⟨n5, rfl⟩ := nat_of r0
              have hn5 : n5 < xs.length := by omega
              have Y3 := Y2.keep A k13 hB13
              have hp13 := k13.kp.ls _ _ hp12 pb pl
              have hz13 := k13.kp.ls _ _ hz12 Zb.1 Zb.2
              have hM13 := k13.kp.ls _ _ hM12 A.mb.1 A.mb.2
              obtain ⟨ed, hd1, ⟨hd2, hd3, hd4⟩, hd5⟩ := ((rx _ (List.getElem_mem hn5)).nl (nl_same f12)).nl k13.nl
              refine ⟨p, xs, (n5 : Nat), xs[n5], rfl, rfl, SqL.of hp13, atI_nat (List.getElem?_eq_getElem hn5), Z, zs, xs[n5], rfl, rfl, hz13, by rw [sizeLine_eq]; omega, ?_⟩
              have Y4 := Y3.updZ A hz13 Z0 Zb ZR (ys := zs ++ [xs[n5]])
              have k14 := nl_updL (ys := zs ++ [xs[n5]]) hz13
              have hM14 : (L2.upd H13 Z (.lst (zs ++ [xs[n5]]))) M = some (.lst (ms7 ++ [.ref Z])) := by rw [upd_ne ZR.2.1]; exact hM13
              refine ⟨_, rfl, _, rfl, 1, rfl, M, _, -1, .ref Z, rfl, rfl, SqL.of hM14, at_last _ _, 1, rfl, Z, _, -1, xs[n5], rfl, rfl, SqL.of upd_same, at_last _ _, v, _, d, ed, rfl, Y4.st, Dp.nl k14 _ _ (noL_dd ed) hd1, hd2, hd4, fun v' H15 e15 st15 => ?_⟩
              exact ⟨v', nextOf d ed, _, _, _, _, _, rfl, (Y4.same A e15).next st15 hd2 hd3 hd4, SqT.same e15 (SqT.nl k14 (SqT.nl k13.nl sth12)), ⟨_, e15 _ _ upd_same, by rw [List.length_append]; simp; omega⟩, e15 _ _ hM14⟩
            · exact ⟨v, d, _, _, _, _, _, rfl, Y2, sth12, ⟨zs, hz12, by omega⟩, hM12⟩
          · rintro σ H10 ⟨v, d, u8, u9, u10, u12, u13, rfl, Y, _⟩
            exact kD _ _ ⟨v, d, _, _, _, _, _, _, rfl, Y⟩
        · -- a sight
          subst p5
          refine ⟨_, rfl, _, rfl, _, rfl, b, l, h, v, d0, d, rfl, X4.bx, X4.hh, X4.st.dp, X4.sh, hok, X4.wf, fun y g H6 dy sg hB6 k6 => ?_⟩
          have X6 := X4.keep A k6 hB6
          obtain ⟨rs6, qs6, hr6, dr6, lr6, or6⟩ := id X6.r
          obtain ⟨sg1, sg2, sg3⟩ := sg
          have hL := X4.sh.ls hL0
          have fin : ∀ (y' : V) (r' : Rw) (H8 : Hp), Same H6 H8 → Dp K H8 y' (rwD r') → RwOk d0 r' → rAppend (.ref R) [y'] H8 fun x H9 => D'.nx [some (.ref b), some (.ref h), some (.int many), some (.int sec), some v, some (.ref R), some (.ref M), some (.ref S), some (.int (0 + (i : Int))), some (.int kd), some (.ref p), u11, u12, some y] H9 := fun y' r' H8 e8 dy' ok' => by
            refine ⟨R, rs6, y', rfl, rfl, e8 _ _ hr6, by rw [sizeLine_eq]; omega, ?_⟩
            exact kD _ _ ⟨v, d, _, _, _, _, _, _, rfl, ((X6.same A e8).updR A (e8 _ _ hr6) dy' ok').more (by omega)⟩
          have okg : RwOk d0 (.sight g) := ⟨(unkS_shp X6.sh g).trans sg3, sg2, by omega⟩
          refine ⟨_, rfl, .inl ⟨rfl, _, SqL.of hr6⟩, _, rfl, _, rfl, v, y, d, g, rfl, by omega, X6.st.dp, dy, unk_knS sg2 sg3, hL, fun H7 e7 => ⟨_, rfl, ?_⟩⟩
          refine ite_b _ (fun _ => ⟨_, rfl, fin y (.sight g) H7 e7 (Dp.same e7 _ _ dy) okg⟩) (fun _ => ?_)
          obtain ⟨ay, vs, rfl, sy, dvs⟩ := sg_at (Dp.same e7 _ _ dy)
          refine ⟨_, rfl, ay, _, 0, _, rfl, rfl, sy, atI_nat (j := 0) rfl, rfl, _, rfl, ?_⟩
          rw [decS]
          by_cases c : sgW g = ("not" : Str)
          · rw [decide_eq_true c]
            cases vs with
            | nil => cases g <;> cases dvs
            | cons v0 r =>
              obtain ⟨g', rfl⟩ := ((sg_wd (d := d) g).1.mp c)
              cases dvs with
              | cons dv0 _ => exact iteT ⟨_, rfl, ay, _, 1, v0, rfl, rfl, sy, atI_nat (j := 1) rfl, fin v0 (.sight g') H7 e7 dv0 ⟨okg.1, okg.2.1, by have h := okg.2.2; simp only [depS] at h; omega⟩⟩
          · rw [decide_eq_false c]
            have dg : depS g = 0 := by
              cases g with
              | nt g' => exact absurd rfl c
              | _ => rfl
            exact iteF ⟨_, rfl, (by show 2 ≤ sizeLine; decide), fun t9 ht9 => fin (.ref t9) (.sight (.nt g)) _ (e7.trans (same_upd ht9)) (.tup (SqT.of upd_same) (.cons (.str _) (.cons (Dp.same (e7.trans (same_upd ht9)) _ _ dy) .nil))) ⟨okg.1, okg.2.1, by show depS g + 1 < 2; omega⟩⟩
      · rintro σ' H' ⟨v', d', w8, w9, w10, w11, w12, w13, rfl, X9⟩
        obtain ⟨ss, hs1, hs2⟩ := X9.s
        refine ⟨_, rfl, .inl ⟨rfl, _, SqL.of hs1⟩, _, rfl, S, ss, v', rfl, rfl, hs1, by rw [sizeLine_eq]; omega, ?_⟩
        exact ⟨v', d', _, _, _, _, _, _, rfl, (X9.updM A hs1 A.s0 A.sb A.rs (by rw [List.length_append]; simp; omega)).more (by omega), _, upd_same, at_last _ _⟩
    · rintro σ H1 ⟨v, d, u8, u9, u10, u11, u12, u13, rfl, X1, ss, hs1, hs2⟩
      refine ⟨_, rfl, _, rfl, _, rfl, (by show 3 ≤ sizeLine; decide), fun t ht => ?_⟩
      have f5 := same_upd (o := HO.tup [V.ref R, V.ref M, V.ref S]) ht
      obtain ⟨xr, rr, hr1', dr1, lr1, or1⟩ := (X1.same A f5).r
      exact k t R _ _ xr rr _ (SqT.of upd_same) hR hr1' dr1 lr1 or1 (X1.bx.same f5) (X1.kb.trans (Kb.same f5))
end
end Kw


set_option Elab.async false
set_option linter.all false
set_option maxRecDepth 100000
set_option maxHeartbeats 4000000
namespace Kw
open PySem PySem.Spec PyProof.Rows L2
abbrev sIHands : Stmt := inClass (top 3) 0
abbrev sILog : Stmt := inClass (top 4) 0
abbrev sNHands : Stmt := top 26
abbrev sNRow : Stmt := top 38
abbrev sNRows : Stmt := top 37
/-! ### errors that have an index -/
def ixFs (i : Int) : List (Str × V) := [("index", .int i)]
def spIx (C : Addr) : Sp := fun vs H Q _ => ∃ (a : Addr) (i : Int), vs = [.ref a, .int i] ∧ H a = some (exo a C none) ∧ 0 ≤ i ∧ i ≤ 1000 ∧
  ∀ dx, H dx = none → dx ≠ a → Q .non (upd (upd H dx (exd dx (ixFs i))) a (exo a C (some dx)))
/-- its class, which the program makes -/
structure ExcX (P : Program) (K : PySem.W.Frag) (mg : Str → Option Value) (x qual : Str) (st : Stmt) (C f : Addr) (fd : FuncData) : Prop where
  sup : SupC P K mg C
  at_ : PySem.W.findIn K (.ref C) "__init__" = some (some (.ref f))
  ty : PySem.W.typeIn K (.ref f) = some (.type "function")
  mgC : mg x = some (.ref C)
  ex : ∃ (oc : Value) (od : Option Addr) (kV doc pm : Value) (an : Option Addr) (ct : Value) (osl : Array (Option Value)) (cc cda : Addr), fd = PySem.W.ksFn "__init__" qual (defArgs st) (defBody st) (defScope st) .none kV doc pm an (.ref cda) ct cc ∧
    K.lookup f = some ⟨oc, od, .func fd, osl⟩ ∧ PySem.W.codeIn K (.ref cda) qual = true ∧
    (∃ ccl cdd vsC ccs fileS tf, K.lookup cda = some ⟨ccl, cdd, .fields vsC, ccs⟩ ∧ vsC[2]? = some (.str fileS tf) ∧ ((P.main.file : Str) == fileS) = true) ∧
    (∃ cl cld csl, K.lookup cc = some ⟨cl, cld, .cell (some (.ref C)), csl⟩)
  bind : Binds K fd (["self", "index"] : List Str) []
theorem scIHands : SupScope ["self", "index"] (defScope sIHands) :=
  ⟨rfl, rfl, rfl, by decide +kernel, by decide +kernel, by decide +kernel, onlyFree_by (by decide +kernel), by decide +kernel, by decide +kernel⟩
theorem scILog : SupScope ["self", "index"] (defScope sILog) :=
  ⟨rfl, rfl, rfl, by decide +kernel, by decide +kernel, by decide +kernel, onlyFree_by (by decide +kernel), by decide +kernel, by decide +kernel⟩
section
variable {P : Program} {w : World} {K : PySem.W.Frag} {mg : Str → Option Value} {base : Heap}
theorem ok_ihands {CX : CXT} {C f : Addr} {fd : FuncData} (T : ExcX P K mg "InvalidHands" "InvalidHands.__init__" sIHands C f fd) (nI : PySem.W.findIn K (.ref C) "index" = some none) :
    FnOk P w K mg base CX 1 f fd ["self", "index"] (spIx C) := by
  obtain ⟨oc, od, kV, doc, pm, an, ct, osl, cc, cda, rfl, lk, hcd, ⟨ccl, cdd, vsC, ccs, fileS, tf, hcode, hvs, hfile⟩, ⟨cl, cld, csl, hcell⟩⟩ := T.ex
  refine fn_super (pl := fun _ => _) T.sup lk hcd rfl rfl hcode hvs hfile hcell scIHands (fun vs H Q E h => ?_) (fun _ => rfl) (fun _ => rfl) (fun _ => rfl) (fun A outer s H vs Q E hr h => ?_)
  · obtain ⟨a, i, rfl, _⟩ := h
    rfl
  · obtain ⟨a, i, rfl, ha, hi0, hi1, k⟩ := h
    refine ⟨_, _, pe_joined (.cons pe_str (.cons (pe_fmt (pv 1)) .nil)), pss_one (ps_ost (pv 0) (pv 1)), ⟨a, rfl, ha⟩, ?_⟩
    have l1 : (Str.empty : Str).length = 0 := rfl
    have l2 : ("wrong at the hand with index " : Str).length = 29 := by decide +kernel
    have l3 := digits_small hi0 hi1
    have l5 := sizeLine_eq
    refine ⟨_, rfl, by rw [str_app]; omega, _, rfl, .inr ⟨i, rfl, log2_small hi0 hi1, _, rfl, by rw [str_app, str_app]; omega, ⟨_, rfl⟩, a, rfl, ha, ?_⟩⟩
    refine ⟨_, rfl, _, rfl, a, C, rfl, T.sup.oex, nI, .inl ⟨ha, fun dx hd ne => ?_⟩⟩
    exact k dx hd ne
theorem ok_ilog {CX : CXT} {C f : Addr} {fd : FuncData} (T : ExcX P K mg "InvalidLog" "InvalidLog.__init__" sILog C f fd) (nI : PySem.W.findIn K (.ref C) "index" = some none) :
    FnOk P w K mg base CX 1 f fd ["self", "index"] (spIx C) := by
  obtain ⟨oc, od, kV, doc, pm, an, ct, osl, cc, cda, rfl, lk, hcd, ⟨ccl, cdd, vsC, ccs, fileS, tf, hcode, hvs, hfile⟩, ⟨cl, cld, csl, hcell⟩⟩ := T.ex
  refine fn_super (pl := fun _ => _) T.sup lk hcd rfl rfl hcode hvs hfile hcell scILog (fun vs H Q E h => ?_) (fun _ => rfl) (fun _ => rfl) (fun _ => rfl) (fun A outer s H vs Q E hr h => ?_)
  · obtain ⟨a, i, rfl, _⟩ := h
    rfl
  · obtain ⟨a, i, rfl, ha, hi0, hi1, k⟩ := h
    refine ⟨_, _, pe_joined (.cons pe_str (.cons (pe_fmt (pv 1)) .nil)), pss_one (ps_ost (pv 0) (pv 1)), ⟨a, rfl, ha⟩, ?_⟩
    have l1 : (Str.empty : Str).length = 0 := rfl
    have l2 : ("wrong at the row with index " : Str).length = 28 := by decide +kernel
    have l3 := digits_small hi0 hi1
    have l5 := sizeLine_eq
    refine ⟨_, rfl, by rw [str_app]; omega, _, rfl, .inr ⟨i, rfl, log2_small hi0 hi1, _, rfl, by rw [str_app, str_app]; omega, ⟨_, rfl⟩, a, rfl, ha, ?_⟩⟩
    refine ⟨_, rfl, _, rfl, a, C, rfl, T.sup.oex, nI, .inl ⟨ha, fun dx hd ne => ?_⟩⟩
    exact k dx hd ne
end
/-- C(i) is let out -/
def Rx (C : Addr) (i : Nat) (H : Hp) (E : XK) : Prop := ∀ dd H', Same H H' → H' dd = some (.xd (ixFs i)) → E (.ref C) (some dd) H'
theorem Rx.same {C : Addr} {i : Nat} {H H' : Hp} {E : XK} (e : Same H H') (r : Rx C i H E) : Rx C i H' E := fun dd H2 e2 h => r dd H2 (e.trans e2) h
theorem ix_made {C : Addr} {H : Hp} {E : XK} {i : Nat} (hi : i ≤ 1000) (r : Rx C i H E) :
    ∀ a, H a = none → spIx C (.ref a :: ([.int i] ++ [])) (upd H a (exo a C none))
      (fun v H2 => v = .non ∧ ∃ (d : Addr) (fs : List (Str × V)), H2 a = some (exo a C (some d)) ∧ H2 d = some (exd d fs) ∧ H d = none ∧ E (.ref C) (some d) (upd (del H2 a) d (.xd fs))) (fun _ _ _ => False) := fun a ha => by
  refine ⟨a, i, rfl, upd_same, by omega, by omega, fun dx hd ne => ⟨rfl, dx, _, upd_same, by rw [upd_ne ne, upd_same], by rw [upd_ne ne] at hd; exact hd, ?_⟩⟩
  have hdx : H dx = none := by rw [upd_ne ne] at hd; exact hd
  refine r dx _ (fun b o e => ?_) upd_same
  have n1 : b ≠ dx := ne_of_none e hdx
  have n2 : b ≠ a := ne_of_none e ha
  rw [upd_ne n1, del_ne n2, upd_ne n2, upd_ne n1, upd_ne n2]
  exact e
end Kw

set_option Elab.async false
set_option linter.all false
set_option maxRecDepth 100000
set_option maxHeartbeats 4000000
namespace Kw
open PySem PySem.Spec PyProof.Rows L2
section
variable {P : Program} {w : World} {K : PySem.W.Frag} {mg : Str → Option Value} {base : Heap}
def spNHands (K : PySem.W.Frag) (C X : Addr) : Sp := fun vs H Q E => ∃ (h t : Addr) (zs : List Int) (d : Hs), vs = [.ref h, .ref t] ∧ HouseAt K C H h d ∧ SqT K H t (zs.map V.int) ∧ zs.length ≤ 100 ∧
  (∀ i, (∀ j, j < i → okH d.hands zs j) → ¬ okH d.hands zs i → Rx X i H E) ∧ ((∀ i, okH d.hands zs i) → ∀ H', Same H H' → Q .non H')
theorem scNHands : FnScope ["house", "hands", "index", "hand"] ["house", "hands"] (defScope sNHands) := ⟨rfl, rfl, rfl, by decide +kernel, rfl, by decide +kernel, by decide +kernel⟩
theorem ok_nhands {f g C X fI : Addr} {fd fdg fdI : FuncData} (F : Fun K "need_hands" "need_hands" sNHands f fd) (B : Bt mg) (hc : HouseC K C) (N : NumF P w K mg base g fdg) (T : ExcX P K mg "InvalidHands" "InvalidHands.__init__" sIHands X fI fdI) (GI : FnOk P w K mg base CX0 1 fI fdI ["self", "index"] (spIx X)) :
    FnOk P w K mg base (L2N.CX P w) 3 f fd ["house", "hands"] (spNHands K C X) := by
  refine okN F scNHands (fun vs H Q E h => ?_) (fun cdv A outer s H vs Q E hr h => ?_)
  · obtain ⟨h, t, zs, d, rfl, _⟩ := h
    rfl
  · obtain ⟨h, t, zs, d, rfl, hh, ht, hl, kE, kQ⟩ := h
    have hr1 : Room 1 _ := hr.mono (by decide)
    have tk : L2N.Takes (cxOf (L2N.CX P w) P w K mg base ["house", "hands", "index", "hand"] "need_hands" (defScope sNHands) f cdv A outer s H E) (fun cls d _ H => E cls d H) := L2N.takes_of rfl rfl rfl rfl
    refine ⟨_, (pss_one (ps_for (passes_of rfl) rfl (pi_enumT (by rfl) B.enu (pa_cons (pv 1) pa_nil)) (pg_tup (by rfl) (pgs_cons (pg_name (i := 2) scNHands.nd rfl (.inl rfl)) (pgs_cons (pg_name (i := 3) scNHands.nd rfl (.inl rfl)) pgs_nil))) (pss_one (ps_if (PW.pt (pw_or (pt_not (pt_val (pe_call N.G hr1 rfl N.m N.k N.b .nil pass0 (pa_cons (pv 3) (pa_cons (pe_fld (pv 0) rfl) pa_nil))))) (pw_or1 (PW.pt (pw_and (pt_cmpR op_gt (pv 2) pe_int (nomark _)) (pw_and1 (pt_cmpR op_le (pv 3) (pe_ix ix_tup (pv 1) (pe_op op_sub (pv 2) pe_int) (fun _ _ => rfl)) (nomark _)))))))) (pss_one (L2N.ps_raise rfl tk (pmk_oexN T.sup.oex T.at_ T.ty GI hr T.bind .nil pass0 rfl T.mgC (pa_cons (pv 2) pa_nil)))) pss_nil)))), ?_⟩
    obtain ⟨dx, vb, vt, vs, vst, g0, _⟩ := hh.ex
    refine ⟨_, rfl, t, _, rfl, ht, for_enumT (K := K) (a := t) (xs := zs.map V.int) (fun i σ H2 => ∃ v1 v2 : Option V, σ = [some (.ref h), some (.ref t), v1, v2] ∧ Same H H2 ∧ ∀ j, j < i → okH d.hands zs j)
      ⟨none, none, rfl, Same.refl H, fun j z => absurd z (by omega)⟩ (fun i σ H2 _ ⟨_, _, _, e, _⟩ => SqT.same e ht) ?_ ?_⟩
    · rintro i y σ H2 T' hi ⟨v1, v2, rfl, e, hb⟩ hT
      have hi1 := (List.getElem?_eq_some_iff.mp hi).1
      rw [List.length_map] at hi1
      obtain ⟨z, hz⟩ : ∃ z, zs[i]? = some z := ⟨_, List.getElem?_eq_getElem hi1⟩
      rw [List.getElem?_map, hz] at hi
      cases hi
      have f1 := same_upd (o := HO.tup [.int (i : Nat), .int z]) hT
      have e1 := e.trans f1
      refine ⟨T', _, rfl, SqT.of upd_same, rfl, _, _, rfl, _, _, rfl, rfl, ?_⟩
      have bad : ¬ okH d.hands zs i → tMkO X (spIx X) [] (tCons (tVar 2) tNil) [some (.ref h), some (.ref t), some (.int (i : Nat)), some (.int z)] (upd H2 T' (.tup [.int (i : Nat), .int z])) (fun cls d H' => E cls d H') := fun nb => ⟨_, rfl, (by show 1 ≤ 1000; decide), ix_made (by omega) ((kE i hb nb).same e1)⟩
      refine ⟨_, rfl, _, rfl, h, C, dx, _, _, rfl, e1 _ _ g0, hc.cl, hc.nH, fs_hands _ _ _ _ _, z, d.hands, rfl, _, rfl, ?_⟩
      cases cn : numOk z d.hands with
      | false =>
        refine iteT (iteT ?_)
        exact bad fun o => by
          have := (o z hz).1
          rw [cn] at this
          cases this
      | true =>
        refine iteF ⟨_, rfl, _, _, rfl, rfl, _, rfl, ?_⟩
        by_cases c0 : 0 < i
        · obtain ⟨z', hz'⟩ : ∃ z', zs[i - 1]? = some z' := ⟨_, List.getElem?_eq_getElem (by omega)⟩
          refine iteTe (decide_eq_true (by omega)) ⟨_, rfl, _, rfl, _, rfl, _, _, rfl, rfl, t, _, ((i - 1 : Nat) : Int), .int z', rfl, congrArg V.int (by omega), SqT.same e1 ht, atI_nat (by rw [List.getElem?_map, hz']; rfl), _, _, rfl, rfl, _, rfl, ?_⟩
          by_cases c1 : z ≤ z'
          · refine iteTe (decide_eq_true c1) (bad fun o => ?_)
            have := (o z hz).2 z' c0 hz'
            omega
          · refine iteFe (decide_eq_false c1) ⟨_, _, rfl, e1, fun j hj => ?_⟩
            by_cases cj : j = i
            · subst cj
              intro y hy
              rw [hz] at hy
              cases hy
              refine ⟨cn, fun y' _ hy' => ?_⟩
              rw [hz'] at hy'
              cases hy'
              omega
            · exact hb j (by omega)
        · refine iteFe (decide_eq_false (by omega)) ⟨_, _, rfl, e1, fun j hj => ?_⟩
          by_cases cj : j = i
          · subst cj
            intro y hy
            rw [hz] at hy
            cases hy
            exact ⟨cn, fun y' h0 _ => absurd h0 c0⟩
          · exact hb j (by omega)
    · rintro σ H2 ⟨v1, v2, rfl, e, hb⟩
      refine kQ (fun i => ?_) _ e
      by_cases c : i < zs.length
      · exact hb i (by rw [List.length_map]; exact c)
      · intro z hz
        have := (List.getElem?_eq_some_iff.mp hz).1
        omega
end
end Kw

set_option Elab.async false
set_option linter.all false
set_option maxRecDepth 100000
set_option maxHeartbeats 4000000
namespace Kw
open PySem PySem.Spec PyProof.Rows L2
/-- the words of deeds, a tuple of the program -/
structure WordsF (K : PySem.W.Frag) (mg : Str → Option Value) (a : Addr) : Prop where
  m : mg "DEED_WORDS" = some (.ref a)
  s : ∀ H : Hp, SqT K H a [V.str ("give" : Str), .str ("put" : Str), .str ("take" : Str), .str ("seal" : Str), .str ("break" : Str)]
/-- any error of a row -/
def RowE (X : Addr) (ce : Str → Addr) (H : Hp) (E : XK) : Prop := (∀ i, i ≤ 100 → Rx X i H E) ∧ ∀ z : Str, (z = "UnknownHand" ∨ z = "UnknownItem" ∨ z = "UnknownBox" ∨ z = "UnknownSeal" ∨ z = "InsideItself") → Rp (ce z) H E
theorem unk_names5 {d0 : Hs} {e : Dd} {z : Str} (h : unkOf d0 e = z) (n : z ≠ "") : z = "UnknownHand" ∨ z = "UnknownItem" ∨ z = "UnknownBox" ∨ z = "UnknownSeal" ∨ z = "InsideItself" := by
  subst h
  revert n
  unfold unkOf
  cases e <;> dsimp only <;> (repeat' split) <;> intro n <;> first | exact absurd rfl n | exact .inl rfl | exact .inr (.inl rfl) | exact .inr (.inr (.inl rfl)) | exact .inr (.inr (.inr (.inl rfl))) | exact .inr (.inr (.inr (.inr rfl)))
theorem unkS_names5 {d : Hs} : ∀ {g : Sg} {z : Str}, unkS d g = z → z ≠ "" → (z = "UnknownHand" ∨ z = "UnknownItem" ∨ z = "UnknownBox" ∨ z = "UnknownSeal" ∨ z = "InsideItself")
  | .loc p q, z, h, n => by
    unfold unkS at h
    split at h
    · exact .inr (.inl h.symm)
    · split at h
      · split at h
        · exact .inl h.symm
        · exact absurd h.symm n
      · split at h
        · exact .inr (.inr (.inl h.symm))
        · exact absurd h.symm n
  | .bare b, z, h, n => by
    unfold unkS at h
    split at h
    · exact .inr (.inr (.inl h.symm))
    · exact absurd h.symm n
  | .inn b l, z, h, n => by
    unfold unkS at h
    split at h
    · exact .inr (.inr (.inl h.symm))
    · split at h
      · exact absurd h.symm n
      · exact .inr (.inl h.symm)
  | .gone b, z, h, n => by
    unfold unkS at h
    split at h
    · exact .inr (.inr (.inr (.inl h.symm)))
    · exact absurd h.symm n
  | .nt g, z, h, n => unkS_names5 (g := g) (by unfold unkS at h; exact h) n
section
variable {P : Program} {w : World} {K : PySem.W.Frag} {mg : Str → Option Value} {base : Heap}
def spNRow (K : PySem.W.Frag) (C X : Addr) (ce : Str → Addr) : Sp := fun vs H Q E => ∃ (h : Addr) (y : V) (r : Rw) (d : Hs), vs = [.ref h, y] ∧ HouseAt K C H h d ∧ Dp K H y (rwD r) ∧ SmR r ∧
  (¬ okR d r → RowE X ce H E) ∧ (okR d r → ∀ H', Same H H' → Q .non H')
theorem scNRow : FnScope ["house", "row"] ["house", "row"] (defScope sNRow) := ⟨rfl, rfl, rfl, by decide +kernel, rfl, by decide +kernel, by decide +kernel⟩
theorem ok_nrow {f aD gH gD gS C X : Addr} {fd fdH fdD fdS : FuncData} {ce : Str → Addr} (F : Fun K "need_row" "need_row" sNRow f fd) (W : WordsF K mg aD) (NH : OnceX P w K mg base "need_hands" 3 ["house", "hands"] (spNHands K C X) gH fdH) (ND : OnceX P w K mg base "need_deed" 5 ["house", "deed"] (spNDeed K C ce) gD fdD) (NS : OnceX P w K mg base "need_sight" 6 ["house", "sight"] (spNSight K C ce 2) gS fdS) :
    FnOk P w K mg base (L2N.CX P w) 7 f fd ["house", "row"] (spNRow K C X ce) := by
  refine okN F scNRow (fun vs H Q E h => ?_) (fun cdv A outer s H vs Q E hr h => ?_)
  · obtain ⟨h, y, r, d, rfl, _⟩ := h
    rfl
  · obtain ⟨h, y, r, d, rfl, hh, hy, hm, kE, kQ⟩ := h
    have hr3 : Room 3 _ := hr.mono (by decide)
    have hr5 : Room 5 _ := hr.mono (by decide)
    have hr6 : Room 6 _ := hr
    have tk : L2N.Takes (cxOf (L2N.CX P w) P w K mg base ["house", "row"] "need_row" (defScope sNRow) f cdv A outer s H E) (fun cls d _ H => E cls d H) := L2N.takes_of rfl rfl rfl rfl
    refine ⟨_, (pss_one (ps_if (pt_cmpR op_eq (pe_ix ix_tup (pv 1) pe_int (fun _ _ => rfl)) pe_str (nomark _)) (pss_one (ps_expr (pe_call NH.G hr3 rfl NH.m NH.k NH.b .nil (L2N.passes_call tk (fun _ _ _ _ h => h)) (pa_cons (pv 0) (pa_cons (pe_ix ix_tup (pv 1) pe_int (fun _ _ => rfl)) pa_nil))))) (pss_one (ps_if (pt_cmpR op_in_seq (pe_ix ix_tup (pv 1) pe_int (fun _ _ => rfl)) (pe_glob (v := .ref aD) rfl W.m rfl) (by rfl)) (pss_one (ps_expr (pe_call ND.G hr5 rfl ND.m ND.k ND.b .nil (L2N.passes_call tk (fun _ _ _ _ h => h)) (pa_cons (pv 0) (pa_cons (pv 1) pa_nil))))) (pss_one (ps_expr (pe_call NS.G hr6 rfl NS.m NS.k NS.b .nil (L2N.passes_call tk (fun _ _ _ _ h => h)) (pa_cons (pv 0) (pa_cons (pv 1) pa_nil))))))))), ?_⟩
    cases r with
    | gap zs =>
      cases hy with
      | @tup ay xs _ sy ha =>
      cases ha with
      | cons d1 r =>
      cases r with
      | cons d2 r =>
      cases r
      cases d1
      cases d2 with
      | @tup t ys _ st hz =>
      have ez := ints_at hz
      subst ez
      refine ⟨_, rfl, ay, _, 0, _, rfl, rfl, sy, rfl, rfl, _, rfl, ?_⟩
      rw [decS, decide_eq_true rfl]
      refine iteT ⟨_, rfl, _, rfl, ay, _, 1, _, rfl, rfl, sy, rfl, h, t, zs, d, rfl, hh, st, hm, fun i hj hi => ?_, fun ho => kQ ho⟩
      refine (kE fun o => hi (o i)).1 i ?_
      by_cases c : i < zs.length
      · have : zs.length ≤ 100 := hm
        omega
      · exact absurd (fun z hz => by have := (List.getElem?_eq_some_iff.mp hz).1; omega) hi
    | deed e =>
      obtain ⟨yd, vs, rfl, sy, dvs⟩ := dd_at hy
      refine ⟨_, rfl, yd, _, 0, _, rfl, rfl, sy, atI_nat (j := 0) rfl, rfl, _, rfl, ?_⟩
      rw [decS]
      refine iteFe (decide_eq_false (by cases e <;> (simp only [Dd.word]; decide +kernel))) ?_
      refine ⟨_, rfl, yd, _, 0, _, rfl, rfl, sy, atI_nat (j := 0) rfl, aD, _, rfl, .inr (W.s H), rfl, rfl, _, rfl, ?_⟩
      refine iteTe (by cases e <;> (simp only [Dd.word]; decide +kernel)) ?_
      exact ⟨_, rfl, _, rfl, h, _, e, d, rfl, hh, hy, hm, fun z z1 z2 => (kE fun o => z2 (z1.symm.trans o)).2 z (unk_names5 z1 z2), fun o => kQ o⟩
    | sight g =>
      obtain ⟨yd, vs, rfl, sy, dvs⟩ := sg_at hy
      refine ⟨_, rfl, yd, _, 0, _, rfl, rfl, sy, atI_nat (j := 0) rfl, rfl, _, rfl, ?_⟩
      rw [decS]
      refine iteFe (decide_eq_false (by cases g <;> (simp only [sgW]; decide +kernel))) ?_
      refine ⟨_, rfl, yd, _, 0, _, rfl, rfl, sy, atI_nat (j := 0) rfl, aD, _, rfl, .inr (W.s H), rfl, rfl, _, rfl, ?_⟩
      refine iteFe (by cases g <;> (simp only [sgW]; decide +kernel)) ?_
      exact ⟨_, rfl, _, rfl, h, _, g, d, rfl, hm.2, hh, hy, hm.1, fun z z1 z2 => (kE fun o => z2 (z1.symm.trans o)).2 z (unkS_names5 z1 z2), fun o => kQ o⟩
end
end Kw

set_option Elab.async false
set_option linter.all false
set_option maxRecDepth 100000
set_option maxHeartbeats 4000000
namespace Kw
open PySem PySem.Spec PyProof.Rows L2
section
variable {P : Program} {w : World} {K : PySem.W.Frag} {mg : Str → Option Value} {base : Heap}
/-- made where an exception is handled -/
theorem ok_ilogH {CX : CXT} {C f : Addr} {fd : FuncData} (T : ExcX P K mg "InvalidLog" "InvalidLog.__init__" sILog C f fd) (nI : PySem.W.findIn K (.ref C) "index" = some none) :
    L2H.FnH P w K mg base CX 1 f fd ["self", "index"] (spIx C) := by
  obtain ⟨oc, od, kV, doc, pm, an, ct, osl, cc, cda, rfl, lk, hcd, ⟨ccl, cdd, vsC, ccs, fileS, tf, hcode, hvs, hfile⟩, ⟨cl, cld, csl, hcell⟩⟩ := T.ex
  refine fn_superH (pl := fun _ => _) T.sup lk hcd rfl rfl hcode hvs hfile hcell scILog (fun vs H Q E h => ?_) (fun _ => rfl) (fun _ => rfl) (fun _ => rfl) (fun A outer s H vs Q E p hot hr h => ?_)
  · obtain ⟨a, i, rfl, _⟩ := h
    rfl
  · obtain ⟨a, i, rfl, ha, hi0, hi1, k⟩ := h
    refine ⟨_, _, pe_joined (.cons pe_str (.cons (pe_fmt (pv 1)) .nil)), pss_one (ps_ost (pv 0) (pv 1)), ⟨a, rfl, ha⟩, ?_⟩
    have l1 : (Str.empty : Str).length = 0 := rfl
    have l2 : ("wrong at the row with index " : Str).length = 28 := by decide +kernel
    have l3 := digits_small hi0 hi1
    have l5 := sizeLine_eq
    refine ⟨_, rfl, by rw [str_app]; omega, _, rfl, .inr ⟨i, rfl, log2_small hi0 hi1, _, rfl, by rw [str_app, str_app]; omega, ⟨_, rfl⟩, a, rfl, ha, ?_⟩⟩
    refine ⟨_, rfl, _, rfl, a, C, rfl, T.sup.oex, nI, .inl ⟨ha, fun dx hd ne => ?_⟩⟩
    exact k dx hd ne
/-! ### need_rows -/
/-- the least row that is wrong, or one too many -/
def BadAt (d : Hs) (rs : List Rw) (i : Nat) : Prop := i < rs.length ∧ (∀ j, j < i → j < 30 ∧ ∀ r, rs[j]? = some r → okR d r) ∧ (i = 30 ∨ ∃ r, rs[i]? = some r ∧ ¬ okR d r)
def RowsAt (K : PySem.W.Frag) (H : Hp) (t : Addr) (xs : List V) (rs : List Rw) : Prop := (SqL K H t xs ∨ SqT K H t xs) ∧ DpAll K H xs (rs.map rwD)
def spNRows (K : PySem.W.Frag) (C XL : Addr) : Sp := fun vs H Q E => ∃ (h t : Addr) (xs : List V) (rs : List Rw) (d : Hs), vs = [.ref h, .ref t] ∧ HouseAt K C H h d ∧ RowsAt K H t xs rs ∧ xs.length ≤ 1000 ∧ (∀ r ∈ rs, SmR r) ∧
  (∀ i, BadAt d rs i → Rx XL i H E) ∧ (rs.length ≤ 30 → (∀ r ∈ rs, okR d r) → ∀ H', Same H H' → Q .non H')
/-- what is caught as an error of the package -/
structure Caught (K : PySem.W.Frag) (ce : Str → Addr) (X CW : Addr) : Prop where
  x : PySem.W.exmOne K (.ref X) (.ref CW) = some true
  z : ∀ z : Str, (z = "UnknownHand" ∨ z = "UnknownItem" ∨ z = "UnknownBox" ∨ z = "UnknownSeal" ∨ z = "InsideItself") → PySem.W.exmOne K (.ref (ce z)) (.ref CW) = some true
theorem rows_len {K : PySem.W.Frag} {H : Hp} {xs : List V} {rs : List Rw} (h : DpAll K H xs (rs.map rwD)) : xs.length = rs.length := by have := DpAll.len h; rwa [List.length_map] at this
theorem scNRows : FnScope ["house", "rows", "index", "row"] ["house", "rows"] (defScope sNRows) := ⟨rfl, rfl, rfl, by decide +kernel, rfl, by decide +kernel, by decide +kernel⟩
theorem ok_nrows {f gR C X XL CW fI tm : Addr} {fd fdR fdI : FuncData} {ce : Str → Addr} {tkm : Tok} (F : Fun K "need_rows" "need_rows" sNRows f fd) (B : Bt mg) (NR : OnceX P w K mg base "need_row" 7 ["house", "row"] (spNRow K C X ce) gR fdR)
    (mM : mg "MOST_ROWS" = some (.int 30 tkm)) (mW : mg "WatchError" = some (.ref CW)) (Ct : Caught K ce X CW) (T : ExcX P K mg "InvalidLog" "InvalidLog.__init__" sILog XL fI fdI) (nI : PySem.W.findIn K (.ref XL) "index" = some none) :
    FnOk P w K mg base (L2.CX P w) 8 f fd ["house", "rows"] (spNRows K C XL) := by
  refine F.okX scNRows (fun vs H Q E h => ?_) (fun cdv A outer s H vs Q E hr h => ?_)
  · obtain ⟨h, t, xs, rs, d, rfl, _⟩ := h
    rfl
  · obtain ⟨h, t, xs, rs, d, rfl, hh, ⟨ht, hd⟩, hl, hm, kE, kQ⟩ := h
    have hr1 : Room 2 _ := hr.mono (by decide)
    have tk : Takes (cxOf (L2.CX P w) P w K mg base ["house", "rows", "index", "row"] "need_rows" (defScope sNRows) f cdv A outer s H E) (fun cls d _ H => E cls d H) := takes_of rfl rfl rfl rfl
    have lr := rows_len hd
    refine ⟨_, (pss_one (ps_for (passes_of rfl) rfl (pi_enumE (by rfl) B.enu (pa_cons (pv 1) pa_nil)) (pg_tup (by rfl) (pgs_cons (pg_name (i := 2) scNRows.nd rfl (.inl rfl)) (pgs_cons (pg_name (i := 3) scNRows.nd rfl (.inl rfl)) pgs_nil))) (pss_cons (ps_if (pt_cmpR op_eq (pv 2) (pe_glob (v := .int 30) rfl mM ⟨_, rfl⟩) (nomark _)) (pss_one (ps_raise rfl tk (pmk_oex T.sup.oex T.at_ T.ty (ok_ilog (CX := CX0) T nI) hr1 T.bind .nil pass0 rfl T.mgC (pa_cons (pv 2) pa_nil)))) pss_nil) (pss_one (L2H.ps_try_onlyX rfl rfl ⟨rfl, by decide, .inl mW⟩ (fun hd => L2H.passesAt_of rfl hd) tk (fun W pn xe tkN tkP po => pss_one (ps_expr (pe_callS NR.G hr rfl NR.m NR.k NR.b (fun σ => L2N.passAt tkN σ) (pa_cons (pv 0) (pa_cons (pv 3) pa_nil))))) (fun a oe cls d pn hz hf tkS hot => pss_one (L2H.ps_raiseHN hot tkS (L2H.pmk5_oexH T.sup.oex T.at_ T.ty (ok_ilogH (CX := CX0) T nI) (L2H.roomH_mark hr1 _) hot T.bind pass0 rfl T.mgC (pa_cons (pv 2) pa_nil))))))))), ?_⟩
    obtain ⟨dx, vb, vt, vs, vst, g0, _⟩ := hh.ex
    -- a turn
    let PV : Nat → L2.St → Hp → Prop := fun i σ H2 => ∃ v1 v2 : Option V, σ = [some (.ref h), some (.ref t), v1, v2] ∧ Same H H2 ∧ ∀ j, j < i → j < 30 ∧ ∀ r, rs[j]? = some r → okR d r
    have fin : ∀ σ H2, PV xs.length σ H2 → Q .non H2 := by
      rintro σ H2 ⟨v1, v2, rfl, e, hb⟩
      refine kQ ?_ (fun r hr => ?_) _ e
      · by_cases c : rs.length ≤ 30
        · exact c
        · have := (hb 30 (by omega)).1
          omega
      · obtain ⟨j, hj⟩ := List.mem_iff_getElem?.mp hr
        have hj' := (List.getElem?_eq_some_iff.mp hj).1
        exact (hb j (by omega)).2 r hj
    refine ⟨_, rfl, t, xs, rfl, ?_⟩
    rcases ht with ht | ht
    · refine .inr ⟨ht, for_enumL (K := K) (a := t) (xs := xs) PV ⟨none, none, rfl, Same.refl H, fun j z => absurd z (by omega)⟩ (fun i σ H2 _ ⟨_, _, _, e, _⟩ => sqL_same e ht) ?_ fin⟩
      rintro i y σ H2 T' hi ⟨v1, v2, rfl, e, hb⟩ hT
      have hi1 := (List.getElem?_eq_some_iff.mp hi).1
      obtain ⟨r, hrr⟩ : ∃ r, rs[i]? = some r := ⟨_, List.getElem?_eq_getElem (by omega)⟩
      have f1 := same_upd (o := HO.tup [.int (i : Nat), y]) hT
      have e1 := e.trans f1
      refine ⟨T', _, rfl, SqT.of upd_same, rfl, _, _, rfl, _, _, rfl, rfl, ?_⟩
      have bad : ∀ H4, Same H H4 → BadAt d rs i → tMkO XL (spIx XL) [] (tCons (tVar 2) tNil) [some (.ref h), some (.ref t), some (.int (i : Nat)), some y] H4 (fun cls d H' => E cls d H') := fun H4 e4 nb => ⟨_, rfl, (by show 1 ≤ 1000; decide), ix_made (by omega) ((kE i nb).same e4)⟩
      refine ⟨_, rfl, rfl, _, rfl, ?_⟩
      rw [decZ]
      by_cases c30 : i = 30
      · refine iteTe (decide_eq_true (by omega)) (bad _ e1 ⟨by omega, hb, .inl c30⟩)
      · refine iteFe (decide_eq_false (by omega)) ?_
        obtain ⟨dr, hdr, hy⟩ := DpAll.get hd hi
        rw [List.getElem?_map, hrr] at hdr
        cases hdr
        have hm' := hm r (List.mem_of_getElem? hrr)
        refine ⟨_, rfl, _, rfl, h, y, r, d, rfl, hh.nl (nl_same e1), Dp.same e1 _ _ hy, hm', fun nok => ?_, fun ok H4 e4 => ?_⟩
        · have bd : BadAt d rs i := ⟨by omega, hb, .inr ⟨r, hrr, nok⟩⟩
          exact ⟨fun j hj dd H5 e5 hdd => ⟨true, Ct.x, fun _ a ha => bad H5 (e1.trans e5) bd, fun q => nomatch q⟩, fun z hz H5 e5 => ⟨true, Ct.z z hz, fun _ a ha => bad H5 (e1.trans e5) bd, fun q => nomatch q⟩⟩
        · refine ⟨_, _, rfl, e1.trans e4, fun j hj => ?_⟩
          by_cases cj : j = i
          · subst cj
            refine ⟨?_, fun r' hr' => by rw [hrr] at hr'; cases hr'; exact ok⟩
            by_cases c : j < 30
            · exact c
            · exact absurd (hb 30 (by omega)).1 (by omega)
          · exact hb j (by omega)
    · refine .inl ⟨ht, for_enumT (K := K) (a := t) (xs := xs) PV ⟨none, none, rfl, Same.refl H, fun j z => absurd z (by omega)⟩ (fun i σ H2 _ ⟨_, _, _, e, _⟩ => SqT.same e ht) ?_ fin⟩
      rintro i y σ H2 T' hi ⟨v1, v2, rfl, e, hb⟩ hT
      have hi1 := (List.getElem?_eq_some_iff.mp hi).1
      obtain ⟨r, hrr⟩ : ∃ r, rs[i]? = some r := ⟨_, List.getElem?_eq_getElem (by omega)⟩
      have f1 := same_upd (o := HO.tup [.int (i : Nat), y]) hT
      have e1 := e.trans f1
      refine ⟨T', _, rfl, SqT.of upd_same, rfl, _, _, rfl, _, _, rfl, rfl, ?_⟩
      have bad : ∀ H4, Same H H4 → BadAt d rs i → tMkO XL (spIx XL) [] (tCons (tVar 2) tNil) [some (.ref h), some (.ref t), some (.int (i : Nat)), some y] H4 (fun cls d H' => E cls d H') := fun H4 e4 nb => ⟨_, rfl, (by show 1 ≤ 1000; decide), ix_made (by omega) ((kE i nb).same e4)⟩
      refine ⟨_, rfl, rfl, _, rfl, ?_⟩
      rw [decZ]
      by_cases c30 : i = 30
      · refine iteTe (decide_eq_true (by omega)) (bad _ e1 ⟨by omega, hb, .inl c30⟩)
      · refine iteFe (decide_eq_false (by omega)) ?_
        obtain ⟨dr, hdr, hy⟩ := DpAll.get hd hi
        rw [List.getElem?_map, hrr] at hdr
        cases hdr
        have hm' := hm r (List.mem_of_getElem? hrr)
        refine ⟨_, rfl, _, rfl, h, y, r, d, rfl, hh.nl (nl_same e1), Dp.same e1 _ _ hy, hm', fun nok => ?_, fun ok H4 e4 => ?_⟩
        · have bd : BadAt d rs i := ⟨by omega, hb, .inr ⟨r, hrr, nok⟩⟩
          exact ⟨fun j hj dd H5 e5 hdd => ⟨true, Ct.x, fun _ a ha => bad H5 (e1.trans e5) bd, fun q => nomatch q⟩, fun z hz H5 e5 => ⟨true, Ct.z z hz, fun _ a ha => bad H5 (e1.trans e5) bd, fun q => nomatch q⟩⟩
        · refine ⟨_, _, rfl, e1.trans e4, fun j hj => ?_⟩
          by_cases cj : j = i
          · subst cj
            refine ⟨?_, fun r' hr' => by rw [hrr] at hr'; cases hr'; exact ok⟩
            by_cases c : j < 30
            · exact c
            · exact absurd (hb 30 (by omega)).1 (by omega)
          · exact hb j (by omega)
end
end Kw

set_option Elab.async false
set_option linter.all false
set_option maxRecDepth 100000
set_option maxHeartbeats 4000000
/-! Own operators of an object that holds rows: len(o), o[i], o + a list. -/
namespace Kw
open PySem PySem.Spec PyProof.Rows L2
section
variable {X : Cx} {CX : CXT} {C f : Addr} {fd : FuncData} {k : Nat} {ps : List Str} {sp : Sp} {E : XK}
theorem run_fn1 {pins : List (Addr × Obj)} {σ : L2.St} {H : Hp} {s : Shared} {Q : VK} {us : List Value} {vs : List V} (F : FnOk X.prog X.w X.K X.mg X.base CX k f fd ps sp) (hr : Room (k + 1) X.A) (hb : Binds X.K fd ps []) (hx : Passes CX X E)
    (I : L2.Inv X pins σ H s) (r : Vals vs us) (h : sp vs H Q E) : wpAny (model X.prog X.w) X.A.in1 (call (.ref f) us) (EP X pins σ Q) X.xe s := by
  have hl : us.length = ps.length := by rw [← r.length]; exact F.len _ _ _ _ h
  have b := hb s us I.kIn (by rw [List.append_nil]; exact hl)
  rw [List.append_nil] at b
  refine wpAny_call (codeAny_mono (F.run X.A.in1 X.stack s H ⟨us, []⟩ us vs Q E hr.in1 I.env0.in1 b r h) fun r s' hq => ?_)
  cases r with
  | error e => exact hx pins σ H s e s' I hq
  | ok fl =>
    cases fl with
    | ret u => exact I.after hq
    | next => exact False.elim hq
    | brk => exact False.elim hq
    | cont => exact False.elim hq
/-- len(o) -/
def rLenOwn (C : Addr) (sp : Sp) (E : XK) : List V → Hp → VK → Prop := fun xs H Q => ∃ a dx fs, xs = [.ref a] ∧ H a = some (.ins C dx fs) ∧ sp [.ref a] H (fun v H' => ∃ n : Nat, v = .int n ∧ n < 2 ^ 62 ∧ Q (.int n) H') E
theorem call_lenOwn (F : FnOk X.prog X.w X.K X.mg X.base CX k f fd ps sp) (hs : PySem.W.findIn X.K (.ref C) "__len__" = some (some (.ref f))) (hf : PySem.W.isFn X.K (.ref f) = true) (hr : Room (k + 1) X.A) (hb : Binds X.K fd ps []) (hx : Passes CX X E) :
    CallR X (.builtin "len") (rLenOwn C sp E) := by
  intro pins s σ H xs us Q I r h
  obtain ⟨a, dx, fs, rfl, hH, hsp⟩ := h
  obtain ⟨u, rfl, rx⟩ := vals1 r
  cases rx
  obtain ⟨mA, J, _⟩ := ins_get I.hok hH
  obtain ⟨od, J, _⟩ := J.look
  obtain ⟨m, hF⟩ := I.fr
  refine PySem.W.len_K hF I.ok.mod.kin J hs hf (thn (run_fn1 (vs := [.ref a]) F hr hb hx I (.cons rfl .nil) hsp) fun w s1 hw => ?_)
  obtain ⟨z, H1, I1, rz, n, ez, hn, q⟩ := hw
  subst ez
  obtain ⟨t, rfl⟩ := rz
  exact ⟨⟨by omega, by omega⟩, V.int n, H1, I1.kept (t' := s1.toks + 1) (h' := s1.heap) fun b o e => e, ⟨_, rfl⟩, q⟩
/-- o[i] -/
def rIxOwn (C : Addr) (sp : Sp) (E : XK) : R2 := fun x y H Q => ∃ a dx fs, x = .ref a ∧ H a = some (.ins C dx fs) ∧ sp [.ref a, y] H Q E
theorem pe_ixOwn {a b : Expr} {ta tb : TE} {pos : Pos} (F : FnOk X.prog X.w X.K X.mg X.base CX k f fd ps sp) (hs : PySem.W.findIn X.K (.ref C) "__getitem__" = some (some (.ref f))) (hf : PySem.W.fnIn X.K f = true) (hfn : PySem.W.isFn X.K (.ref f) = true) (hr : Room (k + 1) X.A) (hb : Binds X.K fd ps []) (hx : Passes CX X E)
    (pa : PE X a ta) (pb : PE X b tb) (hsl : ∀ x i, subscripted b true (.ref x) i = runValue (.builtin "lifetime.subscript" ⟨[.ref x, i], []⟩)) : PE X (.Subscript a b pos) (tOp (rIxOwn C sp E) ta tb) := by
  refine ⟨fun pins s σ H Q I h => ?_⟩
  refine Subscript_ (binT pa pb I h fun v u s2 x y H2 I2 rx ry q => ?_)
  obtain ⟨c, dx, fs, rfl, hH, hsp⟩ := q
  cases rx
  obtain ⟨mA, J, _⟩ := ins_get I2.hok hH
  obtain ⟨od, J, _⟩ := J.look
  obtain ⟨m, hF⟩ := I2.fr
  exact PySem.W.sub_K hF I2.ok.mod.kin J hs hf hfn (run_fn1 (vs := [.ref c, y]) F hr hb hx I2 (.cons rfl (.cons ry .nil)) hsp) (hsl _ _)
/-- o + xs, xs a list -/
def rAddOwn (K : PySem.W.Frag) (C : Addr) (sp : Sp) (E : XK) : R2 := fun x y H Q => ∃ a b dx fs ys, x = .ref a ∧ y = .ref b ∧ H a = some (.ins C dx fs) ∧ SqL K H b ys ∧ sp [.ref a, .ref b] H (fun v H' => ∃ p, v = .ref p ∧ Q v H') E
structure AddC (K : PySem.W.Frag) (C f : Addr) : Prop where
  first : PySem.W.selfFirst K C = true
  s : PySem.W.findIn K (.ref C) "__add__" = some (some (.ref f))
  isf : PySem.W.isFn K (.ref f) = true
  l1 : ∃ fo, PySem.W.findIn K (.type "list") "__add__" = some fo ∧ (fo.isSome && !isSeqSlot fo) = false
  l2 : PySem.W.findIn K (.type "list") "__radd__" = some none
theorem op_addOwn (F : FnOk X.prog X.w X.K X.mg X.base CX k f fd ps sp) (A : AddC X.K C f) (hr : Room k X.A) (hb : Binds X.K fd ps []) (hx : Passes CX X E) :
    OpR X (binaryOp .Add) (rAddOwn X.K C sp E) := by
  intro pins s σ H x y v u Q I rx ry h
  obtain ⟨a, b, dx, fs, ys, rfl, rfl, hH, hq, hsp⟩ := h
  cases rx
  cases ry
  obtain ⟨mA, J, _⟩ := ins_get I.hok hH
  obtain ⟨od, J, _⟩ := J.look
  obtain ⟨m, hF⟩ := I.fr
  have X' := I.kIn
  obtain ⟨its, rl, pl, hz⟩ := I.list hq
  obtain ⟨o, ho, hc, hd⟩ := pl.isList
  have LT : PySem.W.Looks (model X.prog X.w) s.heap (typeOf (.ref b)) (.type "list") := fun A Q E s k q => wpAny_typeOf_ref (k _ _ ho) (by rw [hc]; exact q)
  obtain ⟨cd, rest, hcd, hm⟩ := PySem.W.ksp_first A.first
  obtain ⟨fo, l1, l3⟩ := A.l1
  have L3 : PySem.W.Looks (model X.prog X.w) s.heap (fillsNumberSlot (.ref C) "add") true := PySem.W.fills_K X' hcd hm A.s
  have L4 := PySem.W.ksp_fillsT (M := model X.prog X.w) (nm := "add") X' l1 A.l2
  rw [l3, show (((none : Option Value).isSome && !isSeqSlot none) = false) from rfl, Bool.or_self] at L4
  have one := PySem.W.ksp_try (M := model X.prog X.w) (A := X.A) (E := X.xe) (Q := EP X pins σ Q) (b := .ref b) X' J A.s A.isf (thn (run_fn (vs := [.ref a, .ref b]) (dvs := []) F hr hb .nil hx I (.cons rfl (.cons rfl .nil)) hsp) fun w s1 hw => by
    obtain ⟨z, H1, I1, rz, p, ez, q⟩ := hw
    subst ez
    cases rz
    exact ⟨V.ref p, H1, I1, rfl, q⟩)
  have hne : (Value.ref C == Value.type "list") = false := Bool.eq_false_iff.mpr fun q => by cases beq_iff_eq.mp q
  show wpAny _ _ (binaryOp .Add (.ref a) (.ref b)) _ _ _
  unfold binaryOp
  refine wpAny_holding (wpAny_bind ?_)
  unfold binaryOp1
  refine wpAny_bind (J.type.here (wpAny_bind (LT.here (wpAny_bind (L3.here ?_)))))
  simp only [hne, Bool.false_eq_true, if_false]
  refine wpAny_bind (L4.here ?_)
  simp only [Bool.and_false, Bool.false_eq_true, if_false, Bool.and_true, Bool.false_and]
  refine wpAny_bind (wpAny_pure ?_)
  simp only [Bool.false_eq_true, if_false, if_true]
  refine wpAny_bind (wpAny_mono one (fun r s' hr' => ?_) fun _ _ e => e)
  obtain ⟨v, rfl, hq'⟩ := hr'
  exact wpAny_pure (wpAny_pure hq')
end
end Kw

set_option Elab.async false
set_option linter.all false
set_option maxRecDepth 100000
set_option maxHeartbeats 4000000
namespace Kw
open PySem PySem.Spec PyProof.Rows L2
abbrev sLInit : Stmt := inClass (top 36) 0
abbrev sLGaps : Stmt := inClass (top 36) 1
abbrev sLLen : Stmt := inClass (top 36) 2
abbrev sLItem : Stmt := inClass (top 36) 3
abbrev sLAdd : Stmt := inClass (top 36) 5
abbrev sLEq : Stmt := inClass (top 36) 6
abbrev sLUntil : Stmt := inClass (top 36) 7
abbrev sLWatch : Stmt := inClass (top 36) 8
/-! ### rows as data -/
def rowsD (rs : List Rw) : PyData := .tuple (rs.map rwD)
theorem lay_sg : ∀ g : Sg, PyData.canLay0 (sgD g) = true
  | .loc p q => by
    have h1 : PyData.strOk ("at" : Str) = true := by decide +kernel
    simp [sgD, sgW, sgT, PyData.canLay0, PyData.canLayAll0, lay_it, lay_pl, h1]
  | .bare b => by
    have h1 : PyData.strOk ("bare" : Str) = true := by decide +kernel
    simp [sgD, sgW, sgT, PyData.canLay0, PyData.canLayAll0, h1]
  | .inn b l => by
    have h1 : PyData.strOk ("in" : Str) = true := by decide +kernel
    simp [sgD, sgW, sgT, itsD, PyData.canLay0, PyData.canLayAll0, lay_its, h1]
  | .gone s => by
    have h1 : PyData.strOk ("gone" : Str) = true := by decide +kernel
    simp [sgD, sgW, sgT, PyData.canLay0, PyData.canLayAll0, h1]
  | .nt g => by
    have h1 : PyData.strOk ("not" : Str) = true := by decide +kernel
    have h2 := lay_sg g
    show (PyData.strOk ("not" : Str) && (PyData.canLay0 (sgD g) && true)) = true
    rw [h1, h2]
    rfl
theorem depth_sg : ∀ g : Sg, PyData.depth (sgD g) ≤ depS g + 3
  | .loc p q => by
    show max 0 (max (PyData.depth (itP p)) (max (PyData.depth (plD q)) 0)) + 1 ≤ 0 + 3
    rw [depth_it, depth_pl]
    decide
  | .bare b => by show max 0 (max 0 0) + 1 ≤ 0 + 3; decide
  | .inn b l => by
    have h := depth_its l
    show max 0 (max 0 (max (PyData.depthAll (l.map itP) + 1) 0)) + 1 ≤ 0 + 3
    omega
  | .gone s => by show max 0 (max 0 0) + 1 ≤ 0 + 3; decide
  | .nt g => by
    have h := depth_sg g
    show max 0 (max (PyData.depth (sgD g)) 0) + 1 ≤ (depS g + 1) + 3
    omega
theorem lay_rw : ∀ r : Rw, PyData.canLay0 (rwD r) = true
  | .gap zs => by
    have h1 : PyData.strOk ("gap" : Str) = true := by decide +kernel
    simp [rwD, intsD, PyData.canLay0, PyData.canLayAll0, ints_lay, h1]
  | .deed e => (sd_dd e).lay
  | .sight g => lay_sg g
theorem depth_rw : ∀ r : Rw, SmR r → PyData.depth (rwD r) ≤ 20
  | .gap zs, _ => by
    show max 0 (max (PyData.depthAll (zs.map .int) + 1) 0) + 1 ≤ 20
    rw [ints_depth]
    decide
  | .deed e, _ => by have := (sd_dd e).dep; show PyData.depth (ddD e) ≤ 20; omega
  | .sight g, h => by
    have := depth_sg g
    have := h.2
    show PyData.depth (sgD g) ≤ 20
    omega
theorem shaped_rows (rs : List Rw) (h : ∀ r ∈ rs, SmR r) : SeqAt.shaped (rowsD rs) = true := by
  have go : ∀ l : List Rw, PyData.canLayAll0 (l.map rwD) = true := by
    intro l
    induction l with
    | nil => rfl
    | cons a r ih =>
      show (PyData.canLay0 (rwD a) && PyData.canLayAll0 (r.map rwD)) = true
      rw [ih, lay_rw]
      rfl
  have hd : ∀ l : List Rw, (∀ r ∈ l, SmR r) → PyData.depthAll (l.map rwD) ≤ 20 := by
    intro l
    induction l with
    | nil => intro _; exact Nat.zero_le _
    | cons a r ih =>
      intro h
      have h1 := depth_rw a (h a (List.mem_cons_self ..))
      have h2 := ih fun x hx => h x (List.mem_cons_of_mem _ hx)
      show max (PyData.depth (rwD a)) (PyData.depthAll (r.map rwD)) ≤ 20
      omega
  have h1 := hd rs h
  simp [SeqAt.shaped, rowsD, PyData.canLay0, PyData.depth, go rs]
  omega
def rwW : Rw → Str
  | .gap _ => "gap"
  | .deed e => e.word
  | .sight g => sgW g
def isGap : Rw → Bool
  | .gap _ => true
  | _ => false
theorem rw_gap : ∀ r : Rw, decide (rwW r = ("gap" : Str)) = isGap r
  | .gap _ => decide_eq_true rfl
  | .deed e => decide_eq_false (by cases e <;> (simp only [rwW, Dd.word]; decide +kernel))
  | .sight g => decide_eq_false (by cases g <;> (simp only [rwW, sgW]; decide +kernel))
theorem rw_at {K : PySem.W.Frag} {H : Hp} {y : V} {r : Rw} (h : Dp K H y (rwD r)) : ∃ a vs, y = .ref a ∧ SqT K H a (.str (rwW r) :: vs) := by
  cases r with
  | gap zs =>
    cases h with
    | tup s ha =>
      cases ha with
      | cons d1 r =>
        cases d1
        exact ⟨_, _, rfl, s⟩
  | deed e =>
    obtain ⟨a, vs, e1, s, _⟩ := dd_at h
    exact ⟨a, _, e1, s⟩
  | sight g =>
    obtain ⟨a, vs, e1, s, _⟩ := sg_at h
    exact ⟨a, _, e1, s⟩
/-- a gap's row -/
theorem gap_at {K : PySem.W.Frag} {H : Hp} {y : V} {zs : List Int} (h : Dp K H y (rwD (.gap zs))) : ∃ a t, y = .ref a ∧ SqT K H a [.str ("gap" : Str), .ref t] ∧ SqT K H t (zs.map V.int) := by
  cases h with
  | tup s ha =>
    cases ha with
    | cons d1 r =>
      cases r with
      | cons d2 r =>
        cases r
        cases d1
        cases d2 with
        | tup st hz =>
          have ez := ints_at hz
          subst ez
          exact ⟨_, _, rfl, s, st⟩
/-! ### class Log -/
structure LogC (K : PySem.W.Frag) (CL : Addr) : Prop where
  cl : Cls K CL
  nH : NoAttr K CL "house"
  nR : NoAttr K CL "rows"
structure LogAt (K : PySem.W.Frag) (C CL : Addr) (H : Hp) (a h : Addr) (d : Hs) (rs : List Rw) : Prop where
  hh : HouseAt K C H h d
  ex : ∃ dx fs t xs, H a = some (.ins CL dx fs) ∧ fs.lookup ("house" : Str) = some (.ref h) ∧ fs.lookup ("rows" : Str) = some (.ref t) ∧ (∀ x : Str, ¬ x = "house" → ¬ x = "rows" → fs.lookup x = none) ∧ SqT K H t xs ∧ DpAll K H xs (rs.map rwD)
theorem LogAt.nl {K : PySem.W.Frag} {C CL : Addr} {H H' : Hp} {a h : Addr} {d : Hs} {rs : List Rw} (k : Nl H H') (x : LogAt K C CL H a h d rs) : LogAt K C CL H' a h d rs := by
  obtain ⟨dx, fs, t, xs, h0, h1, h2, h3, h4, h5⟩ := x.ex
  exact ⟨x.hh.nl k, dx, fs, t, xs, k _ _ h0 (fun _ z => nomatch z) (fun _ z => nomatch z), h1, h2, h3, SqT.nl k h4, Dp.nls k _ _ (noLs_rw rs) h5⟩
theorem LogAt.same {K : PySem.W.Frag} {C CL : Addr} {H H' : Hp} {a h : Addr} {d : Hs} {rs : List Rw} (k : Same H H') (x : LogAt K C CL H a h d rs) : LogAt K C CL H' a h d rs := x.nl (nl_same k)
structure OnceY (P : Program) (w : World) (K : PySem.W.Frag) (mg : Str → Option Value) (base : Heap) (x : Str) (n : Nat) (ps : List Str) (sp : Sp) (g : Addr) (fd : FuncData) : Prop where
  G : FnOk P w K mg base (L2.CX P w) n g fd ps sp
  m : mg x = some (.ref g)
  k : PySem.W.keepIn K (.ref g) = true
  b : Binds K fd ps []
section
variable {P : Program} {w : World} {K : PySem.W.Frag} {mg : Str → Option Value} {base : Heap}
def spLInit (K : PySem.W.Frag) (C CL XL : Addr) : Sp := fun vs H Q E => ∃ (a dx h t : Addr) (xs : List V) (rs : List Rw) (d : Hs), vs = [.ref a, .ref h, .ref t] ∧ H a = some (.ins CL dx []) ∧ HouseAt K C H h d ∧ RowsAt K H t xs rs ∧ xs.length ≤ 1000 ∧ (∀ r ∈ rs, SmR r) ∧
  (∀ i, BadAt d rs i → Rx XL i H E) ∧ (rs.length ≤ 30 → (∀ r ∈ rs, okR d r) → ∀ H', But a H H' → LogAt K C CL H' a h d rs → Q .non H')
theorem scLInit : FnScope ["self", "house", "rows"] ["self", "house", "rows"] (defScope sLInit) := ⟨rfl, rfl, rfl, by decide +kernel, rfl, by decide +kernel, by decide +kernel⟩
theorem but_nl {a C dx : Addr} {fs : List (Str × V)} {H H' : Hp} (ha : H a = some (.ins C dx fs)) (b : But a H H') : Tp H H' := fun c xs e => by
  rcases e with e | ⟨o, e⟩
  · exact .inl (b c _ e (ne_of e ha (by intro z; cases z)))
  · exact .inr ⟨o, b c _ e (ne_of e ha (by intro z; cases z))⟩
theorem sqT_tp {H H' : Hp} {a : Addr} {xs : List V} (k : Tp H H') (h : SqT K H a xs) : SqT K H' a xs := by
  rcases h with h | h
  · exact .inl (k _ _ h)
  · exact .inr h
theorem house_but {C CL a dx : Addr} {fs : List (Str × V)} {H H' : Hp} {h : Addr} {d : Hs} (hne : h ≠ a) (ha : H a = some (.ins CL dx fs)) (b : But a H H') (x : HouseAt K C H h d) : HouseAt K C H' h d := by
  obtain ⟨dh, vb, vt, vs, vst, g0, g1, g2, g3, g4⟩ := x.ex
  have k := but_nl ha b
  exact ⟨dh, vb, vt, vs, vst, b _ _ g0 hne, Dp.tp k _ _ (noL_pls _) g1, Dp.tp k _ _ (noL_pls _) g2, Dp.tp k _ _ (noL_pls _) g3, Dp.tp k _ _ (noL_st _) g4⟩
theorem ok_linit {f gR C CL XL : Addr} {fd fdR : FuncData} (F : Fun K "__init__" "Log.__init__" sLInit f fd) (B : Bt mg) (LC : LogC K CL) (NR : OnceY P w K mg base "need_rows" 8 ["house", "rows"] (spNRows K C XL) gR fdR) :
    FnOk P w K mg base (L2.CX P w) 9 f fd ["self", "house", "rows"] (spLInit K C CL XL) := by
  refine F.okX scLInit (fun vs H Q E h => ?_) (fun cdv A outer s H vs Q E hr h => ?_)
  · obtain ⟨a, dx, h, t, xs, rs, d, rfl, _⟩ := h
    rfl
  · obtain ⟨a, dx, h, t, xs, rs, d, rfl, ha, hh, hrw, hl, hm, kE, kQ⟩ := h
    have tk : Takes (cxOf (L2.CX P w) P w K mg base ["self", "house", "rows"] "Log.__init__" (defScope sLInit) f cdv A outer s H E) (fun cls d _ H => E cls d H) := takes_of rfl rfl rfl rfl
    refine ⟨_, (pss_cons (ps_expr (pe_call NR.G hr rfl NR.m NR.k NR.b .nil (passes_call tk (fun _ _ _ _ h => h)) (pa_cons (pv 1) (pa_cons (pv 2) pa_nil)))) (pss_cons (ps_fld (pv 0) (pv 1) rfl) (pss_one (ps_fld (pv 0) (pe_callTy call_tuple_of (by rfl) B.tup (by decide +kernel) (pa_cons (pv 2) pa_nil)) rfl)))), ?_⟩
    have nh : h ≠ a := by
      obtain ⟨dh, vb, vt, vs, vst, g0, _⟩ := hh.ex
      intro z
      rw [z, ha] at g0
      have := Option.some.inj g0
      injection this with _ _ q
      have z2 := fs_hands d.hands vb vt vs vst
      rw [← q] at z2
      cases z2
    refine ⟨_, rfl, _, rfl, h, t, xs, rs, d, rfl, hh, hrw, hl, hm, kE, fun l30 ok H1 e1 => ?_⟩
    have ha1 := e1 _ _ ha
    refine ⟨_, rfl, _, rfl, a, CL, dx, _, rfl, ha1, LC.cl, LC.nH, (by show 0 < 1000; decide), ?_⟩
    have fin : ∀ (t' : Addr) (H2 : Hp), (∀ b o, H1 b = some o → b ≠ a → H2 b = some o) → H2 a = some (.ins CL dx (putF "house" (.ref h) [])) → SqT K H2 t' xs → Q .non (L2.upd H2 a (.ins CL dx (putF "rows" (.ref t') (putF "house" (.ref h) [])))) := fun t' H2 b2 ha2 st => by
      have bt : But a H (L2.upd H2 a (.ins CL dx (putF "rows" (.ref t') (putF "house" (.ref h) [])))) := fun b o e ne => by rw [upd_ne ne]; exact b2 _ _ (e1 _ _ e) ne
      have bt2 : But a H2 (L2.upd H2 a (.ins CL dx (putF "rows" (.ref t') (putF "house" (.ref h) [])))) := fun b o e ne => by rw [upd_ne ne]; exact e
      refine kQ l30 ok _ bt ⟨house_but nh ha bt hh, dx, _, t', xs, upd_same, ?_, ?_, ?_, sqT_tp (but_nl ha2 bt2) st, Dp.tps (but_nl ha bt) _ _ (noLs_rw rs) hrw.2⟩
      · rw [lookup_putF, if_neg (by decide +kernel), lookup_putF, if_pos rfl]
      · rw [lookup_putF, if_pos rfl]
      · intro x n1 n2
        rw [lookup_putF, if_neg n2, lookup_putF, if_neg n1]
        rfl
    have lf : (putF "house" (.ref h) ([] : List (Str × V))).length < 1000 := by
      have a4 := length_putF "house" (.ref h) []
      have a5 : ([] : List (Str × V)).length = 0 := rfl
      omega
    have b1 : ∀ b o, H1 b = some o → b ≠ a → (L2.upd H1 a (.ins CL dx (putF "house" (.ref h) []))) b = some o := fun b o e ne => by rw [upd_ne ne]; exact e
    rcases hrw.1 with ht | ht
    · have ht2 : SqL K (L2.upd H1 a (.ins CL dx (putF "house" (.ref h) []))) t xs := by
        rcases sqL_same e1 ht with (q | ⟨o, q⟩) | q
        · exact .inl (.inl (by rw [upd_ne (ne_of q ha1 (by intro z; cases z))]; exact q))
        · exact .inl (.inr ⟨o, by rw [upd_ne (ne_of q ha1 (by intro z; cases z))]; exact q⟩)
        · exact .inr q
      refine ⟨_, rfl, t, xs, rfl, .inl ⟨ht2, fun t' ht' => ?_⟩⟩
      have na : t' ≠ a := fun z => by rw [z, upd_same] at ht'; cases ht'
      have f1 := same_upd (o := HO.tup xs) ht'
      exact ⟨_, rfl, a, CL, dx, _, rfl, f1 _ _ upd_same, LC.cl, LC.nR, lf, fin t' _ (fun b o e ne => f1 _ _ (b1 b o e ne)) (f1 _ _ upd_same) (SqT.of upd_same)⟩
    · have bt1 : But a H1 (L2.upd H1 a (.ins CL dx (putF "house" (.ref h) []))) := fun b o e ne => by rw [upd_ne ne]; exact e
      exact ⟨_, rfl, t, xs, rfl, .inr ⟨sqT_tp (but_nl ha1 bt1) (SqT.same e1 ht), _, rfl, a, CL, dx, _, rfl, upd_same, LC.cl, LC.nR, lf, fin t _ b1 upd_same (sqT_tp (but_nl ha1 bt1) (SqT.same e1 ht))⟩⟩
end
end Kw

set_option Elab.async false
set_option linter.all false
set_option maxRecDepth 100000
set_option maxHeartbeats 4000000
namespace Kw
open PySem PySem.Spec PyProof.Rows L2
theorem weakN {P : Program} {w : World} {K : PySem.W.Frag} {mg : Str → Option Value} {base : Heap} {k : Nat} {f : Addr} {fd : FuncData} {ps : List Str} {sp : Sp} (F : FnOk P w K mg base (L2N.CX P w) k f fd ps sp) : FnOk P w K mg base (L2.CX P w) k f fd ps sp :=
  ⟨F.len, fun A outer s H args us vs Q E hr e0 hb r h => codeAny_mono (F.run A outer s H args us vs Q E hr e0 hb r h) fun r s' x => by
    cases r with
    | error e =>
      obtain ⟨a, B, H', cls, d, h1, h2, h3⟩ := (show L2N.CX P w outer H s E e s' from x)
      exact (show L2.CX P w outer H s E e s' from ⟨a, B, H', cls, d, h1, L2H.flyingZ_imp (fun o z => z.zc) h2, h3⟩)
    | ok fl => cases fl <;> exact x⟩
theorem okH_iff {n : Int} {zs : List Int} : (∀ i, okH n zs i) ↔ (∀ z ∈ zs, numOk z n = true) ∧ zs.Pairwise (· < ·) := by
  constructor
  · intro h
    refine ⟨fun z hz => ?_, ?_⟩
    · obtain ⟨i, hi⟩ := List.mem_iff_getElem?.mp hz
      exact (h i z hi).1
    · have step : ∀ (k i : Nat) (z z' : Int), zs[i]? = some z → zs[i + k + 1]? = some z' → z < z' := by
        intro k
        induction k with
        | zero =>
          intro i z z' h1 h2
          exact (h (i + 0 + 1) z' h2).2 z (by omega) h1
        | succ k ih =>
          intro i z z' h1 h2
          have hl := (List.getElem?_eq_some_iff.mp h2).1
          obtain ⟨y, hy⟩ : ∃ y, zs[i + k + 1]? = some y := ⟨_, List.getElem?_eq_getElem (by omega)⟩
          have a1 := ih i z y h1 hy
          have a2 := (h (i + (k + 1) + 1) z' h2).2 y (by omega) (by rw [show i + (k + 1) + 1 - 1 = i + k + 1 by omega]; exact hy)
          omega
      refine List.pairwise_iff_getElem.mpr fun i j hi hj hij => ?_
      refine step (j - i - 1) i _ _ (List.getElem?_eq_getElem hi) ?_
      rw [show i + (j - i - 1) + 1 = j by omega]
      exact List.getElem?_eq_getElem hj
  · rintro ⟨h1, h2⟩ i z hz
    refine ⟨h1 z (List.mem_of_getElem? hz), fun z' h0 hz' => ?_⟩
    obtain ⟨i1, q1⟩ := List.getElem?_eq_some_iff.mp hz
    obtain ⟨i2, q2⟩ := List.getElem?_eq_some_iff.mp hz'
    have := List.pairwise_iff_getElem.mp h2 (i - 1) i i2 i1 (by omega)
    rw [q1, q2] at this
    exact this
/-- the hands of a gap that are among some -/
def keepR (zs : List Int) : Rw → Rw
  | .gap ys => .gap (ys.filter fun y => decide (y ∈ zs))
  | r => r
theorem keep_ok {d : Hs} {zs : List Int} {r : Rw} (h : RwOk d r) : RwOk d (keepR zs r) := by
  cases r with
  | gap ys =>
    have h1 := okH_iff.mp h.1
    refine ⟨okH_iff.mpr ⟨fun z hz => h1.1 z (List.mem_filter.mp hz).1, h1.2.sublist List.filter_sublist⟩, ?_⟩
    have a : ys.length ≤ 100 := h.2
    have b := List.length_filter_le (fun y => decide (y ∈ zs)) ys
    show (ys.filter fun y => decide (y ∈ zs)).length ≤ 100
    omega
  | deed e => exact h
  | sight g => exact h
theorem inV_ints (z : Int) : ∀ zs : List Int, inV (.int z) (zs.map V.int) = decide (z ∈ zs)
  | [] => by simp [inV]
  | y :: zs => by
    have ih := inV_ints z zs
    simp only [inV, List.map_cons, List.any_cons, eqV] at ih ⊢
    rw [ih]
    by_cases c : y = z
    · subst c
      simp
    · have c' : ¬ z = y := fun q => c q.symm
      simp [c, c']
theorem flat_ints : ∀ zs : List Int, (zs.map V.int).all flatV = true
  | [] => rfl
  | z :: zs => by
    show (flatV (.int z) && (zs.map V.int).all flatV) = true
    rw [flat_ints zs]
    rfl
def gapIx (rs : List Rw) : List Nat := (List.range rs.length).filter fun i => (rs[i]?.map isGap).getD false
/-- a log whose rows can be -/
structure Vld (d : Hs) (rs : List Rw) : Prop where
  l : rs.length ≤ 30
  ok : ∀ r ∈ rs, RwOk d r
theorem Vld.take {d : Hs} {rs : List Rw} (v : Vld d rs) (n : Nat) : Vld d (rs.take n) := ⟨by have := v.l; have := List.length_take_le n rs; have := List.length_take (i := n) (l := rs); omega, fun r hr => v.ok r (List.mem_of_mem_take hr)⟩
theorem Vld.keep {d : Hs} {rs : List Rw} (v : Vld d rs) (zs : List Int) : Vld d (rs.map (keepR zs)) := ⟨by rw [List.length_map]; exact v.l, fun r hr => by
  obtain ⟨q, hq, rfl⟩ := List.mem_map.mp hr
  exact keep_ok (v.ok q hq)⟩
theorem Vld.bad {d : Hs} {rs : List Rw} (v : Vld d rs) {i : Nat} (b : BadAt d rs i) : False := by
  obtain ⟨h1, h2, h3 | ⟨r, hr, hn⟩⟩ := b
  · have := v.l
    omega
  · exact hn (v.ok r (List.mem_of_getElem? hr)).1
section
variable {P : Program} {w : World} {K : PySem.W.Frag} {mg : Str → Option Value} {base : Heap}
structure LMk (P : Program) (w : World) (K : PySem.W.Frag) (mg : Str → Option Value) (base : Heap) (C CL XL g : Addr) (fd : FuncData) : Prop where
  M : Mk K CL g
  G : FnOk P w K mg base (L2.CX P w) 9 g fd ["self", "house", "rows"] (spLInit K C CL XL)
  m : mg "Log" = some (.ref CL)
  b : Binds K fd ["self", "house", "rows"] []
theorem log_made {C CL XL h t : Addr} {xs : List V} {rs : List Rw} {d : Hs} {H : Hp} {Q : VK} {E : XK} (hh : HouseAt K C H h d) (hr : RowsAt K H t xs rs) (hl : xs.length ≤ 1000) (hm : ∀ r ∈ rs, SmR r) (bad : ∀ i, BadAt d rs i → Rx XL i H E)
    (ok : rs.length ≤ 30 → (∀ r ∈ rs, okR d r) → ∀ a H', Same H H' → H a = none → LogAt K C CL H' a h d rs → Q (.ref a) H') :
    ∀ x dx, H x = none → H dx = none → dx ≠ x → spLInit K C CL XL (.ref x :: ([.ref h, .ref t] ++ [])) (L2.upd (L2.upd H dx (.own x)) x (.ins CL dx [])) (fun v H2 => v = .non ∧ Q (.ref x) H2) E := by
  intro x dx nx ndx ne
  have hx' : (L2.upd H dx (.own x)) x = none := by rw [upd_ne ne.symm]; exact nx
  have e1 : Same H (L2.upd (L2.upd H dx (.own x)) x (.ins CL dx [])) := Same.upd2 (same_upd ndx) hx'
  refine ⟨x, dx, h, t, xs, rs, d, rfl, upd_same, hh.nl (nl_same e1), ⟨?_, Dp.sames e1 _ _ hr.2⟩, hl, hm, fun i b => (bad i b).same e1, fun l30 o H' bt la => ⟨rfl, ok l30 o x H' (fun c u hc => bt c u (e1 c u hc) (ne_of_none hc nx)) nx la⟩⟩
  rcases hr.1 with q | q
  · exact .inl (sqL_same e1 q)
  · exact .inr (SqT.same e1 q)
theorem log_madeX {C CL XL h t : Addr} {xs : List V} {rs : List Rw} {d : Hs} {H : Hp} {Qx : Addr → Hp → Prop} {E : XK} (hh : HouseAt K C H h d) (hr : RowsAt K H t xs rs) (hl : xs.length ≤ 1000) (hm : ∀ r ∈ rs, SmR r) (bad : ∀ i, BadAt d rs i → Rx XL i H E)
    (ok : rs.length ≤ 30 → (∀ r ∈ rs, okR d r) → ∀ a H', Same H H' → H a = none → LogAt K C CL H' a h d rs → Qx a H') :
    ∀ x dx, H x = none → H dx = none → dx ≠ x → spLInit K C CL XL (.ref x :: ([.ref h, .ref t] ++ [])) (L2.upd (L2.upd H dx (.own x)) x (.ins CL dx [])) (fun v H2 => v = .non ∧ Qx x H2) E := by
  intro x dx nx ndx ne
  have hx' : (L2.upd H dx (.own x)) x = none := by rw [upd_ne ne.symm]; exact nx
  have e1 : Same H (L2.upd (L2.upd H dx (.own x)) x (.ins CL dx [])) := Same.upd2 (same_upd ndx) hx'
  refine ⟨x, dx, h, t, xs, rs, d, rfl, upd_same, hh.nl (nl_same e1), ⟨?_, Dp.sames e1 _ _ hr.2⟩, hl, hm, fun i b => (bad i b).same e1, fun l30 o H' bt la => ⟨rfl, ok l30 o x H' (fun c u hc => bt c u (e1 c u hc) (ne_of_none hc nx)) nx la⟩⟩
  rcases hr.1 with q | q
  · exact .inl (sqL_same e1 q)
  · exact .inr (SqT.same e1 q)
/-! ### gaps, len, items -/
def spLGaps (K : PySem.W.Frag) (C CL : Addr) : Sp := fun vs H Q _ => ∃ (a h : Addr) (d : Hs) (rs : List Rw), vs = [.ref a] ∧ LogAt K C CL H a h d rs ∧ rs.length ≤ 1000 ∧ ∀ p H', Same H H' → H p = none → H' p = some (.lst (nV (gapIx rs))) → Q (.ref p) H'
theorem scLGaps : FnScope ["self", "index", "row"] ["self"] (defScope sLGaps) := ⟨rfl, rfl, rfl, by decide +kernel, rfl, by decide +kernel, by decide +kernel⟩
theorem gapIx_succ {rs : List Rw} {i : Nat} {r : Rw} (h : rs[i]? = some r) : (List.range (i + 1)).filter (fun i => (rs[i]?.map isGap).getD false) = (List.range i).filter (fun i => (rs[i]?.map isGap).getD false) ++ (if isGap r = true then [i] else []) := by
  rw [List.range_succ, List.filter_append]
  congr 1
  simp only [List.filter_cons, List.filter_nil, h, Option.map_some, Option.getD_some]
theorem ok_lgaps {f C CL : Addr} {fd : FuncData} (F : Fun K "gaps" "Log.gaps" sLGaps f fd) (B : Bt mg) (LC : LogC K CL) : FnOk P w K mg base CX0 1 f fd ["self"] (spLGaps K C CL) := by
  refine F.ok scLGaps (fun vs H Q E h => ?_) (fun cdv A outer s H vs Q E hr h => ?_)
  · obtain ⟨a, h, d, rs, rfl, _⟩ := h
    rfl
  · obtain ⟨a, h, d, rs, rfl, la, hl, k⟩ := h
    refine ⟨_, pss_one (ps_ret (pe_lc (own := [("index", 1), ("row", 2)]) (g := gTup K 2 (gCons (gName 1) (gCons (gName 2) gNil))) (tt := tTest (tOp rEq (tOp (rIxT K) (tVar 2) (tC (.int 0))) (tC (.str ("gap" : Str))))) (te := tVar 1) rfl scLGaps.nd
        (pi_enumT (by rfl) B.enu (pa_cons (pe_fld (pv 0) rfl) pa_nil))
        (blkOk_by (own := [("index", 1), ("row", 2)]) (N := ["self", "index", "row"]) (sc := defScope sLGaps) (by decide +kernel)) (fun _ _ _ _ _ => pg_tup (by rfl) (pgs_cons (pg_name (i := 1) scLGaps.nd rfl (.inl rfl)) (pgs_cons (pg_name (i := 2) scLGaps.nd rfl (.inl rfl)) pgs_nil)))
        (fun _ _ _ _ _ => pts_one (pt_cmpR op_eq (pe_ix ix_tup (pv 2) pe_int (fun _ _ => rfl)) pe_str (nomark _))) (fun _ _ _ _ _ => pv 1))), ?_⟩
    obtain ⟨dx, fs, t, xs, h0, h1, h2, h3, h4, h5⟩ := la.ex
    have lx := rows_len h5
    refine ⟨_, rfl, a, CL, dx, _, _, rfl, h0, LC.cl, LC.nR, h2, t, xs, rfl, h4, fun D hD => ?_⟩
    have e0 : ∀ (H' : Hp) (o : HO), Same H H' → Same H (L2.upd H' D o) := fun H' o e c u h => by rw [upd_ne (ne_of_none h hD)]; exact e c u h
    refine lc_enumT (K := K) (a := t) (xs := xs) (fun n H' => Same H H' ∧ H' D = some (.lst (nV ((List.range n).filter fun i => (rs[i]?.map isGap).getD false)))) ⟨same_upd hD, upd_same⟩ (fun n H' _ p => SqT.same p.1 h4) ?_ ?_
    · rintro n y H' T hy ⟨e, hz⟩ hT
      have hn := (List.getElem?_eq_some_iff.mp hy).1
      obtain ⟨dr, hdr, hdy⟩ := DpAll.get h5 hy
      obtain ⟨r, hrr⟩ : ∃ r, rs[n]? = some r := ⟨_, List.getElem?_eq_getElem (by omega)⟩
      rw [List.getElem?_map, hrr] at hdr
      cases hdr
      have f0 := same_upd (o := HO.tup [.int (n : Nat), y]) hT
      obtain ⟨ay, vs, rfl, sy⟩ := rw_at (Dp.same (e.trans f0) _ _ hdy)
      refine ⟨T, _, rfl, SqT.of upd_same, rfl, _, _, rfl, _, _, rfl, rfl, wipe_two _ 1 2 _ _ (by decide), _, rfl, ay, _, 0, _, rfl, rfl, sy, atI_nat (j := 0) rfl, rfl, _, rfl, ?_⟩
      rw [decS, rw_gap]
      have hz' := f0 _ _ hz
      have ln : (nV ((List.range n).filter fun i => (rs[i]?.map isGap).getD false)).length ≤ n := by
        rw [nv_len]
        have := List.length_filter_le (fun i => (rs[i]?.map isGap).getD false) (List.range n)
        rw [List.length_range] at this
        exact this
      refine ite_b _ (fun c => ?_) (fun c => ?_)
      · refine ⟨_, rfl, _, hz', by rw [sizeLine_eq]; omega, e0 _ _ (e.trans f0), ?_⟩
        rw [gapIx_succ hrr, c, if_pos rfl]
        have : nV ((List.range n).filter (fun i => (rs[i]?.map isGap).getD false) ++ [n]) = nV ((List.range n).filter fun i => (rs[i]?.map isGap).getD false) ++ [.int (n : Nat)] := by
          unfold nV
          rw [List.map_append]
          rfl
        rw [this]
        exact upd_same
      · refine ⟨e.trans f0, ?_⟩
        rw [gapIx_succ hrr, c, if_neg (by decide), List.append_nil]
        exact hz'
    · rintro H' ⟨e, hz⟩
      refine k D _ e hD ?_
      unfold gapIx
      rw [← lx]
      exact hz
def spLLen (K : PySem.W.Frag) (C CL : Addr) : Sp := fun vs H Q _ => ∃ (a h : Addr) (d : Hs) (rs : List Rw), vs = [.ref a] ∧ LogAt K C CL H a h d rs ∧ Q (.int (rs.length : Nat)) H
theorem scLLen : FnScope ["self"] ["self"] (defScope sLLen) := ⟨rfl, rfl, rfl, by decide +kernel, rfl, by decide +kernel, by decide +kernel⟩
theorem ok_llen {f C CL : Addr} {fd : FuncData} (F : Fun K "__len__" "Log.__len__" sLLen f fd) (B : Bt mg) (LC : LogC K CL) : FnOk P w K mg base CX0 1 f fd ["self"] (spLLen K C CL) := by
  refine F.ok scLLen (fun vs H Q E h => ?_) (fun cdv A outer s H vs Q E hr h => ?_)
  · obtain ⟨a, h, d, rs, rfl, _⟩ := h
    rfl
  · obtain ⟨a, h, d, rs, rfl, la, k⟩ := h
    refine ⟨_, (pss_one (ps_ret (pe_callB call_len_seq (by rfl) B.len PySem.boot_len (pa_cons (pe_fld (pv 0) rfl) pa_nil)))), ?_⟩
    obtain ⟨dx, fs, t, xs, h0, h1, h2, h3, h4, h5⟩ := la.ex
    refine ⟨_, rfl, a, CL, dx, _, _, rfl, h0, LC.cl, LC.nR, h2, t, xs, rfl, .inr h4, ?_⟩
    rw [rows_len h5]
    exact k
def spLItem (K : PySem.W.Frag) (C CL : Addr) : Sp := fun vs H Q _ => ∃ (a h : Addr) (d : Hs) (rs : List Rw) (i : Nat) (r : Rw), vs = [.ref a, .int (i : Nat)] ∧ LogAt K C CL H a h d rs ∧ rs[i]? = some r ∧ ∀ y, Dp K H y (rwD r) → Q y H
theorem scLItem : FnScope ["self", "index"] ["self", "index"] (defScope sLItem) := ⟨rfl, rfl, rfl, by decide +kernel, rfl, by decide +kernel, by decide +kernel⟩
theorem ok_litem {f C CL : Addr} {fd : FuncData} (F : Fun K "__getitem__" "Log.__getitem__" sLItem f fd) (B : Bt mg) (LC : LogC K CL) : FnOk P w K mg base CX0 1 f fd ["self", "index"] (spLItem K C CL) := by
  refine F.ok scLItem (fun vs H Q E h => ?_) (fun cdv A outer s H vs Q E hr h => ?_)
  · obtain ⟨a, h, d, rs, i, r, rfl, _⟩ := h
    rfl
  · obtain ⟨a, h, d, rs, i, r, rfl, la, hi, k⟩ := h
    refine ⟨_, (pss_one (ps_ret (pe_ix ix_tup (pe_fld (pv 0) rfl) (pv 1) (fun _ _ => rfl)))), ?_⟩
    obtain ⟨dx, fs, t, xs, h0, h1, h2, h3, h4, h5⟩ := la.ex
    obtain ⟨y, hy, dy⟩ := DpAll.at2 h5 (i := i) (d := rwD r) (by rw [List.getElem?_map, hi]; rfl)
    exact ⟨_, rfl, a, CL, dx, _, _, rfl, h0, LC.cl, LC.nR, h2, _, rfl, t, xs, (i : Nat), y, rfl, rfl, h4, atI_nat hy, k y dy⟩
end
end Kw

set_option Elab.async false
set_option linter.all false
set_option maxRecDepth 100000
set_option maxHeartbeats 4000000
namespace Kw
open PySem PySem.Spec PyProof.Rows L2
section
variable {P : Program} {w : World} {K : PySem.W.Frag} {mg : Str → Option Value} {base : Heap}
/-! ### == -/
/-- == of houses, by their own method -/
structure EqF (P : Program) (w : World) (K : PySem.W.Frag) (mg : Str → Option Value) (base : Heap) (C g : Addr) (fd : FuncData) : Prop where
  G : FnOk P w K mg base CX0 1 g fd ["self", "other"] (spEqH K C)
  s : PySem.W.findIn K (.ref C) "__eq__" = some (some (.ref g))
  i : PySem.W.isFn K (.ref g) = true
  b : Binds K fd ["self", "other"] []
def eqHs (d e : Hs) : Bool := decide (d.hands = e.hands) && PyData.eqv (stD d) (stD e)
def spLEq (K : PySem.W.Frag) (C CL : Addr) : Sp := fun vs H Q _ => ∃ (a b h g : Addr) (d e : Hs) (rs qs : List Rw), vs = [.ref a, .ref b] ∧ LogAt K C CL H a h d rs ∧ LogAt K C CL H b g e qs ∧ (∀ r ∈ rs, SmR r) ∧ (∀ r ∈ qs, SmR r) ∧ Q (.bl (eqHs d e && PyData.eqv (rowsD rs) (rowsD qs))) H
theorem scLEq : FnScope ["self", "other"] ["self", "other"] (defScope sLEq) := ⟨rfl, rfl, rfl, by decide +kernel, rfl, by decide +kernel, by decide +kernel⟩
theorem ok_leq {f g C CL : Addr} {fd fdg : FuncData} (F : Fun K "__eq__" "Log.__eq__" sLEq f fd) (B : Bt mg) (LC : LogC K CL) (I : HouseI K CL) (mL : mg "Log" = some (.ref CL)) (EH : EqF P w K mg base C g fdg) : FnOk P w K mg base CX0 2 f fd ["self", "other"] (spLEq K C CL) := by
  refine F.ok scLEq (fun vs H Q E h => ?_) (fun cdv A outer s H vs Q E hr h => ?_)
  · obtain ⟨a, b, h, g, d, e, rs, qs, rfl, _⟩ := h
    rfl
  · obtain ⟨a, b, h, g, d, e, rs, qs, rfl, la, lb, hm, hn, k⟩ := h
    have hu : (cxOf CX0 P w K mg base ["self", "other"] "Log.__eq__" (defScope sLEq) f cdv A outer s H E).nox.A.units + 64 < cLine := hr.units
    refine ⟨_, pss_one (ps_ret (pe_and (pe_callB call_isi (by rfl) B.isi (by decide +kernel) (pa_cons (pv 1) (pa_cons (pe_glob (v := .ref CL) rfl mL rfl) pa_nil)))
      (pe_and (pe_cmpR (op_eqOwn EH.G EH.s EH.i hr EH.b pass0) (pe_fld (pv 0) rfl) (pe_fld (pv 1) rfl) (by rfl)) (pe_one (pe_cmpR (op_eqD hu) (pe_fld (pv 0) rfl) (pe_fld (pv 1) rfl) (nomark _)))))), ?_⟩
    obtain ⟨dx, fs, t, xs, h0, h1, h2, h3, h4, h5⟩ := la.ex
    obtain ⟨dy, gs, u, ys, g0, g1, g2, g3, g4, g5⟩ := lb.ex
    obtain ⟨d1, vb1, vt1, vs1, vst1, q0, _⟩ := id la.hh.ex
    obtain ⟨d2, vb2, vt2, vs2, vst2, p0, _⟩ := id lb.hh.ex
    refine ⟨_, rfl, _, _, _, _, true, rfl, .own CL, .base (.ins g0 LC.cl I.ha I.hn I.htk I.hm), I.kit, _, rfl, iteT ?_⟩
    refine ⟨_, rfl, a, CL, dx, _, _, rfl, h0, LC.cl, LC.nH, h1, _, rfl, b, CL, dy, _, _, rfl, g0, LC.cl, LC.nH, g1, h, g, d1, _, d2, _, rfl, rfl, q0, p0, h, g, d, e, rfl, la.hh, lb.hh, _, rfl, _, rfl, ?_⟩
    have ek : (decide (d.hands = e.hands) && PyData.eqv (stD d) (stD e)) = eqHs d e := rfl
    rw [ek]
    cases c : eqHs d e with
    | false =>
      rw [c] at k
      exact iteF k
    | true =>
      rw [c] at k
      refine iteT ?_
      exact ⟨_, rfl, a, CL, dx, _, _, rfl, h0, LC.cl, LC.nR, h2, _, rfl, b, CL, dy, _, _, rfl, g0, LC.cl, LC.nR, g2, rowsD rs, rowsD qs, .tup h4 h5, .tup g4 g5, shaped_rows rs hm, shaped_rows qs hn, k⟩
/-! ### + -/
def spLAdd (K : PySem.W.Frag) (C CL XL : Addr) : Sp := fun vs H Q E => ∃ (a b h : Addr) (d : Hs) (rs qs : List Rw) (ys : List V), vs = [.ref a, .ref b] ∧ LogAt K C CL H a h d rs ∧ SqL K H b ys ∧ DpAll K H ys (qs.map rwD) ∧ rs.length ≤ 400 ∧ qs.length ≤ 400 ∧ (∀ r ∈ rs ++ qs, SmR r) ∧
  (∀ i, BadAt d (rs ++ qs) i → Rx XL i H E) ∧ ((rs ++ qs).length ≤ 30 → (∀ r ∈ rs ++ qs, okR d r) → ∀ a' H', Same H H' → H a' = none → LogAt K C CL H' a' h d (rs ++ qs) → Q (.ref a') H')
theorem scLAdd : FnScope ["self", "rows"] ["self", "rows"] (defScope sLAdd) := ⟨rfl, rfl, rfl, by decide +kernel, rfl, by decide +kernel, by decide +kernel⟩
theorem Kw_none {H H' : Hp} (e : Same H H') {a : Addr} (h : H' a = none) : H a = none := by
  cases q : H a with
  | none => rfl
  | some o => rw [e a o q] at h; cases h
theorem ok_ladd {f g C CL XL : Addr} {fd fdg : FuncData} (F : Fun K "__add__" "Log.__add__" sLAdd f fd) (B : Bt mg) (LC : LogC K CL) (M : LMk P w K mg base C CL XL g fdg) : FnOk P w K mg base (L2.CX P w) 11 f fd ["self", "rows"] (spLAdd K C CL XL) := by
  refine F.okX scLAdd (fun vs H Q E h => ?_) (fun cdv A outer s H vs Q E hr h => ?_)
  · obtain ⟨a, b, h, d, rs, qs, ys, rfl, _⟩ := h
    rfl
  · obtain ⟨a, b, h, d, rs, qs, ys, rfl, la, hb, hys, l1, l2, hm, kE, kQ⟩ := h
    have tk : Takes (cxOf (L2.CX P w) P w K mg base ["self", "rows"] "Log.__add__" (defScope sLAdd) f cdv A outer s H E) (fun cls d _ H => E cls d H) := takes_of rfl rfl rfl rfl
    have l5 := sizeLine_eq
    refine ⟨_, (pss_one (ps_ret (pe_make M.M M.G hr rfl M.m M.b .nil (passes_call tk (fun _ _ _ _ h => h)) (pa_cons (pe_fld (pv 0) rfl) (pa_cons (pe_op op_catA (pe_fld (pv 0) rfl) (pe_callTy call_tuple_of (by rfl) B.tup (by decide +kernel) (pa_cons (pv 1) pa_nil))) pa_nil))))), ?_⟩
    obtain ⟨dx, fs, t, xs, h0, h1, h2, h3, h4, h5⟩ := la.ex
    have lx := rows_len h5
    have ly := rows_len hys
    refine ⟨_, rfl, a, CL, dx, _, _, rfl, h0, LC.cl, LC.nH, h1, _, rfl, a, CL, dx, _, _, rfl, h0, LC.cl, LC.nR, h2, _, rfl, b, ys, rfl, .inl ⟨hb, fun l hl => ?_⟩⟩
    have f1 := same_upd (o := HO.tup ys) hl
    have hda : DpAll K (L2.upd H l (.tup ys)) (xs ++ ys) ((rs ++ qs).map rwD) := by
      rw [List.map_append]
      exact DpAll.app (Dp.sames f1 _ _ h5) (Dp.sames f1 _ _ hys)
    have fin : ∀ (t' : Addr) (H2 : Hp), Same (L2.upd H l (.tup ys)) H2 → SqT K H2 t' (xs ++ ys) → ∀ x dx, H2 x = none → H2 dx = none → dx ≠ x → spLInit K C CL XL (.ref x :: ([.ref h, .ref t'] ++ [])) (L2.upd (L2.upd H2 dx (.own x)) x (.ins CL dx [])) (fun v H3 => v = .non ∧ Q (.ref x) H3) E := fun t' H2 e2 st => by
      have e12 := f1.trans e2
      exact log_made (K := K) (C := C) (CL := CL) (xs := xs ++ ys) (rs := rs ++ qs) (Q := Q) (la.hh.nl (nl_same e12)) ⟨.inr st, Dp.sames e2 _ _ hda⟩ (by rw [List.length_append]; omega) hm (fun i bd => (kE i bd).same e12) fun l30 ok a' H3 e3 n3 la3 => kQ l30 ok a' H3 (e12.trans e3) (Kw_none e12 n3) la3
    refine ⟨t, l, xs, ys, rfl, rfl, SqT.same f1 h4, SqT.of upd_same, by omega, fun ex => ?_, fun nx ey => ?_, fun nx ny p hp => ?_⟩
    · subst ex
      exact fin l _ (Same.refl _) (SqT.of upd_same)
    · subst ey
      exact fin t _ (Same.refl _) (by rw [List.append_nil]; exact SqT.same f1 h4)
    · exact fin p _ (same_upd hp) (SqT.of upd_same)
/-! ### until -/
def spLUntil (K : PySem.W.Frag) (C CL : Addr) : Sp := fun vs H Q _ => ∃ (a h : Addr) (n : Int) (d : Hs) (rs : List Rw), vs = [.ref a, .int n] ∧ LogAt K C CL H a h d rs ∧ Vld d rs ∧ ∀ a' H', Same H H' → H a' = none → LogAt K C CL H' a' h d (rs.take n.toNat) → Q (.ref a') H'
theorem scLUntil : FnScope ["self", "number"] ["self", "number"] (defScope sLUntil) := ⟨rfl, rfl, rfl, by decide +kernel, rfl, by decide +kernel, by decide +kernel⟩
theorem max_nat (n : Int) : (if (0 : Int) > n then (0 : Int) else n) = ((n.toNat : Nat) : Int) := by
  by_cases c : 0 > n
  · rw [if_pos c]; omega
  · rw [if_neg c]; omega
theorem ok_luntil {f g C CL XL : Addr} {fd fdg : FuncData} (F : Fun K "until" "Log.until" sLUntil f fd) (B : Bt mg) (mX : mg "max" = none) (LC : LogC K CL) (M : LMk P w K mg base C CL XL g fdg) : FnOk P w K mg base CX0 11 f fd ["self", "number"] (spLUntil K C CL) := by
  refine F.ok scLUntil (fun vs H Q E h => ?_) (fun cdv A outer s H vs Q E hr h => ?_)
  · obtain ⟨a, h, n, d, rs, rfl, _⟩ := h
    rfl
  · obtain ⟨a, h, n, d, rs, rfl, la, hv, k⟩ := h
    refine ⟨_, (pss_one (ps_ret (pe_make M.M M.G hr rfl M.m M.b .nil passL (pa_cons (pe_fld (pv 0) rfl) (pa_cons (pe_slice sl_tupA (pe_fld (pv 0) rfl) po_none (po_some (pe_callB (call_max2 rfl) (by rfl) mX (by decide +kernel) (pa_cons (pv 1) (pa_cons pe_int pa_nil))))) pa_nil))))), ?_⟩
    obtain ⟨dx, fs, t, xs, h0, h1, h2, h3, h4, h5⟩ := la.ex
    have lx := rows_len h5
    have l30 := hv.l
    have fin : ∀ (t' : Addr) (H2 : Hp), Same H H2 → SqT K H2 t' (xs.take n.toNat) → ∀ x dx, H2 x = none → H2 dx = none → dx ≠ x → spLInit K C CL XL (.ref x :: ([.ref h, .ref t'] ++ [])) (L2.upd (L2.upd H2 dx (.own x)) x (.ins CL dx [])) (fun v H3 => v = .non ∧ Q (.ref x) H3) E0 := fun t' H2 e2 st => by
      refine log_made (K := K) (C := C) (CL := CL) (xs := xs.take n.toNat) (rs := rs.take n.toNat) (Q := Q) (la.hh.nl (nl_same e2)) ⟨.inr st, ?_⟩ (by have := List.length_take_le n.toNat xs; have := List.length_take (i := n.toNat) (l := xs); omega) (fun r hr => ((hv.take n.toNat).ok r hr).2) (fun i bd => ((hv.take n.toNat).bad bd).elim) fun _ _ a' H3 e3 n3 la3 => k a' H3 (e2.trans e3) (Kw_none e2 n3) la3
      rw [List.map_take]
      exact DpAll.take n.toNat (Dp.sames e2 _ _ h5)
    refine ⟨_, rfl, a, CL, dx, _, _, rfl, h0, LC.cl, LC.nH, h1, _, rfl, a, CL, dx, _, _, rfl, h0, LC.cl, LC.nR, h2, _, rfl, n, 0, rfl, _, rfl, t, xs, rfl, h4, ?_⟩
    have e1 : HT.sIx xs.length 0 none = 0 := rfl
    have e2 : HT.sIx xs.length xs.length (some (if (0 : Int) > n then (0 : Int) else n)) = min n.toNat xs.length := by rw [max_nat]; exact HT.sIx_nat _ _ _
    have ec : cutV xs none (some (if (0 : Int) > n then (0 : Int) else n)) = xs.take n.toNat := by
      unfold cutV
      rw [e1, e2, List.drop_zero, Nat.sub_zero]
      by_cases c : n.toNat ≤ xs.length
      · rw [Nat.min_eq_left c]
      · rw [Nat.min_eq_right (by omega), List.take_of_length_le (Nat.le_refl _), List.take_of_length_le (by omega)]
    refine ⟨fun q => ?_, fun q p hp => ?_⟩
    · rw [e2] at q
      have : xs.take n.toNat = xs := List.take_of_length_le (by omega)
      exact fin t _ (Same.refl _) (by rw [this]; exact h4)
    · rw [ec]
      exact fin p _ (same_upd hp) (SqT.of upd_same)
/-! ### watched -/
def spLWatch (K : PySem.W.Frag) (C CL XH : Addr) : Sp := fun vs H Q E => ∃ (a h t : Addr) (zs : List Int) (d : Hs) (rs : List Rw), vs = [.ref a, .ref t] ∧ LogAt K C CL H a h d rs ∧ Vld d rs ∧ SqT K H t (zs.map V.int) ∧ zs.length ≤ 100 ∧
  (∀ i, (∀ j, j < i → okH d.hands zs j) → ¬ okH d.hands zs i → Rx XH i H E) ∧ ((∀ i, okH d.hands zs i) → ∀ a' H', Same H H' → H a' = none → LogAt K C CL H' a' h d (rs.map (keepR zs)) → Q (.ref a') H')
theorem scLWatch : FnScope ["self", "hands", "rows", "row", "hand"] ["self", "hands"] (defScope sLWatch) := ⟨rfl, rfl, rfl, by decide +kernel, rfl, by decide +kernel, by decide +kernel⟩
theorem lc_in {σ : L2.St} {H1 : Hp} {D t : Addr} {Qd : Hp → Prop} (ys : List Int) (a : Addr) (zs : List Int) (hn : ys.length ≤ 1000) (hD : H1 D = none) (st : SqT K H1 t (ys.map V.int)) (sa : SqT K H1 a (zs.map V.int)) (hj : 4 < σ.length)
    (h1 : ∀ y, ((wipe σ [4]).set 4 y)[1]? = some (some (.ref a)))
    (hd : ∀ H, Same H1 H → H D = some (.lst ((ys.filter fun y => decide (y ∈ zs)).map V.int)) → Qd H) :
    ∃ W : Nat → Nat → Hp → Prop, (∃ m, W 0 m (upd H1 D (.lst []))) ∧ ∀ i m H, W i m H →
      ((Itt K t).stop i H ∧ Qd H) ∨ ((Itt K t).go i H ∧ ∃ Nx : Hp → Prop, (∀ H', Nx H' → ∃ m', m' < m ∧ W (i + 1) m' H') ∧ ∀ x H', (Itt K t).yld i H x H' → gName 4 x (wipe σ [4]) H' fun σ2 H2 => wipe σ2 [4] = wipe σ [4] ∧ (tTest (tOp (rIn K false) (tVar 4) (tVar 1))) σ2 H2 fun b H3 =>
        if b = true then (tVar 4) σ2 H3 fun y H4 => ∃ acc, H4 D = some (.lst acc) ∧ acc.length < sizeLine ∧ Nx (upd H4 D (.lst (acc ++ [y]))) else Nx H3) := by
  have e0 : ∀ (H' : Hp) (o : HO), Same H1 H' → Same H1 (L2.upd H' D o) := fun H' o e c u h => by rw [upd_ne (ne_of_none h hD)]; exact e c u h
  refine lc_tup (K := K) (a := t) (xs := ys.map V.int) (fun i H => Same H1 H ∧ H D = some (.lst (((ys.take i).filter fun y => decide (y ∈ zs)).map V.int))) ⟨same_upd hD, upd_same⟩ (fun i H _ p => SqT.same p.1 st) ?_ ?_
  · rintro i x H hi ⟨e, hz⟩
    rw [List.getElem?_map] at hi
    cases hy : ys[i]? with
    | none => rw [hy] at hi; cases hi
    | some y =>
      rw [hy] at hi
      cases hi
      have hv4 : ((wipe σ [4]).set 4 (some (V.int y)))[4]? = some (some (V.int y)) := List.getElem?_set_self (by rw [wipe_length]; exact hj)
      have et : ys.take (i + 1) = ys.take i ++ [y] := by rw [List.take_add_one, hy]; rfl
      refine ⟨wipe_one _ 4 _, _, hv4, _, h1 _, a, _, rfl, .inr (SqT.same e sa), rfl, flat_ints zs, _, rfl, ?_⟩
      rw [inV_ints]
      have ll : (((ys.take i).filter fun y => decide (y ∈ zs)).map V.int).length ≤ 1000 := by
        rw [List.length_map]
        have a1 := List.length_filter_le (fun y => decide (y ∈ zs)) (ys.take i)
        have a2 := List.length_take_le i ys
        have a3 := List.length_take (i := i) (l := ys)
        omega
      refine ite_b _ (fun c => ?_) (fun c => ?_)
      · refine ⟨_, hv4, _, hz, by rw [sizeLine_eq]; omega, e0 _ _ e, ?_⟩
        have c' : decide (y ∈ zs) = true := c
        rw [et, List.filter_append, List.map_append, List.filter_cons, c', if_pos rfl]
        exact upd_same
      · refine ⟨e, ?_⟩
        have c' : decide (y ∈ zs) = false := c
        rw [et, List.filter_append, List.map_append, List.filter_cons, c', if_neg (by decide)]
        show _ = some (HO.lst (_ ++ []))
        rw [List.append_nil]
        exact hz
  · rintro H ⟨e, hz⟩
    refine hd H e ?_
    rw [List.length_map, List.take_of_length_le (Nat.le_refl _)] at hz
    exact hz
end
end Kw

set_option Elab.async false
set_option linter.all false
set_option maxRecDepth 100000
set_option maxHeartbeats 4000000
namespace Kw
open PySem PySem.Spec PyProof.Rows L2
section
variable {P : Program} {w : World} {K : PySem.W.Frag} {mg : Str → Option Value} {base : Heap}
theorem keep_not {zs : List Int} {r : Rw} (h : isGap r = false) : keepR zs r = r := by
  cases r with
  | gap ys => cases h
  | deed e => rfl
  | sight g => rfl
theorem isgap_at {r : Rw} (h : isGap r = true) : ∃ ys, r = .gap ys := by
  cases r with
  | gap ys => exact ⟨ys, rfl⟩
  | deed e => cases h
  | sight g => cases h
theorem ok_lwatch {f g gH C CL XL XH : Addr} {fd fdg fdH : FuncData} (F : Fun K "watched" "Log.watched" sLWatch f fd) (B : Bt mg) (LC : LogC K CL) (M : LMk P w K mg base C CL XL g fdg) (NH : OnceX P w K mg base "need_hands" 3 ["house", "hands"] (spNHands K C XH) gH fdH) : FnOk P w K mg base (L2.CX P w) 11 f fd ["self", "hands"] (spLWatch K C CL XH) := by
  refine F.okX scLWatch (fun vs H Q E h => ?_) (fun cdv A outer s H vs Q E hr h => ?_)
  · obtain ⟨a, h, t, zs, d, rs, rfl, _⟩ := h
    rfl
  · obtain ⟨a, h, t, zs, d, rs, rfl, la, hv, st, lz, kE, kQ⟩ := h
    have hr3 : Room 3 _ := hr.mono (by decide)
    have tk : Takes (cxOf (L2.CX P w) P w K mg base ["self", "hands", "rows", "row", "hand"] "Log.watched" (defScope sLWatch) f cdv A outer s H E) (fun cls d _ H => E cls d H) := takes_of rfl rfl rfl rfl
    refine ⟨_, (pss_cons (ps_expr (pe_call (weakN NH.G) hr3 rfl NH.m NH.k NH.b .nil (passes_call tk (fun _ _ _ _ h => h)) (pa_cons (pe_fld (pv 0) rfl) (pa_cons (pv 1) pa_nil)))) (pss_cons (ps_set (i := 2) scLWatch.nd rfl (.inl rfl) (pe_lst pa_nil)) (pss_cons (ps_for (passes_of rfl) rfl (pi_tup (pe_fld (pv 0) rfl)) (pg_name (i := 3) scLWatch.nd rfl (.inl rfl)) (pss_cons (ps_if (pt_cmpR op_eq (pe_ix ix_tup (pv 3) pe_int (fun _ _ => rfl)) pe_str (nomark _)) (pss_one (ps_set (i := 3) scLWatch.nd rfl (.inl rfl) (pe_tup (pa_cons pe_str (pa_cons (pe_callTy call_tuple_of (by rfl) B.tup (by decide +kernel) (pa_cons (pe_lc (own := [("hand", 4)]) (g := gName 4) (tt := tTest (tOp (rIn K false) (tVar 4) (tVar 1))) (te := tVar 4) rfl scLWatch.nd (pi_tup (pe_ix ix_tup (pv 3) pe_int (fun _ _ => rfl))) (blkOk_by (own := [("hand", 4)]) (N := ["self", "hands", "rows", "row", "hand"]) (sc := defScope sLWatch) (by decide +kernel)) (fun _ _ _ _ _ => pg_name (i := 4) scLWatch.nd rfl (.inl rfl)) (fun _ _ _ _ _ => pts_one (pt_cmpR op_in_seq (pv 4) (pv 1) (by rfl))) (fun _ _ _ _ _ => pv 4)) pa_nil)) pa_nil))))) pss_nil) (pss_one (ps_expr (pe_bm PySem.F.plainAttrs_list PySem.F.slot_list_append PySem.F.type_list_append mt_append (pv 2) (pa_cons (pv 3) pa_nil)))))) (pss_one (ps_ret (pe_make M.M M.G hr rfl M.m M.b .nil (passes_call (E := E0) tk (fun _ _ _ _ h => h.elim)) (pa_cons (pe_fld (pv 0) rfl) (pa_cons (pv 2) pa_nil)))))))), ?_⟩
    obtain ⟨dx, fs, ta, xs, h0, h1, h2, h3, h4, h5⟩ := la.ex
    have lx := rows_len h5
    have l30 := hv.l
    refine ⟨_, rfl, a, CL, dx, _, _, rfl, h0, LC.cl, LC.nH, h1, _, rfl, h, t, zs, d, rfl, la.hh, st, lz, fun i hj hi => kE i hj hi, fun hok H1 e1 => ?_⟩
    refine ⟨(by show 0 ≤ sizeLine; decide), fun R hR => ?_⟩
    have f1 := same_upd (o := HO.lst []) hR
    have e2 := e1.trans f1
    have hR0 := Kw_none e1 hR
    refine ⟨_, rfl, a, CL, dx, _, _, rfl, e2 _ _ h0, LC.cl, LC.nR, h2, ta, rfl, ⟨_, SqT.same e2 h4⟩, ?_⟩
    refine for_tup (K := K) (a := ta) (xs := xs) (fun i σ H' => ∃ u3 : Option V, σ = [some (.ref a), some (.ref t), some (.ref R), u3, none] ∧ Same H H' ∧ ∃ ys, H' R = some (.lst ys) ∧ DpAll K H' ys (((rs.take i).map (keepR zs)).map rwD))
      ⟨none, rfl, e2, [], upd_same, by simpa using DpAll.nil⟩ (fun i σ H' _ ⟨_, _, e, _⟩ => SqT.same e h4) ?_ ?_
    · rintro i y σ H2 hi ⟨u3, rfl, e, ys, hy, dy⟩
      have hi1 := (List.getElem?_eq_some_iff.mp hi).1
      obtain ⟨dr, hdr, hdy⟩ := DpAll.get h5 hi
      obtain ⟨r, hrr⟩ : ∃ r, rs[i]? = some r := ⟨_, List.getElem?_eq_getElem (by omega)⟩
      rw [List.getElem?_map, hrr] at hdr
      cases hdr
      have er : (rs.take (i + 1)).map (keepR zs) = (rs.take i).map (keepR zs) ++ [keepR zs r] := by rw [List.take_add_one, hrr, List.map_append]; rfl
      have ly : ys.length ≤ 30 := by
        have := DpAll.len dy
        rw [List.length_map, List.length_map] at this
        have := List.length_take (i := i) (l := rs)
        omega
      obtain ⟨ay, vs, rfl, sy⟩ := rw_at (Dp.same e _ _ hdy)
      have hdy2 := Dp.same e _ _ hdy
      have fin : ∀ (y' : V) (u4 : Option V) (H3 : Hp), Same H2 H3 → Dp K H3 y' (rwD (keepR zs r)) → ∀ D : Ends, (∀ σ' H', (∃ u3 : Option V, σ' = [some (.ref a), some (.ref t), some (.ref R), u3, none] ∧ Same H H' ∧ ∃ ys, H' R = some (.lst ys) ∧ DpAll K H' ys (((rs.take (i + 1)).map (keepR zs)).map rwD)) → D.nx σ' H') →
          rAppend (.ref R) [y'] H3 fun _ H' => D.nx [some (.ref a), some (.ref t), some (.ref R), some y', none] H' := fun y' u4 H3 e3 dy' D kD => by
        have hy3 := e3 _ _ hy
        refine ⟨R, ys, y', rfl, rfl, hy3, by rw [sizeLine_eq]; omega, kD _ _ ⟨_, rfl, fun c o hc => ?_, ys ++ [y'], upd_same, ?_⟩⟩
        · rw [upd_ne (ne_of_none hc hR0)]
          exact e3 _ _ (e _ _ hc)
        · have nl := nl_updL (ys := ys ++ [y']) hy3
          rw [er, List.map_append]
          exact DpAll.app (Dp.nls nl _ _ (noLs_rw _) (Dp.sames e3 _ _ dy)) (.cons (Dp.nl nl _ _ (noL_rw _) dy') .nil)
      refine ⟨_, rfl, ay, _, 0, _, rfl, rfl, sy, atI_nat (j := 0) rfl, rfl, _, rfl, ?_⟩
      rw [decS, rw_gap]
      cases cg : isGap r with
      | true =>
        obtain ⟨gs, rfl⟩ := isgap_at cg
        obtain ⟨ag, tg, eg, sg, stg⟩ := gap_at hdy2
        cases eg
        have lg : gs.length ≤ 100 := (hv.ok _ (List.mem_of_getElem? hrr)).2
        refine iteT ⟨_, rfl, ay, _, 1, _, rfl, rfl, sg, atI_nat (j := 1) rfl, tg, rfl, ⟨_, stg⟩, fun D hD => ?_⟩
        refine lc_in (K := K) gs t zs (by omega) hD stg (SqT.same e st) (by show 4 < 5; decide) (fun y => rfl) (fun H3 e3 hz3 => ?_)
        refine ⟨D, _, rfl, .inl ⟨SqL.of hz3, fun p hp => ?_⟩⟩
        have f4 := same_upd (o := HO.tup ((gs.filter fun y => decide (y ∈ zs)).map V.int)) hp
        refine ⟨(by show 2 ≤ sizeLine; decide), fun q hq => ?_⟩
        have f5 := same_upd (o := HO.tup [V.str ("gap" : Str), .ref p]) hq
        have hy5 := (e3.trans (f4.trans f5)) _ _ hy
        refine ⟨_, rfl, .inl ⟨rfl, _, SqL.of hy5⟩, _, rfl, ?_⟩
        exact fin (.ref q) none _ (e3.trans (f4.trans f5)) (.tup (SqT.of upd_same) (.cons (.str _) (.cons (.tup (SqT.same f5 (SqT.of upd_same)) (ints_all K _ _)) .nil))) _ (fun _ _ h => h)
      | false =>
        refine iteF ?_
        refine ⟨_, rfl, .inl ⟨rfl, _, SqL.of hy⟩, _, rfl, ?_⟩
        exact fin (.ref ay) none H2 (Same.refl _) (by rw [keep_not cg]; exact hdy2) _ (fun _ _ h => h)
    · rintro σ H2 ⟨u3, rfl, e, ys, hy, dy⟩
      rw [List.take_of_length_le (by omega)] at dy
      have ly := DpAll.len dy
      rw [List.length_map, List.length_map] at ly
      refine ⟨_, rfl, a, CL, dx, _, _, rfl, e _ _ h0, LC.cl, LC.nH, h1, _, rfl, ?_⟩
      have vk := hv.keep zs
      exact log_made (K := K) (C := C) (CL := CL) (Q := Q) (la.hh.nl (nl_same e)) ⟨.inl (SqL.of hy), dy⟩ (by omega) (fun r hr => (vk.ok r hr).2) (fun i bd => (vk.bad bd).elim) fun _ _ a' H3 e3 n3 la3 => kQ hok a' H3 (e.trans e3) (Kw_none e n3) la3
end
end Kw

set_option Elab.async false
set_option linter.all false
set_option maxRecDepth 100000
set_option maxHeartbeats 4000000
namespace Kw
open PySem PySem.Spec PyProof.Rows L2
theorem nm_notX {j : Nat} (hx : j = 2 ∨ j = 4) : decide (nameJ j = ("InvalidHouse" : Str)) = false := by
  rcases hx with rfl | rfl <;> decide +kernel
theorem nm_inX {j : Nat} (hx : j = 2 ∨ j = 4) : inV (.str (nameJ j)) [V.str ("InvalidHands" : Str), .str ("InvalidLog" : Str)] = true := by
  rcases hx with rfl | rfl <;> decide +kernel
theorem fs_ix (i : Nat) : (ixFs (i : Nat)).lookup ("index" : Str) = some (.int (i : Nat)) := by
  unfold ixFs
  simp [List.lookup]
section
variable {P : Program} {w : World} {K : PySem.W.Frag} {mg : Str → Option Value} {base : Heap}
theorem err_suiteX {g : Addr} {cdg : Value} {A : Around} {outer : List Env} {s0 : Shared} {H0 : Hp} {CE CW a : Addr} {j : Nat} {oe : Obj} {dd : Option Addr} {pn : List (Addr × Obj)} (T : ErrJ K mg CE CW j) (hx : j = 2 ∨ j = 4) {i : Nat} {d : Addr} (hd : dd = some d) (B : Bt mg) (hz : Zc (.ref CE) dd oe) (hf : ∃ vs, oe.data = .fields vs)
    (D : Ends) (σ : L2.St) (H : Hp) (v0 v2 v3 v4 : Option V) (hσ : σ = [v0, some (.ref a), v2, v3, v4]) (hI : H d = some (.xd (ixFs i))) (k : ∀ v H2, Same H H2 → Dp K H2 v (.tuple [.str (nameJ j), .int (i : Nat)]) → D.rt v H2) :
      ∃ T, PSs (Cx.suite ((cxOf CX0 P w K mg base ["_law_work", "error", "_law_kinds", "_law_names", "_law_name"] "_law_error" (defScope sErr) g cdg A outer s0 H0 E0).nox) a ((a, oe) :: pn)) errSuite T ∧ T D σ H := by
    have hj : j < 15 := by omega
    have hh : DdOk dd H := fun e he => by rw [hd] at he; cases he; exact ⟨_, hI⟩
    obtain ⟨cInsideItself, mInsideItself, qInsideItself⟩ := T.kInsideItself
    obtain ⟨cInvalidCourse, mInvalidCourse, qInvalidCourse⟩ := T.kInvalidCourse
    obtain ⟨cInvalidHands, mInvalidHands, qInvalidHands⟩ := T.kInvalidHands
    obtain ⟨cInvalidHouse, mInvalidHouse, qInvalidHouse⟩ := T.kInvalidHouse
    obtain ⟨cInvalidLog, mInvalidLog, qInvalidLog⟩ := T.kInvalidLog
    obtain ⟨cInvalidNumber, mInvalidNumber, qInvalidNumber⟩ := T.kInvalidNumber
    obtain ⟨cIsSealed, mIsSealed, qIsSealed⟩ := T.kIsSealed
    obtain ⟨cNoCourse, mNoCourse, qNoCourse⟩ := T.kNoCourse
    obtain ⟨cNotHeld, mNotHeld, qNotHeld⟩ := T.kNotHeld
    obtain ⟨cNotInside, mNotInside, qNotInside⟩ := T.kNotInside
    obtain ⟨cNotSealed, mNotSealed, qNotSealed⟩ := T.kNotSealed
    obtain ⟨cUnknownBox, mUnknownBox, qUnknownBox⟩ := T.kUnknownBox
    obtain ⟨cUnknownHand, mUnknownHand, qUnknownHand⟩ := T.kUnknownHand
    obtain ⟨cUnknownItem, mUnknownItem, qUnknownItem⟩ := T.kUnknownItem
    obtain ⟨cUnknownSeal, mUnknownSeal, qUnknownSeal⟩ := T.kUnknownSeal
    refine ⟨_, (pss_cons (ps_set (i := 2) scErr.nd rfl (.inl rfl) (pe_lst (pa_cons (pe_callB (call_isO T.exc hz hf) (by rfl) B.isi (by decide +kernel) (pa_cons (pv 1) (pa_cons (pe_glob (v := .ref cInsideItself) rfl mInsideItself rfl) pa_nil))) (pa_cons (pe_callB (call_isO T.exc hz hf) (by rfl) B.isi (by decide +kernel) (pa_cons (pv 1) (pa_cons (pe_glob (v := .ref cInvalidCourse) rfl mInvalidCourse rfl) pa_nil))) (pa_cons (pe_callB (call_isO T.exc hz hf) (by rfl) B.isi (by decide +kernel) (pa_cons (pv 1) (pa_cons (pe_glob (v := .ref cInvalidHands) rfl mInvalidHands rfl) pa_nil))) pa_nil)))))
        (pss_cons (ps_set (i := 2) scErr.nd rfl (.inl rfl) (pe_op op_cat (pv 2) (pe_lst (pa_cons (pe_callB (call_isO T.exc hz hf) (by rfl) B.isi (by decide +kernel) (pa_cons (pv 1) (pa_cons (pe_glob (v := .ref cInvalidHouse) rfl mInvalidHouse rfl) pa_nil))) (pa_cons (pe_callB (call_isO T.exc hz hf) (by rfl) B.isi (by decide +kernel) (pa_cons (pv 1) (pa_cons (pe_glob (v := .ref cInvalidLog) rfl mInvalidLog rfl) pa_nil))) pa_nil)))))
        (pss_cons (ps_set (i := 2) scErr.nd rfl (.inl rfl) (pe_op op_cat (pv 2) (pe_lst (pa_cons (pe_callB (call_isO T.exc hz hf) (by rfl) B.isi (by decide +kernel) (pa_cons (pv 1) (pa_cons (pe_glob (v := .ref cInvalidNumber) rfl mInvalidNumber rfl) pa_nil))) (pa_cons (pe_callB (call_isO T.exc hz hf) (by rfl) B.isi (by decide +kernel) (pa_cons (pv 1) (pa_cons (pe_glob (v := .ref cIsSealed) rfl mIsSealed rfl) pa_nil))) (pa_cons (pe_callB (call_isO T.exc hz hf) (by rfl) B.isi (by decide +kernel) (pa_cons (pv 1) (pa_cons (pe_glob (v := .ref cNoCourse) rfl mNoCourse rfl) pa_nil))) pa_nil))))))
        (pss_cons (ps_set (i := 2) scErr.nd rfl (.inl rfl) (pe_op op_cat (pv 2) (pe_lst (pa_cons (pe_callB (call_isO T.exc hz hf) (by rfl) B.isi (by decide +kernel) (pa_cons (pv 1) (pa_cons (pe_glob (v := .ref cNotHeld) rfl mNotHeld rfl) pa_nil))) (pa_cons (pe_callB (call_isO T.exc hz hf) (by rfl) B.isi (by decide +kernel) (pa_cons (pv 1) (pa_cons (pe_glob (v := .ref cNotInside) rfl mNotInside rfl) pa_nil))) (pa_cons (pe_callB (call_isO T.exc hz hf) (by rfl) B.isi (by decide +kernel) (pa_cons (pv 1) (pa_cons (pe_glob (v := .ref cNotSealed) rfl mNotSealed rfl) pa_nil))) pa_nil))))))
        (pss_cons (ps_set (i := 2) scErr.nd rfl (.inl rfl) (pe_op op_cat (pv 2) (pe_lst (pa_cons (pe_callB (call_isO T.exc hz hf) (by rfl) B.isi (by decide +kernel) (pa_cons (pv 1) (pa_cons (pe_glob (v := .ref cUnknownBox) rfl mUnknownBox rfl) pa_nil))) (pa_cons (pe_callB (call_isO T.exc hz hf) (by rfl) B.isi (by decide +kernel) (pa_cons (pv 1) (pa_cons (pe_glob (v := .ref cUnknownHand) rfl mUnknownHand rfl) pa_nil))) pa_nil)))))
        (pss_cons (ps_set (i := 2) scErr.nd rfl (.inl rfl) (pe_op op_cat (pv 2) (pe_lst (pa_cons (pe_callB (call_isO T.exc hz hf) (by rfl) B.isi (by decide +kernel) (pa_cons (pv 1) (pa_cons (pe_glob (v := .ref cUnknownItem) rfl mUnknownItem rfl) pa_nil))) (pa_cons (pe_callB (call_isO T.exc hz hf) (by rfl) B.isi (by decide +kernel) (pa_cons (pv 1) (pa_cons (pe_glob (v := .ref cUnknownSeal) rfl mUnknownSeal rfl) pa_nil))) pa_nil)))))
        (pss_cons (ps_set (i := 3) scErr.nd rfl (.inl rfl) (pe_lst (pa_cons pe_str (pa_cons pe_str (pa_cons pe_str (pa_cons pe_str (pa_cons pe_str (pa_cons pe_str pa_nil))))))))
        (pss_cons (ps_set (i := 3) scErr.nd rfl (.inl rfl) (pe_op op_cat (pv 3) (pe_lst (pa_cons pe_str (pa_cons pe_str (pa_cons pe_str (pa_cons pe_str (pa_cons pe_str (pa_cons pe_str (pa_cons pe_str pa_nil))))))))))
        (pss_cons (ps_set (i := 3) scErr.nd rfl (.inl rfl) (pe_op op_cat (pv 3) (pe_lst (pa_cons pe_str (pa_cons pe_str pa_nil)))))
        (pss_cons (ps_if (PW.pt (pw_or (pt_cmpR op_ne (pe_bm PySem.F.plainAttrs_list PySem.F.slot_list_count PySem.F.type_list_count mt_countB (pv 2) (pa_cons pe_bl pa_nil)) pe_int (nomark _))
        (pw_or1 (pt_not (pt_val (pe_callB (call_isO T.exc hz hf) (by rfl) B.isi (by decide +kernel) (pa_cons (pv 1) (pa_cons (pe_bltn (v := .ty "ValueError") (by rfl) T.ve (by decide +kernel) rfl) pa_nil)))))))) (pss_one (ps_ret pe_str)) pss_nil)
        (pss_cons (ps_set (i := 4) scErr.nd rfl (.inl rfl) (pe_ix ix_list (pv 3) (pe_bm PySem.F.plainAttrs_list PySem.F.slot_list_index PySem.F.type_list_index mt_index (pv 2) (pa_cons pe_bl pa_nil)) (fun _ _ => rfl)))
        (pss_cons (ps_if (pt_cmpR op_eq (pv 4) pe_str (nomark _)) (pss_one (ps_ret (pe_tup (pa_cons (pv 4) (pa_cons (pe_xf T.xf T.nP hz hf (pv 1)) (pa_cons (pe_xf T.xf T.nI hz hf (pv 1)) pa_nil)))))) pss_nil)
        (pss_one (ps_ret (pe_ifExp (pt_cmpR op_in_seq (pv 4) (pe_tup (pa_cons pe_str (pa_cons pe_str pa_nil))) (by rfl)) (pe_tup (pa_cons (pv 4) (pa_cons (pe_xf T.xf T.nI hz hf (pv 1)) pa_nil))) (pv 4)))))))))))))))), ?_⟩
    subst hσ
    refine (tisiG rfl hh qInsideItself (tisiG rfl hh qInvalidCourse (tisiG rfl hh qInvalidHands ⟨(by show 3 ≤ sizeLine; decide), fun p1 hp1 => ?_⟩)))
    have e1 := same_upd (o := HO.lst [V.bl (decide (0 = j)), V.bl (decide (1 = j)), V.bl (decide (2 = j))]) hp1
    have h1 : (L2.upd H p1 (.lst [V.bl (decide (0 = j)), V.bl (decide (1 = j)), V.bl (decide (2 = j))])) p1 = some (.lst [V.bl (decide (0 = j)), V.bl (decide (1 = j)), V.bl (decide (2 = j))]) := upd_same
    have hh1 := DdOk.same e1 hh
    generalize L2.upd H p1 (.lst [V.bl (decide (0 = j)), V.bl (decide (1 = j)), V.bl (decide (2 = j))]) = H1 at *
    refine tcat (xs := [V.bl (decide (0 = j)), V.bl (decide (1 = j)), V.bl (decide (2 = j))]) (vs := [V.bl (decide (3 = j)), V.bl (decide (4 = j))]) rfl h1 (fun R r => (tisiG rfl hh1 qInvalidHouse (tisiG rfl hh1 qInvalidLog r))) (by show 3 + 2 ≤ sizeLine; decide) (fun p2 H2 f2 h2 => ?_)
    have e2 := e1.trans f2
    have hh2 := DdOk.same e2 hh
    refine tcat (xs := [V.bl (decide (0 = j)), V.bl (decide (1 = j)), V.bl (decide (2 = j)), V.bl (decide (3 = j)), V.bl (decide (4 = j))]) (vs := [V.bl (decide (5 = j)), V.bl (decide (6 = j)), V.bl (decide (7 = j))]) rfl h2 (fun R r => (tisiG rfl hh2 qInvalidNumber (tisiG rfl hh2 qIsSealed (tisiG rfl hh2 qNoCourse r)))) (by show 5 + 3 ≤ sizeLine; decide) (fun p3 H3 f3 h3 => ?_)
    have e3 := e2.trans f3
    have hh3 := DdOk.same e3 hh
    refine tcat (xs := [V.bl (decide (0 = j)), V.bl (decide (1 = j)), V.bl (decide (2 = j)), V.bl (decide (3 = j)), V.bl (decide (4 = j)), V.bl (decide (5 = j)), V.bl (decide (6 = j)), V.bl (decide (7 = j))]) (vs := [V.bl (decide (8 = j)), V.bl (decide (9 = j)), V.bl (decide (10 = j))]) rfl h3 (fun R r => (tisiG rfl hh3 qNotHeld (tisiG rfl hh3 qNotInside (tisiG rfl hh3 qNotSealed r)))) (by show 8 + 3 ≤ sizeLine; decide) (fun p4 H4 f4 h4 => ?_)
    have e4 := e3.trans f4
    have hh4 := DdOk.same e4 hh
    refine tcat (xs := [V.bl (decide (0 = j)), V.bl (decide (1 = j)), V.bl (decide (2 = j)), V.bl (decide (3 = j)), V.bl (decide (4 = j)), V.bl (decide (5 = j)), V.bl (decide (6 = j)), V.bl (decide (7 = j)), V.bl (decide (8 = j)), V.bl (decide (9 = j)), V.bl (decide (10 = j))]) (vs := [V.bl (decide (11 = j)), V.bl (decide (12 = j))]) rfl h4 (fun R r => (tisiG rfl hh4 qUnknownBox (tisiG rfl hh4 qUnknownHand r))) (by show 11 + 2 ≤ sizeLine; decide) (fun p5 H5 f5 h5 => ?_)
    have e5 := e4.trans f5
    have hh5 := DdOk.same e5 hh
    refine tcat (xs := [V.bl (decide (0 = j)), V.bl (decide (1 = j)), V.bl (decide (2 = j)), V.bl (decide (3 = j)), V.bl (decide (4 = j)), V.bl (decide (5 = j)), V.bl (decide (6 = j)), V.bl (decide (7 = j)), V.bl (decide (8 = j)), V.bl (decide (9 = j)), V.bl (decide (10 = j)), V.bl (decide (11 = j)), V.bl (decide (12 = j))]) (vs := [V.bl (decide (13 = j)), V.bl (decide (14 = j))]) rfl h5 (fun R r => (tisiG rfl hh5 qUnknownItem (tisiG rfl hh5 qUnknownSeal r))) (by show 13 + 2 ≤ sizeLine; decide) (fun p6 H6 f6 h6 => ?_)
    have e6 := e5.trans f6
    have hh6 := DdOk.same e6 hh
    refine ⟨(by show 6 ≤ sizeLine; decide), fun p7 hp7 => ?_⟩
    have f7 := same_upd (o := HO.lst [V.str ("InsideItself" : Str), V.str ("InvalidCourse" : Str), V.str ("InvalidHands" : Str), V.str ("InvalidHouse" : Str), V.str ("InvalidLog" : Str), V.str ("InvalidNumber" : Str)]) hp7
    have h7 : (L2.upd H6 p7 (.lst [V.str ("InsideItself" : Str), V.str ("InvalidCourse" : Str), V.str ("InvalidHands" : Str), V.str ("InvalidHouse" : Str), V.str ("InvalidLog" : Str), V.str ("InvalidNumber" : Str)])) p7 = some (.lst [V.str ("InsideItself" : Str), V.str ("InvalidCourse" : Str), V.str ("InvalidHands" : Str), V.str ("InvalidHouse" : Str), V.str ("InvalidLog" : Str), V.str ("InvalidNumber" : Str)]) := upd_same
    generalize L2.upd H6 p7 (.lst [V.str ("InsideItself" : Str), V.str ("InvalidCourse" : Str), V.str ("InvalidHands" : Str), V.str ("InvalidHouse" : Str), V.str ("InvalidLog" : Str), V.str ("InvalidNumber" : Str)]) = H7 at *
    have e7 := e6.trans f7
    have hK7 := f7 _ _ h6
    refine tcat (xs := [V.str ("InsideItself" : Str), V.str ("InvalidCourse" : Str), V.str ("InvalidHands" : Str), V.str ("InvalidHouse" : Str), V.str ("InvalidLog" : Str), V.str ("InvalidNumber" : Str)]) (vs := [V.str ("IsSealed" : Str), V.str ("NoCourse" : Str), V.str ("NotHeld" : Str), V.str ("NotInside" : Str), V.str ("NotSealed" : Str), V.str ("UnknownBox" : Str), V.str ("UnknownHand" : Str)]) rfl h7 (fun R r => r) (by decide +kernel) (fun p8 H8 f8 h8 => ?_)
    have e8 := e7.trans f8
    have hK8 := f8 _ _ hK7
    refine tcat (xs := [V.str ("InsideItself" : Str), V.str ("InvalidCourse" : Str), V.str ("InvalidHands" : Str), V.str ("InvalidHouse" : Str), V.str ("InvalidLog" : Str), V.str ("InvalidNumber" : Str), V.str ("IsSealed" : Str), V.str ("NoCourse" : Str), V.str ("NotHeld" : Str), V.str ("NotInside" : Str), V.str ("NotSealed" : Str), V.str ("UnknownBox" : Str), V.str ("UnknownHand" : Str)]) (vs := [V.str ("UnknownItem" : Str), V.str ("UnknownSeal" : Str)]) rfl h8 (fun R r => r) (by decide +kernel) (fun p9 H9 f9 h9 => ?_)
    have e9 := e8.trans f9
    have hK9 := f9 _ _ hK8
    have hhE := DdOk.same e9 hh
    have hKE : H9 p6 = some (.lst ((kindsJ j).map V.bl)) := hK9
    have hNE : H9 p9 = some (.lst (namesV.map V.str)) := h9
    refine ⟨_, rfl, .inl ⟨rfl, _, SqL.of hKE⟩, p6, kindsJ j, true, rfl, rfl, SqL.of hKE, rfl, _, rfl, iteFe (by rw [cnt_kinds hj]; rfl) ?_⟩
    refine ⟨_, rfl, hhE, .ty "ValueError", .type "ValueError", true, rfl, fun u z => z, T.kve, _, rfl, iteF ?_⟩
    refine ⟨_, rfl, _, rfl, .inl ⟨rfl, _, SqL.of hKE⟩, p6, (kindsJ j).map V.bl, .bl true, j, .bl true, rfl, rfl, SqL.of hKE, rfl, flat_kinds j, at_kinds hj, rfl, fun m z' hm e => no_kinds hj hm e, p9, namesV.map V.str, (j : Nat), .str (nameJ j), rfl, rfl, SqL.of hNE, at_names hj, ?_⟩
    refine ⟨_, rfl, rfl, _, rfl, iteFe (by rw [decS]; exact nm_notX hx) ?_⟩
    have hI9 := e9 _ _ hI
    refine ⟨_, rfl, (by show 2 ≤ sizeLine; decide), fun pz hpz => ⟨pz, [.str ("InvalidHands" : Str), .str ("InvalidLog" : Str)], rfl, .inr (SqT.of upd_same), rfl, rfl, _, rfl, iteTe (nm_inX hx) ?_⟩⟩
    have fz := same_upd (o := HO.tup [.str ("InvalidHands" : Str), .str ("InvalidLog" : Str)]) hpz
    refine ⟨_, rfl, _, rfl, rfl, rfl, d, _, _, hd, fz _ _ hI9, fs_ix _, (by show 2 ≤ sizeLine; decide), fun p hp => ?_⟩
    exact k _ _ ((e9.trans fz).trans (same_upd hp)) (.tup (SqT.of upd_same) (.cons (.str _) (.cons (.int _) .nil)))
/-- an error class that has an index, and the law's name of it -/
def KnownX (K : PySem.W.Frag) (mg : Str → Option Value) (ce : Str → Addr) (CW : Addr) (z : Str) : Prop := ∃ j, ErrJ K mg (ce z) CW j ∧ (j = 2 ∨ j = 4) ∧ nameJ j = z
def errOutX (K : PySem.W.Frag) (mg : Str → Option Value) (ce : Str → Addr) (CW : Addr) (Q : VK) : XK := fun cls d H' => ∃ (z : Str) (i : Nat) (dd : Addr), cls = .ref (ce z) ∧ KnownX K mg ce CW z ∧ d = some dd ∧ H' dd = some (.xd (ixFs i)) ∧ ∀ v H2, Same H' H2 → Dp K H2 v (.tuple [.str z, .int (i : Nat)]) → Q v H2
def TErrX (K : PySem.W.Frag) (mg : Str → Option Value) (ce : Str → Addr) (CW : Addr) : (XK → Hp → VK → Prop) → Hp → VK → Prop := fun tl H Q => tl (errOutX K mg ce CW Q) H (fun _ H' => Q (.str "") H')
theorem errX_gives {X : Cx} {g CW : Addr} {cdg : Value} {q : Str} {ce : Str → Addr} (hw : X.mg "WatchError" = some (.ref CW)) (B : Bt X.mg) : LamX.GivesTo X ["_law_work", "error", "_law_kinds", "_law_names", "_law_name"] "_law_error" (defScope sErr) g cdg (defBody sErr) "_law_work" q (TErrX X.K X.mg ce CW) := by
  intro f c' s H Q tl act hc h
  have hgl : Gl (cxOf C8.CX0 X.prog X.w X.K X.mg X.base ["_law_work", "error", "_law_kinds", "_law_names", "_law_name"] "_law_error" (defScope sErr) g cdg X.A X.stack s H C8.E0).nox "WatchError" := rfl
  refine ⟨_, pss_cons (ps_try_as (X := (cxOf C8.CX0 X.prog X.w X.K X.mg X.base ["_law_work", "error", "_law_kinds", "_law_names", "_law_name"] "_law_error" (defScope sErr) g cdg X.A X.stack s H C8.E0).nox) (c := .ref CW) (i := 1)
      (tb := fun W D σ H => ∃ Ech : XK, (∀ cls d σ' H', Ech cls d H' → W cls d σ' H') ∧ σ[0]? = some (some (.ref f)) ∧ H c' = some (LamX.CodeO c' q) ∧ tl Ech H (fun _ H' => D.nx σ H'))
      (ts := fun a cls d D σ H => ∃ (z : Str) (i : Nat) (dd : Addr), cls = .ref (ce z) ∧ KnownX X.K X.mg ce CW z ∧ d = some dd ∧ H dd = some (.xd (ixFs i)) ∧ ∃ (σ0 : L2.St), σ = σ0.set 1 (some (.ref a)) ∧ ∀ v H2, Same H H2 → Dp X.K H2 v (.tuple [.str z, .int (i : Nat)]) → D.rt v H2)
      rfl rfl scErr.nd rfl rfl ⟨hgl, by decide, .inl hw⟩ LamX.takes0 (fun W pn xe tk _ => ?_) (fun a oe cls d pn hz hf => ?_)) (pss_one (ps_ret pe_str)), ?_⟩
  · refine ⟨fun pins s' σ H' D I h' => ?_⟩
    obtain ⟨Ech, hW, h1, h2, h3⟩ := h'
    exact (pss_one (ps_expr (act W pn xe Ech _ _ tk hW))).run pins s' σ H' D I ⟨h1, h2, h3⟩
  · refine ⟨fun pins s' σ H' D I h' => ?_⟩
    obtain ⟨z, i, dd, rfl, ⟨j, T, hx, ez⟩, rfl, hI, σ0, hσ, k⟩ := h'
    have hl : σ0.length = 5 := by
      have q := I.len
      rw [hσ, List.length_set] at q
      exact q
    obtain ⟨v0, v1, v2, v3, v4, e5⟩ : ∃ v0 v1 v2 v3 v4, σ0 = [v0, v1, v2, v3, v4] := by
      match σ0, hl with
      | [v0, v1, v2, v3, v4], _ => exact ⟨v0, v1, v2, v3, v4, rfl⟩
    rw [e5] at hσ
    subst ez
    obtain ⟨t, ht, hq⟩ := err_suiteX (P := X.prog) (w := X.w) (K := X.K) (mg := X.mg) (base := X.base) (g := g) (cdg := cdg) (A := X.A) (outer := X.stack) (s0 := s) (H0 := H) T hx rfl B hz hf D σ H' v0 v2 v3 v4 hσ hI k
    exact ht.run pins s' σ H' D I hq
  · refine ⟨errOutX X.K X.mg ce CW Q, fun cls d σ' H' ⟨z, i, dd, e1, kn, e2, hI, k⟩ => ?_, rfl, hc, h⟩
    obtain ⟨j, T, hx, ez⟩ := id kn
    exact ⟨true, by rw [e1]; exact T.exm, fun _ a ha => ⟨z, i, dd, e1, kn, e2, hI, σ', rfl, k⟩, fun z => by cases z⟩
end
end Kw

set_option Elab.async false
set_option linter.all false
set_option maxRecDepth 100000
set_option maxHeartbeats 4000000
/-! set(a list of ints), as a value. -/
namespace Kw
open PySem PySem.Spec PyProof.Rows L2
section
variable {P : Program} {w : World} {A : Around} {E : Value → Shared → Prop} {s : Shared}
set_option maxRecDepth 100000 in
set_option maxHeartbeats 3200000 in
theorem set_of_ints {l : Addr} {items : Array Value} (ns : List Int) {Q : Value → Shared → Prop} (hh : A.handled = none) (hl : s.heap.IsList l items) (hit : IntsAre items.toList ns) (hb : ns.length + 1 < scanBound)
    (h : ∀ (h' : Heap) (tk c : Nat), SetR w h' s.heap.objs.size (fun j => decide (j ∈ ns)) c → c ≤ ns.length → (∀ b o, s.heap.get? b = some o → h'.get? b = some o) → Q (.ref s.heap.objs.size) { s with heap := h', toks := tk }) :
    wpAny (model P w) A (call (.type "set") [.ref l]) Q E s := by
  have hisz : items.size = ns.length := by
    have q := IntsAre.length hit
    rw [Array.length_toList] at q
    exact q
  obtain ⟨c, tl, hmro⟩ := F.called_set.mro
  have hmade := F.called_set.made
  have hsub := F.called_set.sub
  refine wpAny_call (codeAny_of_tree ?_)
  show wpAny _ _ (callAny (.type "set") _) _ _ _
  refine wpAny_pure ⟨Code.quiet_builtin _ (by decide +kernel), codeAny_builtin F.entry_type_call ?_⟩
  rw [Around.under_plain (weight_type_call_type "set" [.ref l] []) rfl]
  have h1 := F.called_set.notType
  have h2 := F.called_set.canCreate
  have hct := F.typeCall_set_1 (.ref l)
  repeat (any_goals (first | assumption | wp_step))

  refine codeAny_mono (code_set_led1 (.ref l) (E := E) (Q₁ := fun obj s₁ => obj = .ref s.heap.objs.size ∧ s₁ = { s with heap := s.heap.push { cls := .type "set", dict := none, data := .set #[] 0 (.fresh 0 0 (!w.params.followText "set-order")) } }) ⟨rfl, rfl⟩) fun r s₁ hr => ?_
  cases r with
  | error e => exact hr
  | ok fl =>
    cases fl with
    | ret obj =>
      obtain ⟨rfl, rfl⟩ := hr
      have hS : (s.heap.push { cls := .type "set", dict := none, data := .set #[] 0 (.fresh 0 0 (!w.params.followText "set-order")) }).get? s.heap.objs.size = some { cls := .type "set", dict := none, data := .set #[] 0 (.fresh 0 0 (!w.params.followText "set-order")) } := Heap.get?_push_size _ rfl
      have hT : Shared.TypeIs { s with heap := s.heap.push { cls := .type "set", dict := none, data := .set #[] 0 (.fresh 0 0 (!w.params.followText "set-order")) } } (.ref s.heap.objs.size) "set" := ⟨_, hS, rfl⟩
      have hli := F.called_set.init.lookup
      have hbi := F.called_set.init.bind (.ref s.heap.objs.size)
      repeat (any_goals (first | assumption | wp_step))

      refine codeAny_mono (codeAny_call_builtin (R := wants (fun r s₂ => r = .none ∧ ∃ h' tk c, s₂ = { s with heap := h', toks := tk } ∧ SetR w h' s.heap.objs.size (fun j => decide (j ∈ ns)) c ∧ c ≤ ns.length ∧
          (∀ b o, s.heap.get? b = some o → h'.get? b = some o)) E) F.called_set.init.plain F.entry_set_init (check_set_init_1 hT ?_)) fun r₂ s₂ hr₂ => ?_
      · obtain ⟨ol, hol, hcl, nl, hdl⟩ := hl
        obtain ⟨ocls, odict, odata, oslots⟩ := ol
        simp only at hcl hdl
        subst hcl; subst hdl
        have hol' : (s.heap.push { cls := .type "set", dict := none, data := .set #[] 0 (.fresh 0 0 (!w.params.followText "set-order")) }).get? l = some { cls := .type "list", dict := odict, data := .seq items nl, slots := oslots } := Heap.get?_push_of_some _ hol
        have hsls := F.sub_list_set
        have hslf := F.sub_list_frozenset
        have hne : (Value.type "list" == Value.type "dict") = false := by decide
        have hl1 : (s.heap.push { cls := .type "set", dict := none, data := .set #[] 0 (.fresh 0 0 (!w.params.followText "set-order")) }).IsList l items := ⟨_, hol', rfl, nl, rfl⟩
        unfold Builtin.«set.__init__» noKeywords Builtin.Frozenset.updateFrom
        generalize hPI : pyIter = PI
        wp_walk
        subst hPI

        refine wpAny_pyIter_list hl1 ?_
        refine wpAny_bind (wpAny_runValue ?_)
        have hlS : l < s.heap.objs.size := Heap.lt_size hol
        have hh3 : A.in1.in1.in1.handled = none := by simp [hh]
        have hz1 : (s.heap.push { cls := .type "set", dict := none, data := .set #[] 0 (.fresh 0 0 (!w.params.followText "set-order")) }).objs.size = s.heap.objs.size + 1 := Heap.size_push ..
        have hneI : l ≠ (s.heap.push { cls := .type "set", dict := none, data := .set #[] 0 (.fresh 0 0 (!w.params.followText "set-order")) }).objs.size := by
          rw [Heap.size_push]; exact Nat.ne_of_lt (Nat.lt_succ_of_lt hlS)
        have hSf : s.heap.objs.size ∉ [(s.heap.push { cls := .type "set", dict := none, data := .set #[] 0 (.fresh 0 0 (!w.params.followText "set-order")) }).objs.size, l] := by
          rw [Heap.size_push]; simp only [List.mem_cons, List.mem_singleton, List.not_mem_nil, or_false, not_or]
          exact ⟨Nat.ne_of_lt (Nat.lt_succ_self _), Nat.ne_of_gt hlS⟩
        have hval : ∀ (i : Nat) (v : Value), items[i]? = some v → ∃ k t, ns[i]? = some k ∧ v = .int k t := fun i v hv => by
          have hi : i < ns.length := by rw [← hisz]; exact (Array.getElem?_eq_some_iff.mp hv).1
          obtain ⟨t, e⟩ := PyProof.Rows.IntsAre.int_at hit i v (by rw [Array.getElem?_toList]; exact hv)
          refine ⟨ns[i], t, List.getElem?_eq_getElem hi, ?_⟩
          rw [e, List.getD_eq_getElem?_getD, List.getElem?_eq_getElem hi] <;> rfl
        refine set_update_ints ((Walks.list hh3 _ l hneI items).toS) s.heap.objs.size
          hSf ns hisz hb hval (items.size - 0) 0 _ (by omega) (Nat.zero_le _)
          ⟨⟨_, Heap.get?_push_size _ rfl, rfl, rfl⟩, (hl1.push _)⟩ ?hS0 ?hR
        case hS0 =>
          have hget : ((s.heap.push { cls := .type "set", dict := none, data := .set #[] 0 (.fresh 0 0 (!w.params.followText "set-order")) }).push { cls := .type "list_iterator", data := .fields #[.ref l, .int 0 0] }).get? s.heap.objs.size
              = some { cls := .type "set", dict := none, data := .set #[] 0 (.fresh 0 0 (!w.params.followText "set-order")) } := Heap.get?_push_of_some _ hS
          exact ⟨0, Nat.le_refl 0, setR_new_at hget⟩
        case hR =>
          intro s' c' hm hc' hS'
          obtain ⟨h', g2, d', tk', os'⟩ := s'
          have eg : g2 = s.gens := hm.gens
          have ed : d' = s.drawn := hm.drawn
          have eo : os' = s.os := hm.os
          subst eg; subst ed; subst eo
          show wpAny _ _ _ _ _ _
          refine wpAny_pure ?_
          show wpAny _ _ (ret Value.none) _ _ _
          rw [hisz] at hc'
          refine wpAny_pure ⟨rfl, h', tk', c', rfl, hS', hc', fun b o e => ?_⟩
          have hb0 : b < s.heap.objs.size := Heap.lt_size e
          have hb1 : b ≠ s.heap.objs.size := Nat.ne_of_lt hb0
          have hb2 : b ≠ (s.heap.push { cls := .type "set", dict := none, data := .set #[] 0 (.fresh 0 0 (!w.params.followText "set-order")) }).objs.size := by
            rw [Heap.size_push]; exact Nat.ne_of_lt (Nat.lt_succ_of_lt hb0)
          exact hm.heap b o (by simp only [List.mem_cons, List.mem_singleton, List.not_mem_nil, or_false, not_or]; exact ⟨hb1, hb2⟩) (Heap.get?_push_of_some _ (Heap.get?_push_of_some _ e))

      · cases r₂ with
        | error e => exact hr₂
        | ok fl₂ =>
          cases fl₂ with
          | ret r =>
            obtain ⟨rfl, h', tk, c', rfl, hS', hc', hk'⟩ := hr₂
            repeat (any_goals (first | assumption | wp_step))
            exact h _ _ _ hS' hc' hk'
          | _ => exact hr₂.elim
    | _ => exact hr.elim

end
def rSetL (K : PySem.W.Frag) (w : World) : List V → Hp → VK → Prop := fun xs H Q => ∃ (a : Addr) (ns : List Int), xs = [.ref a] ∧ SqL K H a (ns.map V.int) ∧ ns.length ≤ 50 ∧ ∀ (p : Addr) (n : Nat), H p = none → n ≤ ns.length → Q (.ref p) (L2.upd H p (SetO w p (fun j => decide (j ∈ ns)) n))
theorem ints_are : ∀ {ns : List Int} {us : List Value}, Vals (ns.map V.int) us → PyProof.Rows.IntsAre us ns
  | [], _, .nil => .nil
  | n :: ns, _, .cons r t => by
    obtain ⟨k, rfl⟩ := r
    exact .cons n k (ints_are t)
theorem cr_setL {X : Cx} (hc : X.calm = true) : CallR X (.type "set") (rSetL X.K X.w) := by
  intro pins s σ H xs us Q I r h
  obtain ⟨a, ns, rfl, hq, hl, q⟩ := h
  obtain ⟨u, rfl, rx⟩ := vals1 r
  cases rx
  obtain ⟨its, rv, pl, hz⟩ := I.list hq
  refine set_of_ints ns (I.ok.hd hc) pl.isList (by simpa using ints_are rv) (by unfold scanBound; omega) fun h' tk c hS hcl hk => ?_
  have hf : H s.heap.objs.size = none := I.hok.fresh (Nat.le_refl _)
  exact ⟨.ref s.heap.objs.size, _, I.laid (t' := tk) hk (Nat.le_refl _) (setO_new hS), rfl, q _ c hf hcl⟩
end Kw

set_option Elab.async false
set_option linter.all false
set_option maxRecDepth 100000
set_option maxHeartbeats 4000000
/-! Written data: what a display of written things gives. -/
namespace Kw
open PySem PySem.Spec PyProof.Rows L2
def Lit (K : PySem.W.Frag) (te : TE) (d : PyData) : Prop := ∀ σ H Q, (∀ v H', Same H H' → Dp K H' v d → Q v H') → te σ H Q
def LitA (K : PySem.W.Frag) (ta : TA) (ds : List PyData) : Prop := ∀ σ H R, (∀ vs H', Same H H' → DpAll K H' vs ds → R vs H') → ta σ H R
section
variable {K : PySem.W.Frag}
theorem lit_str {z : Str} : Lit K (tC (.str z)) (.str z) := fun σ H Q k => k _ _ (Same.refl _) (.str _)
theorem lit_int {i : Int} : Lit K (tC (.int i)) (.int i) := fun σ H Q k => k _ _ (Same.refl _) (.int _)
theorem lit_neg {i : Int} : Lit K (tUn (rU fun i => .int (-i)) (tC (.int i))) (.int (-i)) := fun σ H Q k => ⟨_, rfl, k _ _ (Same.refl _) (.int _)⟩
theorem lit_nil : LitA K tNil [] := fun σ H R k => k _ _ (Same.refl _) .nil
theorem lit_cons {te : TE} {ta : TA} {d : PyData} {ds : List PyData} (h : Lit K te d) (t : LitA K ta ds) : LitA K (tCons te ta) (d :: ds) := fun σ H R k =>
  h σ H _ fun v H1 e1 d1 => t σ H1 _ fun vs H2 e2 d2 => k _ _ (e1.trans e2) (.cons (Dp.same e2 _ _ d1) d2)
theorem lit_tup {ta : TA} {ds : List PyData} (t : LitA K ta ds) (hl : ds.length ≤ 100 := by decide) : Lit K (tTup ta) (.tuple ds) := fun σ H Q k =>
  t σ H _ fun vs H1 e1 d1 => ⟨by have := DpAll.len d1; rw [sizeLine_eq]; omega, fun p hp => k _ _ (Same.upd2 e1 hp) (.tup (SqT.of upd_same) (Dp.sames (same_upd hp) _ _ d1))⟩
/-- a list of written things -/
theorem lit_lst {ta : TA} {ds : List PyData} (t : LitA K ta ds) {σ : L2.St} {H : Hp} {Q : VK} (k : ∀ p vs H', Same H H' → H p = none → H' p = some (.lst vs) → DpAll K H' vs ds → Q (.ref p) H') (hl : ds.length ≤ 100 := by decide) : tLst ta σ H Q :=
  t σ H _ fun vs H1 e1 d1 => ⟨by have := DpAll.len d1; rw [sizeLine_eq]; omega, fun p hp => k p vs _ (Same.upd2 e1 hp) (by
    cases q : H p with
    | none => rfl
    | some o => rw [e1 _ _ q] at hp; cases hp) upd_same (Dp.sames (same_upd hp) _ _ d1)⟩
end
end Kw

set_option Elab.async false
set_option linter.all false
set_option maxRecDepth 100000
set_option maxHeartbeats 4000000
namespace Kw
open PySem PySem.Spec PyProof.Rows L2
abbrev sLLog : Stmt := top 64
section
variable {P : Program} {w : World} {K : PySem.W.Frag} {mg : Str → Option Value} {base : Heap}
theorem HouseF.hh {C : Addr} {H : Hp} {h : Addr} {d : Hs} (x : HouseF K C H h d) : ∃ dx vb vt vs vst, H h = some (.ins C dx (hsFs d.hands vb vt vs vst)) ∧ StF K H vst d := x
def spLLog (K : PySem.W.Frag) (C : Addr) : Sp := fun vs H Q _ => ∃ (b l t : Addr) (s0 s1 s2 s3 many sec : Int), vs = [.ref b, .ref t, .int many, .int sec] ∧ SqT K H t [.int s0, .int s1, .int s2, .int s3] ∧ (1 ≤ s0 ∧ s0 ≤ 4) ∧ (1 ≤ s1 ∧ s1 ≤ 3) ∧ (0 ≤ s2 ∧ s2 ≤ 4) ∧ (0 ≤ s3 ∧ s3 ≤ 3) ∧ 0 ≤ many ∧ many ≤ 20 ∧ 0 ≤ sec ∧ sec ≤ 10 ∧ BoxAt H b l ∧
  ∀ (t R h : Addr) (xs : List V) (rs : List Rw) (d : Hs) H', SqT K H' t [.ref h, .ref R] → HouseAt K C H' h d → HsOk d → H' R = some (.lst xs) → DpAll K H' xs (rs.map rwD) → (xs.length : Int) ≤ many + 1 → (∀ r ∈ rs, RwOk d r) → R ≠ b ∧ R ≠ l → BoxAt H' b l → Kb b l H H' → Q (.ref t) H'
theorem scLLog : FnScope ["_law_box", "_law_sizes", "_law_many", "_law_secret", "_law_house_here", "_law_rows", "_law_course", "_law_states"] ["_law_box", "_law_sizes", "_law_many", "_law_secret"] (defScope sLLog) := ⟨rfl, rfl, rfl, by decide +kernel, rfl, by decide +kernel, by decide +kernel⟩
theorem ok_llog {f gT gH gR gS C : Addr} {fd fdT fdH fdR fdS : FuncData} (F : Fun K "_law_log" "_law_log" sLLog f fd) (B : Bt mg) (hc : HouseC K C) (GT : OnceF P w K mg base "_law_take" 1 ["_law_box", "_law_many"] spTake gT fdT) (LH : OnceF P w K mg base "_law_house" 7 ["_law_box", "_law_sizes"] (spLHouse K C) gH fdH)
    (GR : OnceF P w K mg base "_law_story" 4 ["_law_box", "_law_house_here", "_law_many", "_law_secret"] (spStory K C) gR fdR) (GS : OnceF P w K mg base "_law_sight" 3 ["_law_box", "_law_house_here", "_law_state"] (spSight K C) gS fdS) :
    FnOk P w K mg base CX0 8 f fd ["_law_box", "_law_sizes", "_law_many", "_law_secret"] (spLLog K C) := by
  refine F.ok scLLog (fun vs H Q E h => ?_) (fun cdv A outer s H vs Q E hr h => ?_)
  · obtain ⟨b, l, t, s0, s1, s2, s3, many, sec, rfl, _⟩ := h
    rfl
  · obtain ⟨b, l, t, s0, s1, s2, s3, many, sec, rfl, st, z0, z1, z2, z3, m0, m1, c0, c1, hB, k⟩ := h
    have hr1 : Room 1 _ := hr.mono (by decide)
    have hr3 : Room 3 _ := hr.mono (by decide)
    have hr4 : Room 4 _ := hr.mono (by decide)
    refine ⟨_, (pss_cons (ps_set (i := 4) scLLog.nd rfl (.inl rfl) (pe_call LH.G hr rfl LH.m LH.k LH.b .nil pass0 (pa_cons (pv 0) (pa_cons (pv 1) pa_nil)))) (pss_cons (ps_asg (pe_call GR.G hr4 rfl GR.m GR.k GR.b .nil pass0 (pa_cons (pv 0) (pa_cons (pv 4) (pa_cons (pe_call GT.G hr1 rfl GT.m GT.k GT.b .nil pass0 (pa_cons (pv 0) (pa_cons (pe_op op_add (pv 2) pe_int) pa_nil))) (pa_cons (pv 3) pa_nil))))) (pg_tup (by rfl) (pgs_cons (pg_name (i := 5) scLLog.nd rfl (.inl rfl)) (pgs_cons (pg_name (i := 6) scLLog.nd rfl (.inl rfl)) (pgs_cons (pg_name (i := 7) scLLog.nd rfl (.inl rfl)) pgs_nil))))) (pss_cons (ps_if (pt_cmpR op_eq (pe_call GT.G hr1 rfl GT.m GT.k GT.b .nil pass0 (pa_cons (pv 0) (pa_cons pe_int pa_nil))) pe_int (nomark _)) (pss_one (ps_set (i := 5) scLLog.nd rfl (.inl rfl) (pe_op op_cat (pv 5) (pe_lst (pa_cons (pe_call GS.G hr3 rfl GS.m GS.k GS.b .nil pass0 (pa_cons (pv 0) (pa_cons (pv 4) (pa_cons (pe_fld (pv 4) rfl) pa_nil)))) pa_nil))))) pss_nil) (pss_one (ps_ret (pe_tup (pa_cons (pv 4) (pa_cons (pv 5) pa_nil)))))))), ?_⟩
    refine ⟨_, rfl, _, rfl, b, l, t, s0, s1, s2, s3, rfl, st, z0, z1, z2, z3, hB, fun h d H1 hh1 hF1 hok hB1 k1 => ?_⟩
    refine ⟨_, rfl, _, rfl, _, rfl, _, rfl, _, _, rfl, rfl, b, l, many + 1, rfl, by omega, by omega, hB1, fun n H2 n0 n1 hB2 k2 => ⟨_, rfl, b, l, h, n, sec, d, rfl, n0, by omega, c0, c1, hB2, hh1.nl k2.nl, hF1.nl k2.nl, hok, fun T R r2 r3 xs rs H3 sT hR0 hR3 dR lR oR hB3 k3 => ?_⟩⟩
    have nR : R ≠ b ∧ R ≠ l := hB2.neL hR0
    refine ⟨T, _, rfl, sT, rfl, _, _, rfl, _, _, rfl, _, _, rfl, rfl, ?_⟩
    have hh3 := (hh1.nl k2.nl).nl k3.nl
    have hF3 := (hF1.nl k2.nl).nl k3.nl
    have k13 := (k1.trans k2).trans k3
    refine ⟨_, rfl, b, l, 3, rfl, by omega, by omega, hB3, fun r H4 r0 r1 hB4 k4 => ⟨rfl, _, rfl, ?_⟩⟩
    have hR4 := k4.kp.ls _ _ hR3 nR.1 nR.2
    have dR4 := Dp.nls k4.nl _ _ (noLs_rw rs) dR
    have hh4 := hh3.nl k4.nl
    have hF4 := hF3.nl k4.nl
    have k14 := k13.trans k4
    have end_ : ∀ (R' : Addr) (xs' : List V) (rs' : List Rw) (H5 : Hp) (v6 v7 : V), Kb b l H4 H5 → BoxAt H5 b l → H5 R' = some (.lst xs') → DpAll K H5 xs' (rs'.map rwD) → (xs'.length : Int) ≤ many + 1 → (∀ r ∈ rs', RwOk d r) → R' ≠ b ∧ R' ≠ l →
        ∀ t' H6, H5 t' = none → H6 = L2.upd H5 t' (.tup [.ref h, .ref R']) → Q (.ref t') H6 := fun R' xs' rs' H5 v6 v7 k5 hB5 hR5 d5 l5 o5 n5 t' H6 ht' e6 => by
      subst e6
      have f6 := same_upd (o := HO.tup [V.ref h, .ref R']) ht'
      exact k t' R' h xs' rs' d _ (SqT.of upd_same) ((hh4.nl k5.nl).nl (nl_same f6)) hok (f6 _ _ hR5) (Dp.sames f6 _ _ d5) l5 o5 n5 (hB5.same f6) ((k14.trans k5).trans (Kb.same f6))
    rw [decZ]
    by_cases c : r = 0
    · refine iteTe (decide_eq_true c) ?_
      obtain ⟨dx, vb, vt, vs, vst, g0, gst⟩ := hF4.hh
      refine ⟨_, rfl, _, rfl, _, rfl, _, rfl, h, C, dx, _, _, rfl, g0, hc.cl, hc.nSt, fs_state _ _ _ _ _, b, l, h, _, d, d, rfl, hB4, hh4, gst.dp, Shp.refl d, hok, hok.wf, fun y g H5 dy sg hB5 k5 => ⟨(by show 1 ≤ sizeLine; decide), fun p hp => ?_⟩⟩
      have hR5 := k5.kp.ls _ _ hR4 nR.1 nR.2
      have f6 := same_upd (o := HO.lst [y]) hp
      have l5 := sizeLine_eq
      refine ⟨R, p, xs, [y], rfl, rfl, f6 _ _ hR5, upd_same, by simp; omega, fun q hq => ?_⟩
      have f7 := same_upd (o := HO.lst (xs ++ [y])) hq
      have e57 := f6.trans f7
      have hBq := (hB5.same f6).neL hq
      refine ⟨_, rfl, _, rfl, (by show 2 ≤ sizeLine; decide), fun t' ht' => ?_⟩
      refine end_ q (xs ++ [y]) (rs ++ [.sight g]) _ (.ref q) (.ref q) (k5.trans (Kb.same e57)) (hB5.same e57) upd_same ?_ (by rw [List.length_append]; simp; omega) (fun r hr => ?_) hBq t' _ ht' rfl
      · rw [List.map_append]
        exact DpAll.app (Dp.sames e57 _ _ (Dp.nls k5.nl _ _ (noLs_rw rs) dR4)) (.cons (Dp.same e57 _ _ dy) .nil)
      · rcases List.mem_append.mp hr with hr | hr
        · exact oR r hr
        · rw [List.mem_singleton.mp hr]
          exact ⟨sg.2.2, sg.2.1, by have := sg.1; omega⟩
    · refine iteFe (decide_eq_false c) ?_
      refine ⟨_, rfl, _, rfl, (by show 2 ≤ sizeLine; decide), fun t' ht' => ?_⟩
      exact end_ R xs rs H4 (.ref R) (.ref R) (Kb.refl b l H4) hB4 hR4 dR4 (by omega) oR nR t' _ ht' rfl
end
end Kw

set_option Elab.async false
set_option linter.all false
set_option maxRecDepth 100000
set_option maxHeartbeats 4000000
namespace Kw
open PySem PySem.Spec PyProof.Rows L2
abbrev sRef : Stmt := top 66
/-! ### rows that cannot be by themselves -/
def odd1 : List Rw := [.deed (.give 0 (.box, 0) 0), .deed (.put 0 (.sl, 0) 0), .deed (.take 0 (.box, 0) 0), .gap [0, 0]]
def odd2 : List Rw := [.deed (.brk 4 0), .sight (.bare 3), .sight (.inn 0 [(.thing, 4)]), .sight (.nt (.gone 3)), .deed (.lock 0 3 0)]
def odd3 : List Rw := [.gap [-1]]
def oddR : List Rw := odd1 ++ odd2 ++ odd3
theorem lit_odd1 {K : PySem.W.Frag} : LitA K (tCons (tTup (tCons (tC (.str ("give" : Str))) (tCons (tC (.int 0)) (tCons (tTup (tCons (tC (.str ("box" : Str))) (tCons (tC (.int 0)) tNil))) (tCons (tC (.int 0)) tNil))))) (tCons (tTup (tCons (tC (.str ("put" : Str))) (tCons (tC (.int 0)) (tCons (tTup (tCons (tC (.str ("seal" : Str))) (tCons (tC (.int 0)) tNil))) (tCons (tC (.int 0)) tNil))))) (tCons (tTup (tCons (tC (.str ("take" : Str))) (tCons (tC (.int 0)) (tCons (tTup (tCons (tC (.str ("box" : Str))) (tCons (tC (.int 0)) tNil))) (tCons (tC (.int 0)) tNil))))) (tCons (tTup (tCons (tC (.str ("gap" : Str))) (tCons (tTup (tCons (tC (.int 0)) (tCons (tC (.int 0)) tNil))) tNil))) tNil)))) (odd1.map rwD) := (lit_cons (lit_tup (lit_cons lit_str (lit_cons lit_int (lit_cons (lit_tup (lit_cons lit_str (lit_cons lit_int lit_nil))) (lit_cons lit_int lit_nil))))) (lit_cons (lit_tup (lit_cons lit_str (lit_cons lit_int (lit_cons (lit_tup (lit_cons lit_str (lit_cons lit_int lit_nil))) (lit_cons lit_int lit_nil))))) (lit_cons (lit_tup (lit_cons lit_str (lit_cons lit_int (lit_cons (lit_tup (lit_cons lit_str (lit_cons lit_int lit_nil))) (lit_cons lit_int lit_nil))))) (lit_cons (lit_tup (lit_cons lit_str (lit_cons (lit_tup (lit_cons lit_int (lit_cons lit_int lit_nil))) lit_nil))) lit_nil))))
theorem lit_odd2 {K : PySem.W.Frag} : LitA K (tCons (tTup (tCons (tC (.str ("break" : Str))) (tCons (tC (.int 4)) (tCons (tC (.int 0)) tNil)))) (tCons (tTup (tCons (tC (.str ("bare" : Str))) (tCons (tC (.int 3)) tNil))) (tCons (tTup (tCons (tC (.str ("in" : Str))) (tCons (tC (.int 0)) (tCons (tTup (tCons (tTup (tCons (tC (.str ("thing" : Str))) (tCons (tC (.int 4)) tNil))) tNil)) tNil)))) (tCons (tTup (tCons (tC (.str ("not" : Str))) (tCons (tTup (tCons (tC (.str ("gone" : Str))) (tCons (tC (.int 3)) tNil))) tNil))) (tCons (tTup (tCons (tC (.str ("seal" : Str))) (tCons (tC (.int 0)) (tCons (tC (.int 3)) (tCons (tC (.int 0)) tNil))))) tNil))))) (odd2.map rwD) := (lit_cons (lit_tup (lit_cons lit_str (lit_cons lit_int (lit_cons lit_int lit_nil)))) (lit_cons (lit_tup (lit_cons lit_str (lit_cons lit_int lit_nil))) (lit_cons (lit_tup (lit_cons lit_str (lit_cons lit_int (lit_cons (lit_tup (lit_cons (lit_tup (lit_cons lit_str (lit_cons lit_int lit_nil))) lit_nil)) lit_nil)))) (lit_cons (lit_tup (lit_cons lit_str (lit_cons (lit_tup (lit_cons lit_str (lit_cons lit_int lit_nil))) lit_nil))) (lit_cons (lit_tup (lit_cons lit_str (lit_cons lit_int (lit_cons lit_int (lit_cons lit_int lit_nil))))) lit_nil)))))
theorem lit_odd3 {K : PySem.W.Frag} : LitA K (tCons (tTup (tCons (tC (.str ("gap" : Str))) (tCons (tTup (tCons (tUn (rU fun i => .int (-i)) (tC (.int 1))) tNil)) tNil))) tNil) (odd3.map rwD) := (lit_cons (lit_tup (lit_cons lit_str (lit_cons (lit_tup (lit_cons lit_neg lit_nil)) lit_nil))) lit_nil)
theorem odd_bad {d : Hs} (h : HsOk d) : ∀ r ∈ oddR, ¬ okR d r ∧ SmR r := by
  have h0 := h.h0
  have h1 := h.h1
  have b0 := h.b0
  have b1 := h.b1
  have t1 := h.t1
  have s1 := h.s1
  have nn : ∀ z : Str, z ≠ "" → ∀ y : Str, y = z → ¬ y = "" := fun z n y e q => n (e.symm.trans q)
  intro r hr
  simp only [oddR, odd1, odd2, odd3, List.cons_append, List.nil_append, List.mem_cons, List.not_mem_nil, or_false] at hr
  rcases hr with rfl | rfl | rfl | rfl | rfl | rfl | rfl | rfl | rfl | rfl
  · refine ⟨nn "UnknownHand" (by decide +kernel) _ ?_, by decide, by decide, by decide⟩
    have i0 : inH d (.box, 0) := by show 0 < d.bs.length; omega
    exact (if_neg (by show ¬ d.hands ≤ (0 : Int); omega)).trans ((if_neg (fun z => z i0)).trans (if_pos (.inr rfl)))
  · refine ⟨nn "UnknownItem" (by decide +kernel) _ ?_, by decide, by decide, by decide⟩
    exact (if_neg (by show ¬ d.hands ≤ (0 : Int); omega)).trans (if_pos (.inr rfl))
  · refine ⟨nn "InsideItself" (by decide +kernel) _ ?_, by decide, by decide, by decide⟩
    have i0 : inH d (.box, 0) := by show 0 < d.bs.length; omega
    exact (if_neg (by show ¬ d.hands ≤ (0 : Int); omega)).trans ((if_neg (by rintro (z | z); exact z i0; cases z)).trans ((if_neg (by omega)).trans (if_pos rfl)))
  · refine ⟨fun z => ?_, by show 2 ≤ 100; decide⟩
    have := (z 1 0 rfl).2 0 (by decide) rfl
    omega
  · refine ⟨nn "UnknownHand" (by decide +kernel) _ ?_, by decide, by decide⟩
    exact if_pos (by show d.hands ≤ ((4 : Nat) : Int); omega)
  · refine ⟨nn "UnknownBox" (by decide +kernel) _ ?_, by show 3 ≤ 1000; decide, by decide⟩
    show unkS d (.bare 3) = _
    unfold unkS
    exact if_pos (by omega)
  · refine ⟨nn "UnknownItem" (by decide +kernel) _ ?_, ⟨by decide, by decide, fun p hp => by rw [List.mem_singleton.mp hp]; decide⟩, by decide⟩
    show unkS d (.inn 0 [(.thing, 4)]) = _
    unfold unkS
    refine (if_neg (by omega)).trans (if_neg fun g => ?_)
    have g1 : 4 < d.ts.length := (g 0 (.thing, 4) rfl).1.1
    omega
  · refine ⟨nn "UnknownSeal" (by decide +kernel) _ ?_, by show 3 ≤ 1000; decide, by decide⟩
    show unkS d (.nt (.gone 3)) = _
    unfold unkS
    show unkS d (.gone 3) = _
    unfold unkS
    exact if_pos (by omega)
  · refine ⟨nn "UnknownBox" (by decide +kernel) _ ?_, by decide, by decide, by decide⟩
    exact (if_neg (by show ¬ d.hands ≤ (0 : Int); omega)).trans (if_pos (by omega))
  · refine ⟨fun z => ?_, by show 1 ≤ 100; decide⟩
    have := (z 0 (-1) rfl).1
    simp [numOk] at this
theorem dp_drop {K : PySem.W.Frag} {H : Hp} : ∀ {vs : List V} {ds : List PyData} (n : Nat), DpAll K H vs ds → DpAll K H (vs.drop n) (ds.drop n)
  | _, _, 0, h => h
  | _, _, n + 1, .nil => .nil
  | _, _, n + 1, .cons _ t => dp_drop n t
theorem dp_rep {K : PySem.W.Frag} {H : Hp} {v : V} {r : Rw} (h : Dp K H v (rwD r)) : ∀ n : Nat, DpAll K H (List.replicate n [v]).flatten ((List.replicate n r).map rwD)
  | 0 => .nil
  | n + 1 => by
    rw [List.replicate_succ, List.replicate_succ]
    exact .cons h (dp_rep h n)
theorem rep_len {α : Type} (v : α) : ∀ n : Nat, (List.replicate n [v]).flatten.length = n
  | 0 => rfl
  | n + 1 => by
    rw [List.replicate_succ, List.flatten_cons, List.length_append, rep_len v n]
    simp
    omega
theorem bad_one {d : Hs} {rs : List Rw} {i k : Nat} (a : BadAt d rs i) (b : BadAt d rs k) : i = k := by
  have go : ∀ {i k : Nat}, BadAt d rs i → BadAt d rs k → ¬ i < k := fun {i k} a b h => by
    obtain ⟨q1, q2⟩ := b.2.1 i h
    rcases a.2.2 with e | ⟨r, hr, hn⟩
    · omega
    · exact hn (q2 r hr)
  have h1 := go a b
  have h2 := go b a
  omega
theorem bad_put {d : Hs} {rs : List Rw} {x : Rw} {k : Nat} (v : Vld d rs) (hk : k ≤ rs.length) (h30 : k < 30) (hx : ¬ okR d x) (l : List Rw) : BadAt d (rs.take k ++ [x] ++ l) k := by
  have lt : (rs.take k).length = k := by rw [List.length_take]; omega
  refine ⟨by rw [List.length_append, List.length_append, lt]; simp; omega, fun j hj => ⟨by omega, fun r hr => ?_⟩, .inr ⟨x, ?_, hx⟩⟩
  · rw [List.append_assoc, List.getElem?_append_left (by omega)] at hr
    exact (v.ok r (List.mem_of_mem_take (List.mem_of_getElem? hr))).1
  · rw [List.append_assoc, List.getElem?_append_right (by omega), lt, Nat.sub_self]
    rfl
/-! ### what the law holds on to -/
structure WL (K : PySem.W.Frag) (C CL : Addr) (T : List (Addr × Str)) (b l h a R : Addr) (xs : List V) (rs : List Rw) (d : Hs) (H : Hp) : Prop where
  bx : BoxAt H b l
  tb : LamX.Tabs T H
  la : LogAt K C CL H a h d rs
  r : H R = some (.lst xs)
  dr : DpAll K H xs (rs.map rwD)
  nR : R ≠ b ∧ R ≠ l
theorem ext_nl {H H' : Hp} (e : LamX.ExtN H H') : Nl H H' := fun a o h _ n => e a o h n
theorem ext_lst {H H' : Hp} (e : LamX.ExtN H H') {a : Addr} {xs : List V} (h : H a = some (.lst xs)) : H' a = some (.lst xs) := e _ _ h fun _ z => nomatch z
theorem Tabs.kb {T : List (Addr × Str)} {b l : Addr} {H H' : Hp} (k : Kb b l H H') (t : LamX.Tabs T H) : LamX.Tabs T H' := fun p hp => by
  obtain ⟨ps, h1, h2, h3⟩ := t p hp
  refine ⟨ps, k.tb _ _ h1, h2, fun pos cv hc => ?_⟩
  obtain ⟨c, e1, e2⟩ := h3 pos cv hc
  exact ⟨c, e1, k.kp.nl _ _ e2 (fun xs z => by unfold LamX.CodeO at z; cases z) (fun ps z => LamX.codeO_ne ps z)⟩
section
variable {K : PySem.W.Frag} {C CL : Addr} {T : List (Addr × Str)} {b l h a R : Addr} {xs : List V} {rs : List Rw} {d : Hs} {H H' : Hp}
theorem WL.kb (k : Kb b l H H') (hB : BoxAt H' b l) (x : WL K C CL T b l h a R xs rs d H) : WL K C CL T b l h a R xs rs d H' :=
  ⟨hB, Tabs.kb k x.tb, x.la.nl k.nl, k.kp.ls _ _ x.r x.nR.1 x.nR.2, Dp.nls k.nl _ _ (noLs_rw rs) x.dr, x.nR⟩
theorem WL.same (e : Same H H') (x : WL K C CL T b l h a R xs rs d H) : WL K C CL T b l h a R xs rs d H' := x.kb (Kb.same e) (x.bx.same e)
theorem box_ext (e : LamX.ExtN H H') (x : BoxAt H b l) : BoxAt H' b l := by
  obtain ⟨ns, m, h1, h2, h3⟩ := x
  exact ⟨ns, m, ext_lst e h1, ext_lst e h2, h3⟩
theorem WL.ext (e : LamX.ExtN H H') (t : LamX.Tabs T H') (x : WL K C CL T b l h a R xs rs d H) : WL K C CL T b l h a R xs rs d H' :=
  ⟨box_ext e x.bx, t, x.la.nl (ext_nl e), ext_lst e x.r, Dp.nls (ext_nl e) _ _ (noLs_rw rs) x.dr, x.nR⟩
end
theorem cut_take {α : Type} (xs : List α) (k : Nat) (h : k ≤ xs.length) : (xs.drop (HT.sIx xs.length 0 none)).take (HT.sIx xs.length xs.length (some (k : Int)) - HT.sIx xs.length 0 none) = xs.take k := by
  rw [HT.sIx_nat, HT.sIx_none, List.drop_zero, Nat.min_eq_left h]
  rfl
theorem cut_drop {α : Type} (xs : List α) (k : Nat) (h : k ≤ xs.length) : (xs.drop (HT.sIx xs.length 0 (some (k : Int)))).take (HT.sIx xs.length xs.length none - HT.sIx xs.length 0 (some (k : Int))) = xs.drop k := by
  rw [HT.sIx_nat, HT.sIx_none, Nat.min_eq_left h]
  exact List.take_of_length_le (by rw [List.length_drop]; omega)
def nmD (i : Nat) : PyData := .tuple [.str ("InvalidLog" : Str), .int (i : Nat)]
theorem shaped_nm (i : Nat) : SeqAt.shaped (nmD i) = true := by
  have h1 : PyData.strOk ("InvalidLog" : Str) = true := by decide +kernel
  simp [SeqAt.shaped, nmD, PyData.canLay0, PyData.canLayAll0, PyData.depth, PyData.depthAll, h1]
theorem eqv_nm (i : Nat) : PyData.eqv (nmD i) (nmD i) = true := by
  simp [nmD, PyData.eqv, PyData.eqvAll]
def dueM (n : Nat) : PyData := if 30 < n then nmD 30 else .str ""
def bareR : Rw := .sight (.bare 0)
theorem bare_ok {d : Hs} (h : HsOk d) : RwOk d bareR := by
  have b0 := h.b0
  refine ⟨?_, by show 0 ≤ 1000; decide, by decide⟩
  show unkS d (.bare 0) = ""
  unfold unkS
  exact if_neg (by omega)
structure LAddF (P : Program) (w : World) (K : PySem.W.Frag) (mg : Str → Option Value) (base : Heap) (C CL XL g : Addr) (fd : FuncData) : Prop where
  G : FnOk P w K mg base (L2.CX P w) 11 g fd ["self", "rows"] (spLAdd K C CL XL)
  A : AddC K CL g
  b : Binds K fd ["self", "rows"] []
def qRef : Str := (envOfC "_law_refused" (defScope sRef) 0 0 .none).qual ++ "<lambda>"
section
variable {P : Program} {w : World} {K : PySem.W.Frag} {mg : Str → Option Value} {base : Heap}
def spRef (K : PySem.W.Frag) (C tb : Addr) : Sp := fun vs H Q _ => ∃ (b l h R : Addr) (xs : List V) (rs : List Rw) (d : Hs), vs = [.ref b, .ref h, .ref R] ∧ BoxAt H b l ∧ HouseAt K C H h d ∧ HsOk d ∧ H R = some (.lst xs) ∧ DpAll K H xs (rs.map rwD) ∧ Vld d rs ∧ rs.length ≤ 20 ∧ (R ≠ b ∧ R ≠ l) ∧ LamX.Tabs [(tb, qRef)] H ∧ ∀ H', Q (.bl true) H'
theorem scRef : FnScope ["_law_box", "_law_house_here", "_law_rows", "_law_odd", "_law_wrong", "_law_log_here", "_law_index", "_law_many"] ["_law_box", "_law_house_here", "_law_rows"] (defScope sRef) := ⟨rfl, rfl, rfl, by decide +kernel, rfl, by decide +kernel, by decide +kernel⟩
theorem ok_ref {C CL CE f cd tb gT gM gA gE : Addr} {fdT fdM fdA fdE : FuncData} {ce : Str → Addr} {oc kV doc pm ct : Value} {od an : Option Addr} {osl : Array (Option Value)}
    (B : Bt mg) (mSo : mg "sorted" = none) (mSe : mg "set" = none) (TB : LamX.TabB base mg cd tb) (wat : mg "WatchError" = some (.ref CE)) (knL : KnownX K mg ce CE "InvalidLog")
    (GT : OnceF P w K mg base "_law_take" 1 ["_law_box", "_law_many"] spTake gT fdT) (M : LMk P w K mg base C CL (ce "InvalidLog") gM fdM) (LA : LAddF P w K mg base C CL (ce "InvalidLog") gA fdA)
    (LE : Fun K "_law_error" "_law_error" sErr gE fdE) (mE : mg "_law_error" = some (.ref gE)) (bE : Binds K fdE ["_law_work"] [])
    (lk : K.lookup f = some ⟨oc, od, .func (PySem.W.fnOf "_law_refused" "_law_refused" (defArgs sRef) (defBody sRef) (defScope sRef) .none kV doc pm an (.ref cd) ct), osl⟩) (hcd : PySem.W.codeIn K (.ref cd) "_law_refused" = true) :
    FnOk P w K mg base CX0 15 f (PySem.W.fnOf "_law_refused" "_law_refused" (defArgs sRef) (defBody sRef) (defScope sRef) .none kV doc pm an (.ref cd) ct) ["_law_box", "_law_house_here", "_law_rows"] (spRef K C tb) := by
  refine fn_of lk hcd scRef (fun vs H Q E h => ?_) (fun A outer s H vs Q E hr h => ?_)
  · obtain ⟨b, l, h, R, xs, rs, d, rfl, _⟩ := h
    rfl
  · obtain ⟨b, l, h, R, xs, rs, d, rfl, hB, hh, hok, hR, dR, hv, l20, nR, hT, k⟩ := h
    have hr1 : Room 1 _ := hr.mono (by decide)
    have hr14 : Room 14 _ := hr
    have hu : ((cxOf CX0 P w K mg base ["_law_box", "_law_house_here", "_law_rows", "_law_odd", "_law_wrong", "_law_log_here", "_law_index", "_law_many"] "_law_refused" (defScope sRef) f (.ref cd) A outer s H E0).nox).A.units + 64 < cLine := by have := hr.un; show (A.deeper _).units + 64 < cLine; omega
    have hcode : ((cxOf CX0 P w K mg base ["_law_box", "_law_house_here", "_law_rows", "_law_odd", "_law_wrong", "_law_log_here", "_law_index", "_law_many"] "_law_refused" (defScope sRef) f (.ref cd) A outer s H E0).nox).env.code = .ref cd := rfl
    obtain ⟨oc1, od1, kV1, doc1, pm1, an1, cdv, ct1, osl1, rfl, lkE, cdE⟩ := LE.ex
    obtain ⟨q, eq⟩ : ∃ q, q = ((cxOf CX0 P w K mg base ["_law_box", "_law_house_here", "_law_rows", "_law_odd", "_law_wrong", "_law_log_here", "_law_index", "_law_many"] "_law_refused" (defScope sRef) f (.ref cd) A outer s H E0).nox).env.qual ++ "<lambda>" := ⟨_, rfl⟩
    have eqR : q = qRef := eq
    rw [← eqR] at hT
    have hmT : (tb, ((cxOf CX0 P w K mg base ["_law_box", "_law_house_here", "_law_rows", "_law_odd", "_law_wrong", "_law_log_here", "_law_index", "_law_many"] "_law_refused" (defScope sRef) f (.ref cd) A outer s H E0).nox).env.qual ++ "<lambda>") ∈ [(tb, q)] := by rw [eq]; exact List.mem_cons_self
    have huT : ∀ p ∈ [(tb, q)], p.1 = tb → p.2 = ((cxOf CX0 P w K mg base ["_law_box", "_law_house_here", "_law_rows", "_law_odd", "_law_wrong", "_law_log_here", "_law_index", "_law_many"] "_law_refused" (defScope sRef) f (.ref cd) A outer s H E0).nox).env.qual ++ "<lambda>" := fun p hp _ => by rw [List.mem_singleton.mp hp, eq]
    refine ⟨_, PSs.nox (pss_cons (ps_set (i := 3) scRef.nd rfl (.inl rfl) (pe_lst (pa_cons (pe_tup (pa_cons pe_str (pa_cons pe_int (pa_cons (pe_tup (pa_cons pe_str (pa_cons pe_int pa_nil))) (pa_cons pe_int pa_nil))))) (pa_cons (pe_tup (pa_cons pe_str (pa_cons pe_int (pa_cons (pe_tup (pa_cons pe_str (pa_cons pe_int pa_nil))) (pa_cons pe_int pa_nil))))) (pa_cons (pe_tup (pa_cons pe_str (pa_cons pe_int (pa_cons (pe_tup (pa_cons pe_str (pa_cons pe_int pa_nil))) (pa_cons pe_int pa_nil))))) (pa_cons (pe_tup (pa_cons pe_str (pa_cons (pe_tup (pa_cons pe_int (pa_cons pe_int pa_nil))) pa_nil))) pa_nil)))))) (pss_cons (ps_set (i := 3) scRef.nd rfl (.inl rfl) (pe_op op_cat (pv 3) (pe_lst (pa_cons (pe_tup (pa_cons pe_str (pa_cons pe_int (pa_cons pe_int pa_nil)))) (pa_cons (pe_tup (pa_cons pe_str (pa_cons pe_int pa_nil))) (pa_cons (pe_tup (pa_cons pe_str (pa_cons pe_int (pa_cons (pe_tup (pa_cons (pe_tup (pa_cons pe_str (pa_cons pe_int pa_nil))) pa_nil)) pa_nil)))) (pa_cons (pe_tup (pa_cons pe_str (pa_cons (pe_tup (pa_cons pe_str (pa_cons pe_int pa_nil))) pa_nil))) (pa_cons (pe_tup (pa_cons pe_str (pa_cons pe_int (pa_cons pe_int (pa_cons pe_int pa_nil))))) pa_nil)))))))) (pss_cons (ps_asg (pe_tup (pa_cons (pe_ix ix_list (pe_op op_cat (pv 3) (pe_lst (pa_cons (pe_tup (pa_cons pe_str (pa_cons (pe_tup (pa_cons (pe_un un_neg pe_int) pa_nil)) pa_nil))) pa_nil))) (pe_call GT.G hr1 rfl GT.m GT.k GT.b .nil pass0 (pa_cons (pv 0) (pa_cons pe_int pa_nil))) (fun _ _ => rfl)) (pa_cons (pe_make M.M M.G (hr.mono (by decide)) rfl M.m M.b .nil passL (pa_cons (pv 1) (pa_cons (pv 2) pa_nil))) pa_nil))) (pg_tup (by rfl) (pgs_cons (pg_name (i := 4) scRef.nd rfl (.inr rfl)) (pgs_cons (pg_name (i := 5) scRef.nd rfl (.inr rfl)) pgs_nil)))) (pss_cons (ps_for PassesOwn.never rfl (pi_list (pe_callB (cr_sortedSet rfl) (by rfl) mSo (by decide +kernel) (pa_cons (pe_callTy (cr_setL rfl) (by rfl) mSe (by decide +kernel) (pa_cons (pe_lst (pa_cons pe_int (pa_cons (pe_call GT.G hr1 rfl GT.m GT.k GT.b .nil pass0 (pa_cons (pv 0) (pa_cons (pe_op op_add (pe_callB call_len_seq (by rfl) B.len PySem.boot_len (pa_cons (pv 2) pa_nil)) pe_int) pa_nil))) (pa_cons (pe_callB call_len_seq (by rfl) B.len PySem.boot_len (pa_cons (pv 2) pa_nil)) pa_nil)))) pa_nil)) pa_nil))) (pg_name (i := 6) scRef.nd rfl (.inr rfl)) (pss_one (ps_if (pt_cmpR (op_neD hu) (LamX.pe_lamcall (T := [(tb, q)]) (TT := TErrX K mg ce CE) (t := fun E => tMake CL (spLInit K C CL (ce "InvalidLog")) [] E (tCons (tVar 1) (tCons (tOp rCat (tOp rCat (L2.tSl (rSlL K) (tVar 2) tNoPart (tPart (tVar 6))) (tLst (tCons (tVar 4) tNil))) (L2.tSl (rSlL K) (tVar 2) (tPart (tVar 6)) tNoPart)) tNil))) (k := 12) (Ng := ["_law_work", "error", "_law_kinds", "_law_names", "_law_name"]) (a := "_law_work") rfl mE LE.kp lkE cdE bE scErr rfl (.inl rfl) (errX_gives wat B) TB hcode hmT huT hr14 (LamX.lamS_by (sc := defScope sRef) (by decide +kernel)) rfl (fun _ _ _ _ _ => rfl) (fun A outer s H E f c' hr => (pe_make M.M M.G (hr.mono (by decide)) rfl M.m M.b .nil (passes_call (takes_of rfl rfl rfl rfl) (fun _ _ _ _ h => h)) (pa_cons (pv 1) (pa_cons (pe_op op_cat (pe_op op_cat (pe_slice sl_list (pv 2) po_none (po_some (pv 6))) (pe_lst (pa_cons (pv 4) pa_nil))) (pe_slice sl_list (pv 2) (po_some (pv 6)) po_none)) pa_nil))))) (pe_tup (pa_cons pe_str (pa_cons (pv 6) pa_nil))) (nomark _)) (pss_one (ps_ret pe_bl)) pss_nil))) (pss_cons (ps_if (pt_cmpR (op_neD hu) (LamX.pe_lamcall (T := [(tb, q)]) (TT := TErrX K mg ce CE) (t := fun E => tOp (rAddOwn K CL (spLAdd K C CL (ce "InvalidLog")) E) (tVar 5) (tLst (tCons (tTup (tCons (tC (.str ("bare" : Str))) (tCons (tC (.int 0)) tNil))) (tCons (tVar 4) tNil)))) (k := 12) (Ng := ["_law_work", "error", "_law_kinds", "_law_names", "_law_name"]) (a := "_law_work") rfl mE LE.kp lkE cdE bE scErr rfl (.inl rfl) (errX_gives wat B) TB hcode hmT huT hr14 (LamX.lamS_by (sc := defScope sRef) (by decide +kernel)) rfl (fun _ _ _ _ _ => rfl) (fun A outer s H E f c' hr => (pe_op (op_addOwn LA.G LA.A (hr.mono (by decide)) LA.b (passes_call (takes_of rfl rfl rfl rfl) (fun _ _ _ _ h => h))) (pv 5) (pe_lst (pa_cons (pe_tup (pa_cons pe_str (pa_cons pe_int pa_nil))) (pa_cons (pv 4) pa_nil)))))) (pe_tup (pa_cons pe_str (pa_cons (pe_op op_add (pe_callB call_len_seq (by rfl) B.len PySem.boot_len (pa_cons (pv 2) pa_nil)) pe_int) pa_nil))) (nomark _)) (pss_one (ps_ret pe_bl)) pss_nil) (pss_cons (ps_set (i := 7) scRef.nd rfl (.inr rfl) (pe_op op_add pe_int (pe_call GT.G hr1 rfl GT.m GT.k GT.b .nil pass0 (pa_cons (pv 0) (pa_cons pe_int pa_nil))))) (pss_one (ps_ret (pe_cmpR (op_eqD hu) (LamX.pe_lamcall (T := [(tb, q)]) (TT := TErrX K mg ce CE) (t := fun E => tMake CL (spLInit K C CL (ce "InvalidLog")) [] E (tCons (tVar 1) (tCons (tOp rRep (tLst (tCons (tTup (tCons (tC (.str ("bare" : Str))) (tCons (tC (.int 0)) tNil))) tNil)) (tVar 7)) tNil))) (k := 12) (Ng := ["_law_work", "error", "_law_kinds", "_law_names", "_law_name"]) (a := "_law_work") rfl mE LE.kp lkE cdE bE scErr rfl (.inl rfl) (errX_gives wat B) TB hcode hmT huT hr14 (LamX.lamS_by (sc := defScope sRef) (by decide +kernel)) rfl (fun _ _ _ _ _ => rfl) (fun A outer s H E f c' hr => (pe_make M.M M.G (hr.mono (by decide)) rfl M.m M.b .nil (passes_call (takes_of rfl rfl rfl rfl) (fun _ _ _ _ h => h)) (pa_cons (pv 1) (pa_cons (pe_op op_rep (pe_lst (pa_cons (pe_tup (pa_cons pe_str (pa_cons pe_int pa_nil))) pa_nil)) (pv 7)) pa_nil))))) (pe_ifExp (pt_cmpR op_gt (pv 7) pe_int (nomark _)) (pe_tup (pa_cons pe_str (pa_cons pe_int pa_nil))) pe_str) (nomark _)))))))))), ?_⟩
    clear eq eqR
    have l5 := sizeLine_eq
    have lx := rows_len dR
    -- the odd rows
    refine seq_by ?_
    refine asg_by ?_
    refine lit_lst (K := K) lit_odd1 (fun O1 o1 H1 e1 nO1 hO1 d1 => ?_)
    dsimp only
    refine seq_by ?_
    refine asg_by ?_
    refine ⟨_, rfl, ?_⟩
    refine lit_lst (K := K) lit_odd2 (fun O2 o2 H2 e2 nO2 hO2 d2 => ?_)
    have lo1 : o1.length = 4 := DpAll.len d1
    have lo2 : o2.length = 5 := DpAll.len d2
    refine ⟨O1, O2, o1, o2, rfl, rfl, e2 _ _ hO1, hO2, by omega, fun O3 hO3 => ?_⟩
    have e3 := same_upd (o := HO.lst (o1 ++ o2)) hO3
    have e13 := e1.trans (e2.trans e3)
    have hO3' : (L2.upd H2 O3 (.lst (o1 ++ o2))) O3 = some (.lst (o1 ++ o2)) := upd_same
    have d12 : DpAll K (L2.upd H2 O3 (.lst (o1 ++ o2))) (o1 ++ o2) ((odd1 ++ odd2).map rwD) := by
      rw [List.map_append]
      exact DpAll.app (Dp.sames (e2.trans e3) _ _ d1) (Dp.sames e3 _ _ d2)
    generalize L2.upd H2 O3 (.lst (o1 ++ o2)) = H3 at *
    refine ⟨_, rfl, ?_⟩
    refine lit_lst (K := K) lit_odd3 (fun O4 o4 H4 e4 nO4 hO4 d4 => ?_)
    have lo4 : o4.length = 1 := DpAll.len d4
    refine ⟨O3, O4, _, o4, rfl, rfl, e4 _ _ hO3', hO4, by rw [List.length_append]; omega, fun O5 hO5 => ?_⟩
    have e5 := same_upd (o := HO.lst (o1 ++ o2 ++ o4)) hO5
    have e15 := e13.trans (e4.trans e5)
    have hO5' : (L2.upd H4 O5 (.lst (o1 ++ o2 ++ o4))) O5 = some (.lst (o1 ++ o2 ++ o4)) := upd_same
    have d14 : DpAll K (L2.upd H4 O5 (.lst (o1 ++ o2 ++ o4))) (o1 ++ o2 ++ o4) (oddR.map rwD) := by
      show DpAll K _ _ ((odd1 ++ odd2 ++ odd3).map rwD)
      rw [List.map_append]
      exact DpAll.app (Dp.sames (e4.trans e5) _ _ d12) (Dp.sames e5 _ _ d4)
    have n5 : O5 ≠ b ∧ O5 ≠ l := ((hB.same e13).same e4).neL hO5
    have hT5 : LamX.Tabs [(tb, q)] (L2.upd H4 O5 (.lst (o1 ++ o2 ++ o4))) := LamX.Tabs.ext hT fun c o q => e15 c o q
    have hB5 := hB.same e15
    generalize L2.upd H4 O5 (.lst (o1 ++ o2 ++ o4)) = H5 at *
    refine ⟨_, rfl, b, l, 10, rfl, by omega, by omega, hB5, fun r H6 r0 r1 hB6 k6 => ?_⟩
    obtain ⟨rn, rfl⟩ := nat_of r0
    have hO6 := k6.kp.ls _ _ hO5' n5.1 n5.2
    have d6 := Dp.nls k6.nl _ _ (noLs_rw oddR) d14
    obtain ⟨x, hx⟩ : ∃ x, oddR[rn]? = some x := ⟨_, List.getElem?_eq_getElem (by show rn < 10; omega)⟩
    obtain ⟨hxb, hxs⟩ := odd_bad hok x (List.mem_of_getElem? hx)
    obtain ⟨y, hy, dy⟩ := DpAll.at2 d6 (i := rn) (d := rwD x) (by rw [List.getElem?_map, hx]; rfl)
    refine ⟨O5, _, (rn : Nat), y, rfl, rfl, SqL.of hO6, atI_nat hy, ?_⟩
    -- the log
    have hR6 := k6.kp.ls _ _ (e15 _ _ hR) nR.1 nR.2
    have dR6 := Dp.nls k6.nl _ _ (noLs_rw rs) (Dp.sames e15 _ _ dR)
    have hh6 := (hh.nl (nl_same e15)).nl k6.nl
    refine ⟨_, rfl, _, rfl, log_madeX (K := K) (C := C) (CL := CL) hh6 ⟨.inl (SqL.of hR6), dR6⟩ (by omega) (fun r hr => (hv.ok r hr).2) (fun i bd => (hv.bad bd).elim) fun _ _ a H7 e7 na la => ⟨(by show 2 ≤ sizeLine; decide), fun t ht => ?_⟩⟩
    have e8 := same_upd (o := HO.tup [y, V.ref a]) ht
    have W0 : WL K C CL [(tb, q)] b l h a R xs rs d (L2.upd H7 t (.tup [y, .ref a])) := WL.same e8 ⟨hB6.same e7, Tabs.kb (k6.trans (Kb.same e7)) hT5, la, e7 _ _ hR6, Dp.sames e7 _ _ dR6, nR⟩
    have dy8 := Dp.same (e7.trans e8) _ _ dy
    have sT := SqT.of (K := K) (upd_same (H := H7) (a := t) (o := HO.tup [y, .ref a]))
    generalize L2.upd H7 t (.tup [y, .ref a]) = H8 at *
    refine ⟨t, _, rfl, sT, rfl, _, _, rfl, _, _, rfl, rfl, ?_⟩
    -- places
    refine ⟨_, rfl, _, rfl, R, xs, rfl, .inl (SqL.of W0.r), _, _, rfl, rfl, b, l, (xs.length : Int) + 1, rfl, by omega, by omega, W0.bx, fun z H9 z0 z1 hB9 k9 => ?_⟩
    have W9 := W0.kb k9 hB9
    have dy9 := Dp.nl k9.nl _ _ (noL_rw x) dy8
    refine ⟨_, rfl, R, xs, rfl, .inl (SqL.of W9.r), (by show 3 ≤ sizeLine; decide), fun p hp => ?_⟩
    have f1 := same_upd (o := HO.lst [V.int 0, V.int z, V.int (xs.length : Nat)]) hp
    refine ⟨p, [0, z, (xs.length : Nat)], rfl, SqL.of upd_same, (by show 3 ≤ 50; decide), fun p2 n2 hp2 hn2 => ?_⟩
    have f2 := same_upd (o := SetO w p2 (fun j => decide (j ∈ [0, z, ((xs.length : Nat) : Int)])) n2) hp2
    refine ⟨p2, _, n2, rfl, upd_same, by simp at hn2; omega, fun ns p3 hns hmem hln hp3 => ?_⟩
    have f3 := same_upd (o := HO.lst (ns.map V.int)) hp3
    have f13 := f1.trans (f2.trans f3)
    have W10 := W9.same f13
    have dy10 := Dp.same f13 _ _ dy9
    have hp3' : ∀ {H'}, Kb b l (L2.upd (L2.upd (L2.upd H9 p (.lst [V.int 0, V.int z, V.int (xs.length : Nat)])) p2 (SetO w p2 (fun j => decide (j ∈ [0, z, ((xs.length : Nat) : Int)])) n2)) p3 (.lst (ns.map V.int))) H' → H' p3 = some (.lst (ns.map V.int)) := fun k' => by
      have nn := (W9.same (f1.trans f2)).bx.neL hp3
      exact k'.kp.ls _ _ upd_same nn.1 nn.2
    have hp30 := upd_same (H := L2.upd (L2.upd H9 p (.lst [V.int 0, V.int z, V.int (xs.length : Nat)])) p2 (SetO w p2 (fun j => decide (j ∈ [0, z, ((xs.length : Nat) : Int)])) n2)) (a := p3) (o := HO.lst (ns.map V.int))
    refine ⟨p3, rfl, ⟨_, SqL.of upd_same⟩, ?_⟩
    refine for_list (K := K) (a := p3) (xs := ns.map V.int) (fun i σ H' => ∃ u6 : Option V, σ = [some (.ref b), some (.ref h), some (.ref R), some (.ref O3), some y, some (.ref a), u6, none] ∧ WL K C CL [(tb, q)] b l h a R xs rs d H' ∧ Dp K H' y (rwD x) ∧ H' p3 = some (.lst (ns.map V.int)))
      ⟨none, rfl, W10, dy10, hp30⟩ (fun i σ H' _ ⟨_, _, _, _, e⟩ => SqL.of e) ?_ ?_
    · rintro i v σ HB hi ⟨u6, rfl, WB, dyB, hpB⟩
      rw [List.getElem?_map] at hi
      cases hz : ns[i]? with
      | none => rw [hz] at hi; cases hi
      | some m =>
        rw [hz] at hi
        cases hi
        have hm := (hmem m).mp (List.mem_of_getElem? hz)
        have hm2 : m = 0 ∨ m = z ∨ m = ((xs.length : Nat) : Int) := by simpa using hm
        have m0 : 0 ≤ m := by omega
        have m1 : m ≤ xs.length := by omega
        obtain ⟨kn, rfl⟩ := nat_of m0
        have hkn : kn ≤ rs.length := by omega
        have bdP := bad_put hv hkn (by omega) hxb (rs.drop kn)
        refine ifs_by (fun b' H' => b' = false ∧ WL K C CL [(tb, q)] b l h a R xs rs d H' ∧ Dp K H' y (rwD x) ∧ H' p3 = some (.lst (ns.map V.int))) (fun Q' kq => ?_) (fun H' p => by cases p.1) (fun H' ⟨_, p1, p2, p3'⟩ => ⟨_, rfl, p1, p2, p3'⟩)
        refine by_cont (T := LamX.tLam _ _ _ _ _) (fun v H' => Dp K H' v (nmD kn) ∧ WL K C CL [(tb, q)] b l h a R xs rs d H' ∧ Dp K H' y (rwD x) ∧ H' p3 = some (.lst (ns.map V.int))) (fun Q' kq => ?_) ?_
        · refine ⟨WB.tb, fun HC xC tC => ?_⟩
          have WC := WB.ext xC tC
          have dyC := Dp.nl (ext_nl xC) _ _ (noL_rw x) dyB
          have hpC := ext_lst xC hpB
          refine ⟨_, rfl, _, rfl, _, rfl, _, rfl, R, xs, rfl, SqL.of WC.r, fun s1 hs1 => ?_⟩
          have g1 := same_upd (o := HO.lst (cutV xs none (some (kn : Int)))) hs1
          refine ⟨_, rfl, (by show 1 ≤ sizeLine; decide), fun s2 hs2 => ?_⟩
          have g2 := same_upd (o := HO.lst [y]) hs2
          have ec : cutV xs none (some (kn : Int)) = xs.take kn := cut_take xs kn (by omega)
          have ed : cutV xs (some (kn : Int)) none = xs.drop kn := cut_drop xs kn (by omega)
          refine ⟨s1, s2, _, [y], rfl, rfl, g2 _ _ upd_same, upd_same, by rw [ec, List.length_take]; simp; omega, fun s3 hs3 => ?_⟩
          have g3 := same_upd (o := HO.lst (cutV xs none (some (kn : Int)) ++ [y])) hs3
          have g13 := g1.trans (g2.trans g3)
          refine ⟨_, rfl, _, rfl, _, rfl, R, xs, rfl, SqL.of (g13 _ _ WC.r), fun s4 hs4 => ?_⟩
          have g4 := same_upd (o := HO.lst (cutV xs (some (kn : Int)) none)) hs4
          refine ⟨s3, s4, _, _, rfl, rfl, g4 _ _ upd_same, upd_same, by rw [ec, ed, List.length_append, List.length_take, List.length_drop]; simp; omega, fun s5 hs5 => ?_⟩
          have g5 := same_upd (o := HO.lst (cutV xs none (some (kn : Int)) ++ [y] ++ cutV xs (some (kn : Int)) none)) hs5
          have g15 := g13.trans (g4.trans g5)
          have WD := WC.same g15
          have drr : ∀ H', Same HC H' → DpAll K H' (cutV xs none (some (kn : Int)) ++ [y] ++ cutV xs (some (kn : Int)) none) ((rs.take kn ++ [x] ++ rs.drop kn).map rwD) := fun H' e' => by
            rw [show cutV xs none (some (kn : Int)) = xs.take kn from ec, show cutV xs (some (kn : Int)) none = xs.drop kn from ed, List.map_append, List.map_append, List.map_take, List.map_drop]
            exact DpAll.app (DpAll.app (DpAll.take kn (WC.same e').dr) (.cons (Dp.same e' _ _ dyC) .nil)) (dp_drop kn (WC.same e').dr)
          refine log_madeX (K := K) (C := C) (CL := CL) WD.la.hh ⟨.inl (SqL.of upd_same), drr _ g15⟩ (by rw [ec, ed, List.length_append, List.length_append, List.length_take, List.length_drop]; simp; omega) (fun r hr => ?_) (fun i bd dd H' e' hdd => ?_) (fun l30 ok => ?_)
          · rcases List.mem_append.mp hr with hr | hr
            · rcases List.mem_append.mp hr with hr | hr
              · exact (hv.ok r (List.mem_of_mem_take hr)).2
              · rw [List.mem_singleton.mp hr]; exact hxs
            · exact (hv.ok r (List.mem_of_mem_drop hr)).2
          · have ei := bad_one bd bdP
            subst ei
            exact ⟨"InvalidLog", i, dd, rfl, knL, rfl, hdd, fun v H2 e2 dv => kq _ _ ⟨dv, WD.same (e'.trans e2), Dp.same (g15.trans (e'.trans e2)) _ _ dyC, (g15.trans (e'.trans e2)) _ _ hpC⟩⟩
          · exact absurd (ok x (List.mem_append.mpr (.inl (List.mem_append.mpr (.inr (List.mem_singleton.mpr rfl)))))) hxb
        rintro v HC ⟨dv, WC, dyC, hpC⟩
        refine ⟨_, rfl, (by show 2 ≤ sizeLine; decide), fun t ht => ?_⟩
        have g := same_upd (o := HO.tup [.str ("InvalidLog" : Str), .int (kn : Int)]) ht
        refine ⟨nmD kn, nmD kn, Dp.same g _ _ dv, .tup (SqT.of upd_same) (.cons (.str _) (.cons (.int _) .nil)), shaped_nm kn, shaped_nm kn, _, rfl, ?_⟩
        rw [eqv_nm]
        exact kq _ _ ⟨rfl, WC.same g, Dp.same g _ _ dyC, g _ _ hpC⟩
    rintro σ HB ⟨u6, rfl, WB, dyB, hpB⟩
    -- rows that are put behind
    have bok := bare_ok hok
    have bdA : BadAt d (rs ++ [bareR, x]) (rs.length + 1) := by
      refine ⟨by simp, fun j hj => ⟨by omega, fun r hr => ?_⟩, .inr ⟨x, ?_, hxb⟩⟩
      · by_cases c : j < rs.length
        · rw [List.getElem?_append_left c] at hr
          exact (hv.ok r (List.mem_of_getElem? hr)).1
        · have ej : j = rs.length := by omega
          subst ej
          rw [List.getElem?_append_right (Nat.le_refl _), Nat.sub_self] at hr
          cases hr
          exact bok.1
      · rw [List.getElem?_append_right (by omega), show rs.length + 1 - rs.length = 1 by omega]
        rfl
    dsimp only
    refine seq_by ?_
    refine ifs_by (fun b' H' => b' = false ∧ WL K C CL [(tb, q)] b l h a R xs rs d H') (fun Q' kq => ?_) (fun H' p => by cases p.1) (fun HC ⟨_, WC⟩ => ?_)
    · refine by_cont (T := LamX.tLam _ _ _ _ _) (fun v H' => Dp K H' v (nmD (rs.length + 1)) ∧ WL K C CL [(tb, q)] b l h a R xs rs d H') (fun Q' kq => ?_) ?_
      · refine ⟨WB.tb, fun HC xC tC => ?_⟩
        have WC := WB.ext xC tC
        have dyC := Dp.nl (ext_nl xC) _ _ (noL_rw x) dyB
        refine ⟨_, rfl, (by show 2 ≤ sizeLine; decide), fun t ht => ?_⟩
        have g1 := same_upd (o := HO.tup [.str ("bare" : Str), .int 0]) ht
        refine ⟨_, rfl, (by show 2 ≤ sizeLine; decide), fun s1 hs1 => ?_⟩
        have g2 := same_upd (o := HO.lst [.ref t, y]) hs1
        have g12 := g1.trans g2
        have WD := WC.same g12
        have dys : DpAll K (L2.upd (L2.upd HC t (.tup [.str ("bare" : Str), .int 0])) s1 (.lst [.ref t, y])) [.ref t, y] ([bareR, x].map rwD) := .cons (.tup (SqT.same g2 (SqT.of upd_same)) (.cons (.str _) (.cons (.int _) .nil))) (.cons (Dp.same g12 _ _ dyC) .nil)
        obtain ⟨dl, fl, tl, xl, la0, _⟩ := WD.la.ex
        refine ⟨a, s1, dl, fl, [.ref t, y], rfl, rfl, la0, SqL.of upd_same, a, s1, h, d, rs, [bareR, x], [.ref t, y], rfl, WD.la, SqL.of upd_same, dys, by omega, by simp, fun r hr => ?_, fun i bd dd H' e' hdd => ?_, fun l30 ok => ?_⟩
        · rcases List.mem_append.mp hr with hr | hr
          · exact (hv.ok r hr).2
          · rcases List.mem_cons.mp hr with rfl | hr
            · exact bok.2
            · rw [List.mem_singleton.mp hr]; exact hxs
        · have ei := bad_one bd bdA
          subst ei
          exact ⟨"InvalidLog", _, dd, rfl, knL, rfl, hdd, fun v H2 e2 dv => kq _ _ ⟨dv, WD.same (e'.trans e2)⟩⟩
        · exact absurd (ok x (List.mem_append.mpr (.inr (List.mem_cons_of_mem _ (List.mem_singleton.mpr rfl))))) hxb
      rintro v HC ⟨dv, WC⟩
      refine ⟨_, rfl, R, xs, rfl, .inl (SqL.of WC.r), _, _, rfl, rfl, (by show 2 ≤ sizeLine; decide), fun t ht => ?_⟩
      have g := same_upd (o := HO.tup [.str ("InvalidLog" : Str), .int ((xs.length : Int) + 1)]) ht
      have ei : V.int ((xs.length : Int) + 1) = V.int (((rs.length + 1 : Nat)) : Int) := by rw [lx]; rfl
      refine ⟨nmD (rs.length + 1), nmD (rs.length + 1), Dp.same g _ _ dv, .tup (SqT.of upd_same) (.cons (.str _) (.cons (by show Dp K _ (V.int ((xs.length : Int) + 1)) _; rw [ei]; exact .int _) .nil)), shaped_nm _, shaped_nm _, _, rfl, ?_⟩
      rw [eqv_nm]
      exact kq _ _ ⟨rfl, WC.same g⟩
    -- more than thirty rows
    dsimp only
    refine ⟨_, rfl, b, l, 4, rfl, by omega, by omega, WC.bx, fun r HD r0 r1 hBD kD => ⟨_, _, rfl, rfl, ?_⟩⟩
    have WD := WC.kb kD hBD
    obtain ⟨mn, emn⟩ := nat_of (show 0 ≤ 29 + r by omega)
    dsimp only
    rw [emn]
    have m33 : mn ≤ 32 := by omega
    refine by_cont (T := LamX.tLam _ _ _ _ _) (fun v H' => Dp K H' v (dueM mn)) (fun Q' kq => ?_) ?_
    · refine ⟨WD.tb, fun HE xE tE => ?_⟩
      have WE := WD.ext xE tE
      refine ⟨_, rfl, (by show 2 ≤ sizeLine; decide), fun t ht => ?_⟩
      have g1 := same_upd (o := HO.tup [.str ("bare" : Str), .int 0]) ht
      refine ⟨(by show 1 ≤ sizeLine; decide), fun s1 hs1 => ?_⟩
      have g2 := same_upd (o := HO.lst [.ref t]) hs1
      refine ⟨_, rfl, s1, (mn : Nat), [.ref t], rfl, rfl, upd_same, by omega, by omega, by show 1 * (mn : Int).toNat ≤ sizeLine; omega, fun p hp => ?_⟩
      have g3 := same_upd (o := HO.lst (List.replicate (mn : Int).toNat [V.ref t]).flatten) hp
      have en : (mn : Int).toNat = mn := by omega
      have WF := WE.same (g1.trans (g2.trans g3))
      have drr : DpAll K (L2.upd (L2.upd (L2.upd HE t (.tup [.str ("bare" : Str), .int 0])) s1 (.lst [.ref t])) p (.lst (List.replicate (mn : Int).toNat [V.ref t]).flatten)) (List.replicate (mn : Int).toNat [V.ref t]).flatten ((List.replicate mn bareR).map rwD) := by
        rw [en]
        exact dp_rep (r := bareR) (.tup (SqT.same (g2.trans (by rw [en] at g3; exact g3)) (SqT.of upd_same)) (.cons (.str _) (.cons (.int _) .nil))) mn
      refine log_madeX (K := K) (C := C) (CL := CL) WF.la.hh ⟨.inl (SqL.of upd_same), drr⟩ (by rw [rep_len]; omega) (fun r hr => by rw [(List.mem_replicate.mp hr).2]; exact bok.2) (fun i bd dd H' e' hdd => ?_) (fun l30 ok a' H' e' na' la' => ?_)
      · have hi := bd.1
        rw [List.length_replicate] at hi
        have i30 : i = 30 := by
          rcases bd.2.2 with e | ⟨r, hr, hn⟩
          · exact e
          · rw [(List.mem_replicate.mp (List.mem_of_getElem? hr)).2] at hn
            exact absurd bok.1 hn
        subst i30
        refine ⟨"InvalidLog", 30, dd, rfl, knL, rfl, hdd, fun v H2 e2 dv => kq _ _ ?_⟩
        unfold dueM
        rw [if_pos hi]
        exact dv
      · rw [List.length_replicate] at l30
        refine kq _ _ ?_
        unfold dueM
        rw [if_neg (by omega)]
        exact .str _
    rintro v HE dv
    refine ⟨_, rfl, _, _, rfl, rfl, _, rfl, ?_⟩
    have e0 : PyData.strOk ("" : Str) = true := by decide +kernel
    by_cases c : (30 : Int) < (mn : Nat)
    · refine iteTe (decide_eq_true c) ⟨(by show 2 ≤ sizeLine; decide), fun t ht => ?_⟩
      have g := same_upd (o := HO.tup [.str ("InvalidLog" : Str), .int 30]) ht
      have eD : dueM mn = nmD 30 := if_pos (by omega)
      rw [eD] at dv
      refine ⟨nmD 30, nmD 30, Dp.same g _ _ dv, .tup (SqT.of upd_same) (.cons (.str _) (.cons (.int _) .nil)), shaped_nm 30, shaped_nm 30, ?_⟩
      rw [eqv_nm]
      exact k _
    · refine iteFe (decide_eq_false c) ?_
      have eD : dueM mn = .str "" := if_neg (by omega)
      rw [eD] at dv
      have sh : SeqAt.shaped (.str ("" : Str)) = true := by simp [SeqAt.shaped, PyData.canLay0, PyData.depth, e0]
      refine ⟨.str "", .str "", dv, .str _, sh, sh, ?_⟩
      exact k _
end
end Kw

set_option Elab.async false
set_option linter.all false
set_option maxRecDepth 100000
set_option maxHeartbeats 4000000
namespace Kw
open PySem PySem.Spec PyProof.Rows L2
/-! ### what the law's comparisons come to -/
theorem okA_it (p : It) : okA (itP p) = true := by simp [itP, okA, okAs]
theorem okA_pl (p : Pl) : okA (plD p) = true := by simp [plD, okA, okAs]
theorem okA_its : ∀ l : List It, okAs (l.map itP) = true
  | [] => rfl
  | p :: l => by
    show (okA (itP p) && okAs (l.map itP)) = true
    rw [okA_its l, okA_it]
    rfl
theorem okA_sg : ∀ g : Sg, SmS g → okA (sgD g) = true
  | .loc p q, _ => by simp [sgD, sgW, sgT, okA, okAs, okA_it, okA_pl]
  | .bare b, _ => by simp [sgD, sgW, sgT, okA, okAs]
  | .inn b l, h => by
    have hl : l.length ≤ 1000 := h.2.1
    simp [sgD, sgW, sgT, itsD, okA, okAs, okA_its, hl]
  | .gone s, _ => by simp [sgD, sgW, sgT, okA, okAs]
  | .nt g, h => by
    have h2 := okA_sg g h
    show (okAs [.str "not", sgD g] && decide (2 ≤ 1000)) = true
    simp [okAs, h2, okA]
theorem okA_ints : ∀ zs : List Int, okAs (zs.map PyData.int) = true
  | [] => rfl
  | z :: zs => by
    show (okA (.int z) && okAs (zs.map PyData.int)) = true
    rw [okA_ints zs]
    rfl
theorem okA_rw : ∀ r : Rw, SmR r → okA (rwD r) = true
  | .gap zs, h => by
    have hl : zs.length ≤ 100 := h
    have hl2 : zs.length ≤ 1000 := by omega
    simp [rwD, intsD, okA, okAs, okA_ints, hl2]
  | .deed e, _ => by cases e <;> simp [rwD, ddD, Dd.word, Dd.hand, Dd.tail, okA, okAs, okA_it]
  | .sight g, h => okA_sg g h.1
theorem okA_rows : ∀ rs : List Rw, (∀ r ∈ rs, SmR r) → okAs (rs.map rwD) = true
  | [], _ => rfl
  | r :: rs, h => by
    show (okA (rwD r) && okAs (rs.map rwD)) = true
    rw [okA_rw r (h r (List.mem_cons_self ..)), okA_rows rs fun x hx => h x (List.mem_cons_of_mem _ hx)]
    rfl
theorem depth_rw5 : ∀ r : Rw, SmR r → PyData.depth (rwD r) ≤ 4
  | .gap zs, _ => by
    show max 0 (max (PyData.depthAll (zs.map .int) + 1) 0) + 1 ≤ 4
    rw [ints_depth]
    decide
  | .deed e, _ => by
    cases e with
    | give h p o => show max 0 (max 0 (max (PyData.depth (itP p)) (max 0 0))) + 1 ≤ 4; rw [depth_it]; decide
    | put h p b => show max 0 (max 0 (max (PyData.depth (itP p)) (max 0 0))) + 1 ≤ 4; rw [depth_it]; decide
    | take h p b => show max 0 (max 0 (max (PyData.depth (itP p)) (max 0 0))) + 1 ≤ 4; rw [depth_it]; decide
    | lock h b s => show max 0 (max 0 (max 0 (max 0 0))) + 1 ≤ 4; decide
    | brk h b => show max 0 (max 0 (max 0 0)) + 1 ≤ 4; decide
  | .sight g, h => by
    have h1 := depth_sg g
    have h2 := h.2
    show PyData.depth (sgD g) ≤ 4
    omega
theorem depth_rows5 : ∀ l : List Rw, (∀ r ∈ l, SmR r) → PyData.depthAll (l.map rwD) ≤ 4
  | [], _ => Nat.zero_le _
  | a :: r, h => by
    have h1 := depth_rw5 a (h a (List.mem_cons_self ..))
    have h2 := depth_rows5 r fun x hx => h x (List.mem_cons_of_mem _ hx)
    show max (PyData.depth (rwD a)) (PyData.depthAll (r.map rwD)) ≤ 4
    omega
theorem shaped_rowsL (rs : List Rw) (h : ∀ r ∈ rs, SmR r) : SeqAt.shaped (.list (rs.map rwD)) = true := by
  have h1 := shaped_rows rs h
  have h2 := depth_rows5 rs h
  unfold SeqAt.shaped at h1 ⊢
  rw [Bool.and_eq_true] at h1 ⊢
  refine ⟨h1.1, decide_eq_true ?_⟩
  show PyData.depthAll (rs.map rwD) + 1 ≤ 64
  omega
theorem eqv_rows_refl (rs : List Rw) (h : ∀ r ∈ rs, SmR r) : PyData.eqv (rowsD rs) (rowsD rs) = true := SeqAt.eqv_refl _ (SeqAt.canLay_of_shaped (shaped_rows rs h))
theorem eqv_rowsL_refl (rs : List Rw) (h : ∀ r ∈ rs, SmR r) : PyData.eqv (.list (rs.map rwD)) (.list (rs.map rwD)) = true := SeqAt.eqv_refl _ (SeqAt.canLay_of_shaped (shaped_rowsL rs h))
theorem eqHs_refl (d : Hs) : eqHs d d = true := by
  unfold eqHs
  rw [decide_eq_true rfl, SeqAt.eqv_refl _ (lay_st d)]
  rfl
/-- a gap in which some hand is -/
def isFull : Rw → Bool
  | .gap [] => false
  | .gap _ => true
  | _ => false
def fullR (rs : List Rw) : List Rw := rs.filter isFull
theorem keep_nil {r : Rw} (h : isFull r = false) : keepR [] r = r := by
  cases r with
  | gap ys =>
    cases ys with
    | nil => rfl
    | cons y ys => cases h
  | deed e => rfl
  | sight g => rfl
theorem eqv_keep {r : Rw} (h : isFull r = true) : PyData.eqv (rwD (keepR [] r)) (rwD r) = false := by
  cases r with
  | gap ys =>
    cases ys with
    | nil => cases h
    | cons y ys =>
      have e : (y :: ys).filter (fun y => decide (y ∈ ([] : List Int))) = [] := List.filter_eq_nil_iff.mpr fun a _ => by simp
      show PyData.eqv (.tuple [.str "gap", intsD ((y :: ys).filter fun y => decide (y ∈ ([] : List Int)))]) _ = false
      rw [e]
      simp [rwD, intsD, PyData.eqv, PyData.eqvAll]
  | deed e => cases h
  | sight g => cases h
theorem eqv_watch : ∀ rs : List Rw, (∀ r ∈ rs, SmR r) → PyData.eqvAll ((rs.map (keepR [])).map rwD) (rs.map rwD) = (fullR rs).isEmpty
  | [], _ => by simp [fullR, PyData.eqvAll]
  | r :: rs, h => by
    have ih := eqv_watch rs fun x hx => h x (List.mem_cons_of_mem _ hx)
    show PyData.eqvAll (rwD (keepR [] r) :: (rs.map (keepR [])).map rwD) (rwD r :: rs.map rwD) = _
    cases c : isFull r with
    | true =>
      have : fullR (r :: rs) = r :: fullR rs := by simp [fullR, c]
      rw [this]
      simp [PyData.eqvAll, eqv_keep c]
    | false =>
      have : fullR (r :: rs) = fullR rs := by simp [fullR, c]
      rw [this, keep_nil c]
      have e1 : PyData.eqv (rwD r) (rwD r) = true := SeqAt.eqv_refl _ (lay_rw r)
      rw [PyData.eqvAll, e1, ih]
      rfl
theorem eqv_watchD (rs : List Rw) (h : ∀ r ∈ rs, SmR r) : PyData.eqv (rowsD (rs.map (keepR []))) (rowsD rs) = (fullR rs).isEmpty := by
  rw [← eqv_watch rs h]
  simp [rowsD, PyData.eqv]
theorem eqv_empty (rs : List Rw) : PyData.eqv (.list (rs.map rwD)) (.list []) = rs.isEmpty := by
  cases rs with
  | nil => simp [PyData.eqv, PyData.eqvAll]
  | cons r rs => simp [PyData.eqv, PyData.eqvAll]
theorem full_take {rs : List Rw} {i : Nat} {r : Rw} (h : rs[i]? = some r) : fullR (rs.take (i + 1)) = fullR (rs.take i) ++ (if isFull r = true then [r] else []) := by
  unfold fullR
  rw [List.take_add_one, h, List.filter_append]
  congr 1
  simp only [Option.toList_some, List.filter_cons, List.filter_nil]
theorem full_gap (gs : List Int) : (!PyData.eqv (intsD gs) (.tuple [])) = isFull (.gap gs) := by
  cases gs with
  | nil => simp [intsD, PyData.eqv, PyData.eqvAll, isFull]
  | cons z zs => simp [intsD, PyData.eqv, PyData.eqvAll, isFull]
theorem full_not {r : Rw} (h : isGap r = false) : isFull r = false := by
  cases r with
  | gap ys => cases h
  | deed e => rfl
  | sight g => rfl
theorem shaped_ints (gs : List Int) : SeqAt.shaped (intsD gs) = true := by
  simp [SeqAt.shaped, intsD, PyData.canLay0, PyData.depth, ints_lay, ints_depth]
def nhD (i : Nat) : PyData := .tuple [.str ("InvalidHands" : Str), .int (i : Nat)]
theorem shaped_nh (i : Nat) : SeqAt.shaped (nhD i) = true := by
  have h1 : PyData.strOk ("InvalidHands" : Str) = true := by decide +kernel
  simp [SeqAt.shaped, nhD, PyData.canLay0, PyData.canLayAll0, PyData.depth, PyData.depthAll, h1]
theorem eqv_nh (i : Nat) : PyData.eqv (nhD i) (nhD i) = true := by
  simp [nhD, PyData.eqv, PyData.eqvAll]
theorem bad_two {d : Hs} (h : 1 ≤ d.hands) : ∀ i, (∀ j, j < i → okH d.hands [0, 0] j) → ¬ okH d.hands [0, 0] i → i = 1 := by
  intro i h1 h2
  have h0 : okH d.hands [0, 0] 0 := fun z hz => by
    cases hz
    exact ⟨numOk_of (by omega) (by omega), fun z' q => absurd q (by omega)⟩
  have n1 : ¬ okH d.hands [0, 0] 1 := fun q => by
    have := (q 0 rfl).2 0 (by decide) rfl
    omega
  match i with
  | 0 => exact absurd h0 h2
  | 1 => rfl
  | i + 2 => exact absurd (h1 1 (by omega)) n1
theorem bad_four {d : Hs} (h : d.hands ≤ 4) : ∀ i, (∀ j, j < i → okH d.hands [4] j) → ¬ okH d.hands [4] i → i = 0 := by
  intro i h1 h2
  have n0 : ¬ okH d.hands [4] 0 := fun q => by
    have := numOk_is (q 4 rfl).1
    omega
  match i with
  | 0 => rfl
  | i + 1 => exact absurd (h1 0 (by omega)) n0
section
variable {K : PySem.W.Frag}
theorem eq_logs {C CL a b h g : Addr} {d : Hs} {rs qs : List Rw} {H : Hp} {Q : VK} {E : XK} (la : LogAt K C CL H a h d rs) (lb : LogAt K C CL H b g d qs) (sa : ∀ r ∈ rs, SmR r) (sb : ∀ r ∈ qs, SmR r) (k : Q (.bl (PyData.eqv (rowsD rs) (rowsD qs))) H) : rEqOwn CL (spLEq K C CL) E (.ref a) (.ref b) H Q := by
  obtain ⟨dx, fs, t, xs, h0, _⟩ := id la.ex
  obtain ⟨dy, gs, u, ys, g0, _⟩ := id lb.ex
  refine ⟨a, b, dx, fs, dy, gs, rfl, rfl, h0, g0, a, b, h, g, d, d, rs, qs, rfl, la, lb, sa, sb, _, rfl, ?_⟩
  rw [eqHs_refl, Bool.true_and]
  exact k
theorem lc_inJ (j k : Nat) {σ : L2.St} {H1 : Hp} {D t : Addr} {Qd : Hp → Prop} (ys : List Int) (a : Addr) (zs : List Int) (hn : ys.length ≤ 1000) (hD : H1 D = none) (st : SqT K H1 t (ys.map V.int)) (sa : SqT K H1 a (zs.map V.int)) (hj : j < σ.length)
    (h1 : ∀ y, ((wipe σ [j]).set j y)[k]? = some (some (.ref a)))
    (hd : ∀ H, Same H1 H → H D = some (.lst ((ys.filter fun y => decide (y ∈ zs)).map V.int)) → Qd H) :
    ∃ W : Nat → Nat → Hp → Prop, (∃ m, W 0 m (upd H1 D (.lst []))) ∧ ∀ i m H, W i m H →
      ((Itt K t).stop i H ∧ Qd H) ∨ ((Itt K t).go i H ∧ ∃ Nx : Hp → Prop, (∀ H', Nx H' → ∃ m', m' < m ∧ W (i + 1) m' H') ∧ ∀ x H', (Itt K t).yld i H x H' → gName j x (wipe σ [j]) H' fun σ2 H2 => wipe σ2 [j] = wipe σ [j] ∧ (tTest (tOp (rIn K false) (tVar j) (tVar k))) σ2 H2 fun b H3 =>
        if b = true then (tVar j) σ2 H3 fun y H4 => ∃ acc, H4 D = some (.lst acc) ∧ acc.length < sizeLine ∧ Nx (upd H4 D (.lst (acc ++ [y]))) else Nx H3) := by
  have e0 : ∀ (H' : Hp) (o : HO), Same H1 H' → Same H1 (L2.upd H' D o) := fun H' o e c u h => by rw [upd_ne (ne_of_none h hD)]; exact e c u h
  refine lc_tup (K := K) (a := t) (xs := ys.map V.int) (fun i H => Same H1 H ∧ H D = some (.lst (((ys.take i).filter fun y => decide (y ∈ zs)).map V.int))) ⟨same_upd hD, upd_same⟩ (fun i H _ p => SqT.same p.1 st) ?_ ?_
  · rintro i x H hi ⟨e, hz⟩
    rw [List.getElem?_map] at hi
    cases hy : ys[i]? with
    | none => rw [hy] at hi; cases hi
    | some y =>
      rw [hy] at hi
      cases hi
      have hv4 : ((wipe σ [j]).set j (some (V.int y)))[j]? = some (some (V.int y)) := List.getElem?_set_self (by rw [wipe_length]; exact hj)
      have et : ys.take (i + 1) = ys.take i ++ [y] := by rw [List.take_add_one, hy]; rfl
      refine ⟨wipe_one _ j _, _, hv4, _, h1 _, a, _, rfl, .inr (SqT.same e sa), rfl, flat_ints zs, _, rfl, ?_⟩
      rw [inV_ints]
      have ll : (((ys.take i).filter fun y => decide (y ∈ zs)).map V.int).length ≤ 1000 := by
        rw [List.length_map]
        have a1 := List.length_filter_le (fun y => decide (y ∈ zs)) (ys.take i)
        have a2 := List.length_take_le i ys
        have a3 := List.length_take (i := i) (l := ys)
        omega
      refine ite_b _ (fun c => ?_) (fun c => ?_)
      · refine ⟨_, hv4, _, hz, by rw [sizeLine_eq]; omega, e0 _ _ e, ?_⟩
        have c' : decide (y ∈ zs) = true := c
        rw [et, List.filter_append, List.map_append, List.filter_cons, c', if_pos rfl]
        exact upd_same
      · refine ⟨e, ?_⟩
        have c' : decide (y ∈ zs) = false := c
        rw [et, List.filter_append, List.map_append, List.filter_cons, c', if_neg (by decide)]
        show _ = some (HO.lst (_ ++ []))
        rw [List.append_nil]
        exact hz
  · rintro H ⟨e, hz⟩
    refine hd H e ?_
    rw [List.length_map, List.take_of_length_le (Nat.le_refl _)] at hz
    exact hz
end
end Kw

set_option Elab.async false
set_option linter.all false
set_option maxRecDepth 100000
set_option maxHeartbeats 4000000
namespace Kw
open PySem PySem.Spec PyProof.Rows L2
def dueScope : Scope := { kind := ScopeKind.function, names := [((".0" : Str), NameKind.local), (("_law_row" : Str), NameKind.local), (("tuple" : Str), NameKind.globalImplicit), (("_law_hands_here" : Str), NameKind.cell)], isGenerator := false, isCoroutine := false }
def rTupOf (K : PySem.W.Frag) : List V → Hp → VK → Prop := fun xs H Q => ∃ p ys, xs = [V.ref p] ∧ ((SqL K H p ys ∧ ∀ l, H l = none → Q (.ref l) (L2.upd H l (.tup ys))) ∨ (SqT K H p ys ∧ Q (.ref p) H))
theorem call_tupOf {X : Cx} : CallR X (.type "tuple") (rTupOf X.K) := call_tuple_of
structure LGapF (P : Program) (w : World) (K : PySem.W.Frag) (mg : Str → Option Value) (base : Heap) (C CL p g : Addr) (fd : FuncData) : Prop where
  Pr : PropOf K CL "gaps" p g
  G : FnOk P w K mg base CX0 1 g fd ["self"] (spLGaps K C CL)
  b : Binds K fd ["self"] []
structure OwnF (P : Program) (w : World) (K : PySem.W.Frag) (mg : Str → Option Value) (base : Heap) (CL : Addr) (nm : Str) (n : Nat) (ps : List Str) (sp : Sp) (g : Addr) (fd : FuncData) : Prop where
  G : FnOk P w K mg base CX0 n g fd ps sp
  s : PySem.W.findIn K (.ref CL) nm = some (some (.ref g))
  i : PySem.W.isFn K (.ref g) = true
  f : PySem.W.fnIn K g = true
  b : Binds K fd ps []
structure MethF (P : Program) (w : World) (K : PySem.W.Frag) (mg : Str → Option Value) (base : Heap) (CX : CXT) (CW : Addr) (m : Str) (n : Nat) (ps : List Str) (sp : Sp) (g : Addr) (fd : FuncData) : Prop where
  G : FnOk P w K mg base CX n g fd ps sp
  m : Meth K CW m g
  b : Binds K fd ps []
structure LawF (P : Program) (w : World) (K : PySem.W.Frag) (mg : Str → Option Value) (base : Heap) (C CL CE tR : Addr) (ce : Str → Addr) : Prop where
  Bg : ∃ g fd, OnceF P w K mg base "_law_begun" 1 ["_law_script"] (spBegun K) g fd
  T : ∃ g fd, OnceF P w K mg base "_law_take" 1 ["_law_box", "_law_many"] spTake g fd
  A : ∃ g fd, OnceF P w K mg base "_law_alike" 8 ["_law_found", "_law_due"] (spAlike K 8) g fd
  L : ∃ g fd, OnceF P w K mg base "_law_log" 8 ["_law_box", "_law_sizes", "_law_many", "_law_secret"] (spLLog K C) g fd
  H : ∃ g fd, OnceF P w K mg base "_law_hands" 2 ["_law_box", "_law_house_here"] (spHands K C) g fd
  R : ∃ g fd, OnceF P w K mg base "_law_refused" 15 ["_law_box", "_law_house_here", "_law_rows"] (spRef K C tR) g fd
  E : ∃ g fd, Fun K "_law_error" "_law_error" sErr g fd ∧ mg "_law_error" = some (.ref g) ∧ Binds K fd ["_law_work"] []
  wat : mg "WatchError" = some (.ref CE)
  knL : KnownX K mg ce CE "InvalidLog"
  knH : KnownX K mg ce CE "InvalidHands"
  mX : mg "max" = none
  hc : HouseC K C
  LC : LogC K CL
  M : ∃ g fd, LMk P w K mg base C CL (ce "InvalidLog") g fd
  LA : ∃ g fd, LAddF P w K mg base C CL (ce "InvalidLog") g fd
  LG : ∃ p g fd, LGapF P w K mg base C CL p g fd
  LL : ∃ g fd, OwnF P w K mg base CL "__len__" 1 ["self"] (spLLen K C CL) g fd
  LI : ∃ g fd, OwnF P w K mg base CL "__getitem__" 1 ["self", "index"] (spLItem K C CL) g fd
  EL : ∃ g fd, OwnF P w K mg base CL "__eq__" 2 ["self", "other"] (spLEq K C CL) g fd
  EH : ∃ g fd, EqF P w K mg base C g fd
  LU : ∃ g fd, MethF P w K mg base CX0 CL "until" 11 ["self", "number"] (spLUntil K C CL) g fd
  LW : ∃ g fd, MethF P w K mg base (L2.CX P w) CL "watched" 11 ["self", "hands"] (spLWatch K C CL (ce "InvalidHands")) g fd
section
variable {P : Program} {w : World} {K : PySem.W.Frag} {mg : Str → Option Value} {base : Heap}
theorem scLaw : FnScope ["_law_script", "_law_box", "_law_house_here", "_law_rows", "_law_log_here", "_law_gaps", "_law_cut", "_law_hands_here", "_law_due", "_law_empty", "_law_index", "_law_row", "_law_hand"] ["_law_script"] (defScope sLaw) := ⟨rfl, rfl, rfl, by decide +kernel, rfl, by decide +kernel, by decide +kernel⟩
def spLaw (K : PySem.W.Frag) (tb tR : Addr) : Sp := fun vs H Q _ => ∃ (a : Addr) (ns : List Int), vs = [.ref a] ∧ H tb = some (.tbl #[]) ∧ H tR = some (.tbl #[]) ∧ SqL K H a (ns.map V.int) ∧ ns.length ≤ 63 ∧ ∀ H', Q (.bl true) H'
theorem ok_law {C CL CE f cd tb tR : Addr} {ce : Str → Addr} {oc kV doc pm ct : Value} {od an : Option Addr} {osl : Array (Option Value)}
    (L : LawF P w K mg base C CL CE tR ce) (B : Bt mg) (TB : LamX.TabB base mg cd tb) (ntb : tR ≠ tb)
    (lk : K.lookup f = some ⟨oc, od, .func (PySem.W.fnOf "law" "law" (defArgs sLaw) (defBody sLaw) (defScope sLaw) .none kV doc pm an (.ref cd) ct), osl⟩) (hcd : PySem.W.codeIn K (.ref cd) "law" = true) :
    FnOk P w K mg base CX0 17 f (PySem.W.fnOf "law" "law" (defArgs sLaw) (defBody sLaw) (defScope sLaw) .none kV doc pm an (.ref cd) ct) ["_law_script"] (spLaw K tb tR) := by
  refine fn_of lk hcd scLaw (fun vs H Q E h => ?_) (fun A outer s H vs Q E hr h => ?_)
  · obtain ⟨a, ns, rfl, _⟩ := h
    rfl
  · obtain ⟨sc, ns, rfl, hTb, hTR, hS, hl, k⟩ := h
    have hr1 : Room 1 _ := hr.mono (by decide)
    have hr2 : Room 2 _ := hr.mono (by decide)
    have hr8 : Room 8 _ := hr.mono (by decide)
    have hr10 : Room 10 _ := hr.mono (by decide)
    have hr11 : Room 11 _ := hr.mono (by decide)
    have hr14 : Room 14 _ := hr.mono (by decide)
    have hr15 : Room 15 _ := hr.mono (by decide)
    obtain ⟨gBg, fdBg, Bg⟩ := L.Bg
    obtain ⟨gT, fdT, GT⟩ := L.T
    obtain ⟨gA, fdA, GA⟩ := L.A
    obtain ⟨gL, fdL, GL⟩ := L.L
    obtain ⟨gH, fdH, GH⟩ := L.H
    obtain ⟨gR, fdR, RF⟩ := L.R
    obtain ⟨gE, fdE, LE, mE, bE⟩ := L.E
    obtain ⟨gM, fdM, M⟩ := L.M
    obtain ⟨gLA, fdLA, LA⟩ := L.LA
    obtain ⟨pG, gG, fdG, LG⟩ := L.LG
    obtain ⟨gLL, fdLL, LL⟩ := L.LL
    obtain ⟨gLI, fdLI, LI⟩ := L.LI
    obtain ⟨gEL, fdEL, EL⟩ := L.EL
    obtain ⟨gEH, fdEH, EH⟩ := L.EH
    obtain ⟨gLU, fdLU, LU⟩ := L.LU
    obtain ⟨gLW, fdLW, LW⟩ := L.LW
    have LC := L.LC
    have hc := L.hc
    have mX := L.mX
    have hu : ((cxOf CX0 P w K mg base ["_law_script", "_law_box", "_law_house_here", "_law_rows", "_law_log_here", "_law_gaps", "_law_cut", "_law_hands_here", "_law_due", "_law_empty", "_law_index", "_law_row", "_law_hand"] "law" (defScope sLaw) f (.ref cd) A outer s H E0).nox).A.units + 64 < cLine := by have := hr.un; show (A.deeper _).units + 64 < cLine; omega
    have hcode : ((cxOf CX0 P w K mg base ["_law_script", "_law_box", "_law_house_here", "_law_rows", "_law_log_here", "_law_gaps", "_law_cut", "_law_hands_here", "_law_due", "_law_empty", "_law_index", "_law_row", "_law_hand"] "law" (defScope sLaw) f (.ref cd) A outer s H E0).nox).env.code = .ref cd := rfl
    obtain ⟨oc1, od1, kV1, doc1, pm1, an1, cdv, ct1, osl1, rfl, lkE, cdE⟩ := LE.ex
    obtain ⟨q, eq⟩ : ∃ q, q = ((cxOf CX0 P w K mg base ["_law_script", "_law_box", "_law_house_here", "_law_rows", "_law_log_here", "_law_gaps", "_law_cut", "_law_hands_here", "_law_due", "_law_empty", "_law_index", "_law_row", "_law_hand"] "law" (defScope sLaw) f (.ref cd) A outer s H E0).nox).env.qual ++ "<lambda>" := ⟨_, rfl⟩
    have hmT : (tb, ((cxOf CX0 P w K mg base ["_law_script", "_law_box", "_law_house_here", "_law_rows", "_law_log_here", "_law_gaps", "_law_cut", "_law_hands_here", "_law_due", "_law_empty", "_law_index", "_law_row", "_law_hand"] "law" (defScope sLaw) f (.ref cd) A outer s H E0).nox).env.qual ++ "<lambda>") ∈ [(tb, q), (tR, qRef)] := by rw [eq]; exact List.mem_cons_self
    have huT : ∀ p ∈ [(tb, q), (tR, qRef)], p.1 = tb → p.2 = ((cxOf CX0 P w K mg base ["_law_script", "_law_box", "_law_house_here", "_law_rows", "_law_log_here", "_law_gaps", "_law_cut", "_law_hands_here", "_law_due", "_law_empty", "_law_index", "_law_row", "_law_hand"] "law" (defScope sLaw) f (.ref cd) A outer s H E0).nox).env.qual ++ "<lambda>" := fun p hp h1 => by
      rcases List.mem_cons.mp hp with rfl | hp
      · exact eq
      · rw [List.mem_singleton.mp hp] at h1
        exact absurd h1 ntb
    refine ⟨_, PSs.nox (pss_cons (ps_set (i := 1) scLaw.nd rfl (.inl rfl) (pe_call Bg.G hr1 rfl Bg.m Bg.k Bg.b .nil pass0 (pa_cons (pv 0) pa_nil))) (pss_cons (ps_asg (pe_call GL.G hr8 rfl GL.m GL.k GL.b .nil pass0 (pa_cons (pv 1) (pa_cons (pe_tup (pa_cons pe_int (pa_cons pe_int (pa_cons pe_int (pa_cons pe_int pa_nil))))) (pa_cons pe_int (pa_cons pe_int pa_nil))))) (pg_tup (by rfl) (pgs_cons (pg_name (i := 2) scLaw.nd rfl (.inl rfl)) (pgs_cons (pg_name (i := 3) scLaw.nd rfl (.inr rfl)) pgs_nil)))) (pss_cons (ps_set (i := 4) scLaw.nd rfl (.inr rfl) (pe_make M.M M.G hr10 rfl M.m M.b .nil passL (pa_cons (pv 2) (pa_cons (pv 3) pa_nil)))) (pss_cons (ps_setLc (i := 5) (own := [("_law_index", 10)]) (g := gName 10) (tt := (tTest (tOp rEq (tOp (rIxT K) (tOp (rIxL K) (tVar 3) (tVar 10)) (tC (.int 0))) (tC (.str ("gap" : Str)))))) (te := (tVar 10)) rfl scLaw.nd rfl rfl (sw_true rfl rfl rfl (by decide +kernel)) (pi_range1 rfl B.rng (pa_cons (pe_callB call_len_seq (by rfl) B.len PySem.boot_len (pa_cons (pv 3) pa_nil)) pa_nil)) (blkOk_by (own := [("_law_index", 10)]) (N := ["_law_script", "_law_box", "_law_house_here", "_law_rows", "_law_log_here", "_law_gaps", "_law_cut", "_law_hands_here", "_law_due", "_law_empty", "_law_index", "_law_row", "_law_hand"]) (sc := (defScope sLaw)) (by decide +kernel)) (fun _ _ _ _ _ => pg_name (i := 10) scLaw.nd rfl (.inl rfl)) (fun _ _ _ _ _ => pts_one (pt_cmpR op_eq (pe_ix ix_tup (pe_ix ix_list (pv 3) (pv 10) (fun _ _ => rfl)) pe_int (fun _ _ => rfl)) pe_str (nomark _))) (fun _ _ _ _ _ => pv 10)) (pss_cons (ps_if (pt_not (pt_val (pe_call GA.G hr8 rfl GA.m GA.k GA.b .nil pass0 (pa_cons (pe_lst (pa_cons (pe_callTy call_list_of (by rfl) B.lst (by decide +kernel) (pa_cons (pe_fld (pv 4) rfl) pa_nil)) (pa_cons (pe_prop (pv 4) LC.cl LG.Pr LG.G hr2 LG.b .nil pass0 rfl) (pa_cons (pe_callB (call_lenOwn LL.G LL.s LL.i hr2 LL.b pass0) (by rfl) B.len PySem.boot_len (pa_cons (pv 4) pa_nil)) pa_nil)))) (pa_cons (pe_lst (pa_cons (pv 3) (pa_cons (pv 5) (pa_cons (pe_callB call_len_seq (by rfl) B.len PySem.boot_len (pa_cons (pv 3) pa_nil)) pa_nil)))) pa_nil))))) (pss_one (ps_ret pe_bl)) pss_nil) (pss_cons (ps_if (pt_not (pt_cmpR (op_eqOwn EL.G EL.s EL.i hr2 EL.b pass0) (pv 4) (pe_make M.M M.G hr10 rfl M.m M.b .nil passL (pa_cons (pv 2) (pa_cons (pe_callTy call_tuple_of (by rfl) B.tup (by decide +kernel) (pa_cons (pv 3) pa_nil)) pa_nil))) (by rfl))) (pss_one (ps_ret pe_bl)) pss_nil) (pss_cons (ps_if (PW.pt (pw_or (pt_cmpR (op_neD hu) (pe_lc (own := [("_law_index", 10)]) (g := gName 10) (tt := tYes) (te := (tOp (rIxOwn CL (spLItem K C CL) E0) (tVar 4) (tVar 10))) rfl scLaw.nd (pi_range1 rfl B.rng (pa_cons (pe_callB call_len_seq (by rfl) B.len PySem.boot_len (pa_cons (pv 3) pa_nil)) pa_nil)) (blkOk_by (own := [("_law_index", 10)]) (N := ["_law_script", "_law_box", "_law_house_here", "_law_rows", "_law_log_here", "_law_gaps", "_law_cut", "_law_hands_here", "_law_due", "_law_empty", "_law_index", "_law_row", "_law_hand"]) (sc := (defScope sLaw)) (by decide +kernel)) (fun _ _ _ _ _ => pg_name (i := 10) scLaw.nd rfl (.inl rfl)) (fun _ _ _ _ _ => pts_nil) (fun _ _ _ _ _ => pe_ixOwn LI.G LI.s LI.f LI.i hr2 LI.b pass0 (pv 4) (pv 10) (fun _ _ => rfl))) (pv 3) (nomark _)) (pw_or1 (pt_not (pt_cmpR (op_eqOwn EH.G EH.s EH.i hr1 EH.b pass0) (pe_fld (pv 4) rfl) (pv 2) (by rfl)))))) (pss_one (ps_ret pe_bl)) pss_nil) (pss_cons (ps_set (i := 6) scLaw.nd rfl (.inl rfl) (pe_op op_sub (pe_call GT.G hr1 rfl GT.m GT.k GT.b .nil pass0 (pa_cons (pv 1) (pa_cons (pe_op op_add (pe_callB call_len_seq (by rfl) B.len PySem.boot_len (pa_cons (pv 3) pa_nil)) pe_int) pa_nil))) pe_int)) (pss_cons (ps_if (PW.pt (pw_or (pt_not (pt_cmpR (op_eqOwn EL.G EL.s EL.i hr2 EL.b pass0) (pe_meth (pv 4) LC.cl LU.m LU.G hr11 LU.b .nil pass0 (pa_cons (pv 6) pa_nil)) (pe_make M.M M.G hr10 rfl M.m M.b .nil passL (pa_cons (pv 2) (pa_cons (pe_slice sl_list (pv 3) po_none (po_some (pe_callB (call_max2 rfl) (by rfl) mX (by decide +kernel) (pa_cons pe_int (pa_cons (pv 6) pa_nil))))) pa_nil))) (by rfl))) (pw_or1 (pt_not (pt_cmpR (op_eqOwn EL.G EL.s EL.i hr2 EL.b pass0) (pe_meth (pv 4) LC.cl LU.m LU.G hr11 LU.b .nil pass0 (pa_cons pe_int pa_nil)) (pv 4) (by rfl)))))) (pss_one (ps_ret pe_bl)) pss_nil) (pss_cons (ps_if (pt_not (pt_cmpR (op_eqOwn EL.G EL.s EL.i hr2 EL.b pass0) (pe_op (op_addOwn LA.G LA.A hr11 LA.b passL) (pe_meth (pv 4) LC.cl LU.m LU.G hr11 LU.b .nil pass0 (pa_cons (pe_callB (call_max2 rfl) (by rfl) mX (by decide +kernel) (pa_cons pe_int (pa_cons (pv 6) pa_nil))) pa_nil)) (pe_slice sl_list (pv 3) (po_some (pe_callB (call_max2 rfl) (by rfl) mX (by decide +kernel) (pa_cons pe_int (pa_cons (pv 6) pa_nil)))) po_none)) (pv 4) (by rfl))) (pss_one (ps_ret pe_bl)) pss_nil) (pss_cons (ps_if (pt_cmpR (op_neD hu) (pe_fld (pe_op (op_addOwn LA.G LA.A hr11 LA.b passL) (pv 4) (pe_lst (pa_cons (pe_tup (pa_cons pe_str (pa_cons pe_int pa_nil))) pa_nil))) rfl) (pe_op op_catA (pe_callTy call_tuple_of (by rfl) B.tup (by decide +kernel) (pa_cons (pv 3) pa_nil)) (pe_tup (pa_cons (pe_tup (pa_cons pe_str (pa_cons pe_int pa_nil))) pa_nil))) (nomark _)) (pss_one (ps_ret pe_bl)) pss_nil) (pss_cons (ps_set (i := 7) scLaw.nd rfl (.inr rfl) (pe_call GH.G hr2 rfl GH.m GH.k GH.b .nil pass0 (pa_cons (pv 1) (pa_cons (pv 2) pa_nil)))) (pss_cons (ps_setLc (i := 8) (own := [("_law_row", 11)]) (g := gName 11) (tt := tYes) (te := (tIf (tTest (tOp rNe (tOp (rIxT K) (tVar 11) (tC (.int 0))) (tC (.str ("gap" : Str))))) (tVar 11) (tTup (tCons (tC (.str ("gap" : Str))) (tCons (tCB (rTupOf K) (tCons (tLc (iTup K (tOp (rIxT K) (tVar 11) (tC (.int 1)))) (gName 12) (tTest (tOp (rIn K false) (tVar 12) (tVar 7))) (tVar 12) [12]) tNil)) tNil))))) rfl scLaw.nd rfl rfl (sw_true rfl rfl rfl (by decide +kernel)) (pi_list (pv 3)) (blkOk_by (own := [("_law_row", 11)]) (N := ["_law_script", "_law_box", "_law_house_here", "_law_rows", "_law_log_here", "_law_gaps", "_law_cut", "_law_hands_here", "_law_due", "_law_empty", "_law_index", "_law_row", "_law_hand"]) (sc := (defScope sLaw)) (by decide +kernel)) (fun _ _ _ _ _ => pg_name (i := 11) scLaw.nd rfl (.inl rfl)) (fun _ _ _ _ _ => pts_nil) (fun _ _ _ _ _ => (pe_ifExp (pt_cmpR op_ne (pe_ix ix_tup (pv 11) pe_int (fun _ _ => rfl)) pe_str (nomark _)) (pv 11) (pe_tup (pa_cons pe_str (pa_cons (pe_callTy call_tupOf (by rfl) B.tup (by decide +kernel) (pa_cons (pe_lc (own := [("_law_hand", 12)]) (g := gName 12) (tt := (tTest (tOp (rIn K false) (tVar 12) (tVar 7)))) (te := tVar 12) rfl scLaw.nd (pi_tup (pe_ix ix_tup (pv 11) pe_int (fun _ _ => rfl))) (blkOk_by (own := [("_law_hand", 12)]) (N := ["_law_script", "_law_box", "_law_house_here", "_law_rows", "_law_log_here", "_law_gaps", "_law_cut", "_law_hands_here", "_law_due", "_law_empty", "_law_index", "_law_row", "_law_hand"]) (sc := dueScope) (by decide +kernel)) (fun _ _ _ _ _ => pg_name (i := 12) scLaw.nd rfl (.inl rfl)) (fun _ _ _ _ _ => pts_one (pt_cmpR op_in_seq (pv 12) (pv 7) (by rfl))) (fun _ _ _ _ _ => pv 12)) pa_nil)) pa_nil)))))) (pss_cons (ps_if (pt_not (pt_cmpR (op_eqOwn EL.G EL.s EL.i hr2 EL.b pass0) (pe_meth (pv 4) LC.cl LW.m LW.G hr11 LW.b .nil passL (pa_cons (pv 7) pa_nil)) (pe_make M.M M.G hr10 rfl M.m M.b .nil passL (pa_cons (pv 2) (pa_cons (pv 8) pa_nil))) (by rfl))) (pss_one (ps_ret pe_bl)) pss_nil) (pss_cons (ps_set (i := 9) scLaw.nd rfl (.inl rfl) (pe_cmpR (op_eqD hu) (pe_lc (own := [("_law_row", 11)]) (g := gName 11) (tt := (tAnd (tTest (tOp rEq (tOp (rIxT K) (tVar 11) (tC (.int 0))) (tC (.str ("gap" : Str))))) (tTest (tOp (rNeD K) (tOp (rIxT K) (tVar 11) (tC (.int 1))) (tTup tNil))))) (te := (tVar 11)) rfl scLaw.nd (pi_list (pv 3)) (blkOk_by (own := [("_law_row", 11)]) (N := ["_law_script", "_law_box", "_law_house_here", "_law_rows", "_law_log_here", "_law_gaps", "_law_cut", "_law_hands_here", "_law_due", "_law_empty", "_law_index", "_law_row", "_law_hand"]) (sc := (defScope sLaw)) (by decide +kernel)) (fun _ _ _ _ _ => pg_name (i := 11) scLaw.nd rfl (.inl rfl)) (fun _ _ _ _ _ => pts_one (PW.pt (pw_and (pt_cmpR op_eq (pe_ix ix_tup (pv 11) pe_int (fun _ _ => rfl)) pe_str (nomark _)) (pw_and1 (pt_cmpR (op_neD hu) (pe_ix ix_tup (pv 11) pe_int (fun _ _ => rfl)) (pe_tup pa_nil) (nomark _)))))) (fun _ _ _ _ _ => pv 11)) (pe_lst pa_nil) (nomark _))) (pss_cons (ps_if (pt_cmpR op_ne (pe_cmpR (op_eqOwn EL.G EL.s EL.i hr2 EL.b pass0) (pe_meth (pv 4) LC.cl LW.m LW.G hr11 LW.b .nil passL (pa_cons (pe_tup pa_nil) pa_nil)) (pv 4) (by rfl)) (pv 9) (nomark _)) (pss_one (ps_ret pe_bl)) pss_nil) (pss_cons (ps_if (pt_cmpR (op_neD hu) (LamX.pe_lamcall (T := [(tb, q), (tR, qRef)]) (TT := TErrX K mg ce CE) (t := fun E => tMeth CL "watched" (spLWatch K C CL (ce "InvalidHands")) [] E (tVar 4) (tCons (tTup (tCons (tC (.int 0)) (tCons (tC (.int 0)) tNil))) tNil)) (k := 12) (Ng := ["_law_work", "error", "_law_kinds", "_law_names", "_law_name"]) (a := "_law_work") rfl mE LE.kp lkE cdE bE scErr rfl (.inl rfl) (errX_gives L.wat B) TB hcode hmT huT hr14 (LamX.lamS_by (sc := defScope sLaw) (by decide +kernel)) rfl (fun _ _ _ _ _ => rfl) (fun A outer s H E f c' hr => (pe_meth (pv 4) LC.cl LW.m LW.G (hr.mono (by decide)) LW.b .nil (passes_call (takes_of rfl rfl rfl rfl) (fun _ _ _ _ h => h)) (pa_cons (pe_tup (pa_cons pe_int (pa_cons pe_int pa_nil))) pa_nil)))) (pe_tup (pa_cons pe_str (pa_cons pe_int pa_nil))) (nomark _)) (pss_one (ps_ret pe_bl)) pss_nil) (pss_cons (ps_if (pt_cmpR (op_neD hu) (LamX.pe_lamcall (T := [(tb, q), (tR, qRef)]) (TT := TErrX K mg ce CE) (t := fun E => tMeth CL "watched" (spLWatch K C CL (ce "InvalidHands")) [] E (tVar 4) (tCons (tTup (tCons (tC (.int 4)) tNil)) tNil)) (k := 12) (Ng := ["_law_work", "error", "_law_kinds", "_law_names", "_law_name"]) (a := "_law_work") rfl mE LE.kp lkE cdE bE scErr rfl (.inl rfl) (errX_gives L.wat B) TB hcode hmT huT hr14 (LamX.lamS_by (sc := defScope sLaw) (by decide +kernel)) rfl (fun _ _ _ _ _ => rfl) (fun A outer s H E f c' hr => (pe_meth (pv 4) LC.cl LW.m LW.G (hr.mono (by decide)) LW.b .nil (passes_call (takes_of rfl rfl rfl rfl) (fun _ _ _ _ h => h)) (pa_cons (pe_tup (pa_cons pe_int pa_nil)) pa_nil)))) (pe_tup (pa_cons pe_str (pa_cons pe_int pa_nil))) (nomark _)) (pss_one (ps_ret pe_bl)) pss_nil) (pss_one (ps_ret (pe_call RF.G hr15 rfl RF.m RF.k RF.b .nil pass0 (pa_cons (pv 1) (pa_cons (pv 2) (pa_cons (pv 3) pa_nil)))))))))))))))))))))))), ?_⟩
    clear eq
    let TT := [(tb, q), (tR, qRef)]
    -- box, rows
    refine ⟨_, rfl, sc, ns, rfl, hS, hl, fun b l H1 e1 hB => ?_⟩
    refine ⟨_, rfl, (by show 4 ≤ sizeLine; decide), fun p4 hp4 => ?_⟩
    have f1 := same_upd (o := HO.tup [.int 4, .int 3, .int 4, .int 3]) hp4
    refine ⟨b, l, p4, 4, 3, 4, 3, 15, 2, rfl, SqT.of upd_same, by decide, by decide, by decide, by decide, by decide, by decide, by decide, by decide, hB.same f1, fun T R h xs rs d H2 sT hh hok hR dR lR oR nR hB2 k2 => ?_⟩
    have hT2 : LamX.Tabs [(tb, q), (tR, qRef)] H2 := Tabs.kb k2 (LamX.Tabs.ext (fun p hp => by
      rcases List.mem_cons.mp hp with rfl | hp
      · exact LamX.TabS.nil (e1 _ _ hTb)
      · rw [List.mem_singleton.mp hp]
        exact LamX.TabS.nil (e1 _ _ hTR)) (fun c o q => f1 c o q))
    have lx := rows_len dR
    have hv : Vld d rs := ⟨by omega, oR⟩
    have sm : ∀ r ∈ rs, SmR r := fun r hr => (oR r hr).2
    have l16 : rs.length ≤ 16 := by omega
    have o5 := hok.h0
    have o6 := hok.h1
    have bok := bare_ok hok
    refine ⟨T, _, rfl, sT, rfl, _, _, rfl, _, _, rfl, rfl, ?_⟩
    refine ⟨_, rfl, _, rfl, log_madeX (K := K) (C := C) (CL := CL) hh ⟨.inl (SqL.of hR), dR⟩ (by omega) sm (fun i bd => (hv.bad bd).elim) fun _ _ a H3 e3 na la => ?_⟩
    have W : WL K C CL [(tb, q), (tR, qRef)] b l h a R xs rs d H3 := ⟨hB2.same e3, Tabs.kb (b := b) (l := l) (Kb.same e3) hT2, la, e3 _ _ hR, Dp.sames e3 _ _ dR, nR⟩
    have l5 := sizeLine_eq
    clear hTb hTR e1 f1 hh k2 hT2 e3 la hR dR
    -- gaps
    refine ⟨_, rfl, R, xs, rfl, .inl (SqL.of W.r), _, rfl, by omega, by omega, fun D hD => ?_⟩
    have e0 : ∀ (H' : Hp) (o : HO), Same H3 H' → Same H3 (L2.upd H' D o) := fun H' o e c u h => by rw [upd_ne (ne_of_none h hD)]; exact e c u h
    refine lc_range (lo := 0) (n := xs.length) (fun i H' => Same H3 H' ∧ H' D = some (.lst (nV ((List.range i).filter fun i => (rs[i]?.map isGap).getD false)))) ⟨same_upd hD, upd_same⟩ ?_ ?_
    · rintro i H' hi ⟨e, hz⟩
      rw [Int.zero_add]
      obtain ⟨r, hrr⟩ : ∃ r, rs[i]? = some r := ⟨_, List.getElem?_eq_getElem (by omega)⟩
      have W1 := W.same e
      obtain ⟨y, hy, dy⟩ := DpAll.at2 W1.dr (i := i) (d := rwD r) (by rw [List.getElem?_map, hrr]; rfl)
      obtain ⟨ay, vs, rfl, sy⟩ := rw_at dy
      refine ⟨wipe_one _ 10 _, _, rfl, _, rfl, R, xs, (i : Nat), .ref ay, rfl, rfl, SqL.of W1.r, atI_nat hy, ay, _, 0, _, rfl, rfl, sy, atI_nat (j := 0) rfl, rfl, _, rfl, ?_⟩
      rw [decS, rw_gap]
      have ln : (nV ((List.range i).filter fun i => (rs[i]?.map isGap).getD false)).length ≤ i := by
        rw [nv_len]
        have := List.length_filter_le (fun i => (rs[i]?.map isGap).getD false) (List.range i)
        rw [List.length_range] at this
        exact this
      refine ite_b _ (fun c => ?_) (fun c => ?_)
      · refine ⟨_, rfl, _, hz, by omega, e0 _ _ e, ?_⟩
        rw [gapIx_succ hrr, c, if_pos rfl]
        have : nV ((List.range i).filter (fun i => (rs[i]?.map isGap).getD false) ++ [i]) = nV ((List.range i).filter fun i => (rs[i]?.map isGap).getD false) ++ [.int (i : Nat)] := by
          unfold nV
          rw [List.map_append]
          rfl
        rw [this]
        exact upd_same
      · refine ⟨e, ?_⟩
        rw [gapIx_succ hrr, c, if_neg (by decide), List.append_nil]
        exact hz
    rintro H4 ⟨e4, hD4⟩
    replace hD4 : H4 D = some (.lst (nV (gapIx rs))) := by
      unfold gapIx
      rw [← lx]
      exact hD4
    have nD := W.bx.neL hD
    have W4 := W.same e4
    clear e0
    -- rows, gaps, length
    have lg : (gapIx rs).length ≤ 16 := by
      have := List.length_filter_le (fun i => (rs[i]?.map isGap).getD false) (List.range rs.length)
      rw [List.length_range] at this
      exact Nat.le_trans this l16
    have gI : ∀ H' : Hp, DpAll K H' (nV (gapIx rs)) ((hsZ (gapIx rs)).map PyData.int) := fun H' => by
      rw [← hsZ_V]
      exact ints_all K H' _
    dsimp only
    refine seq_by ?_
    refine ifs_by (fun b' H' => b' = false ∧ WL K C CL [(tb, q), (tR, qRef)] b l h a R xs rs d H') (fun Q' kq => ?_) (fun H' p => by cases p.1) (fun H5 ⟨_, W5⟩ => ?_)
    · obtain ⟨dx, fs, t, xt, h0, h1, h2, h3, h4, h5⟩ := id W4.la.ex
      refine ⟨_, rfl, a, CL, dx, _, _, rfl, h0, LC.cl, LC.nR, h2, t, xt, rfl, .inr h4, fun l1 hl1 => ?_⟩
      have g1 := same_upd (o := HO.lst xt) hl1
      refine ⟨_, rfl, a, dx, fs, rfl, g1 _ _ h0, a, h, d, rs, rfl, W4.la.same g1, by omega, fun gp H' e' ngp hgp => ?_⟩
      have W6 := (W4.same g1).same e'
      obtain ⟨dy, fy, ty, xy, y0, _⟩ := id W6.la.ex
      refine ⟨_, rfl, a, dy, fy, rfl, y0, a, h, d, rs, rfl, W6.la, _, rfl, by omega, (by show 3 ≤ sizeLine; decide), fun q1 hq1 => ?_⟩
      have g2 := same_upd (o := HO.lst [V.ref l1, .ref gp, .int (rs.length : Nat)]) hq1
      have W7 := W6.same g2
      refine ⟨_, rfl, _, rfl, _, rfl, R, xs, rfl, .inl (SqL.of W7.r), (by show 3 ≤ sizeLine; decide), fun q2 hq2 => ?_⟩
      have g3 := same_upd (o := HO.lst [V.ref R, .ref D, .int (xs.length : Nat)]) hq2
      have g13 := g1.trans (e'.trans (g2.trans g3))
      have W8 := W7.same g3
      refine ⟨_, _, .list [.list (rs.map rwD), .list ((hsZ (gapIx rs)).map PyData.int), .int (rs.length : Nat)], rfl, ?_, ?_, ?_, ?_, _, rfl, kq _ _ ⟨rfl, W8⟩⟩
      · refine .lst (SqL.of (g3 _ _ upd_same)) (.cons (.lst (SqL.of ((e'.trans (g2.trans g3)) _ _ upd_same)) (Dp.sames g13 _ _ h5)) (.cons (.lst (SqL.of ((g2.trans g3) _ _ hgp)) (gI _)) (.cons (.int _) .nil)))
      · exact .lst (SqL.of upd_same) (.cons (.lst (SqL.of W8.r) W8.dr) (.cons (.lst (SqL.of (g13 _ _ hD4)) (gI _)) (.cons (by rw [lx]; exact .int _) .nil)))
      · have a1 := okA_rows rs sm
        have a2 := okA_ints (hsZ (gapIx rs))
        have a3 : (hsZ (gapIx rs)).length ≤ 1000 := by unfold hsZ; rw [List.length_map]; omega
        have a4 : rs.length ≤ 1000 := by omega
        simp [okA, okAs, a1, a2, a3, a4]
      · have a1 := depth_rows5 rs sm
        have a2 := ints_depth (hsZ (gapIx rs))
        show max (PyData.depthAll (rs.map rwD) + 1) (max (PyData.depthAll ((hsZ (gapIx rs)).map PyData.int) + 1) (max 0 0)) + 1 < 8
        omega
    -- the same log again
    refine nx_by ?_
    dsimp only
    refine seq_by ?_
    refine ifs_by (fun b' H' => b' = false ∧ WL K C CL [(tb, q), (tR, qRef)] b l h a R xs rs d H') (fun Q' kq => ?_) (fun H' p => by cases p.1) (fun H6 ⟨_, W6⟩ => ?_)
    · refine ⟨_, rfl, _, rfl, _, rfl, R, xs, rfl, .inl ⟨SqL.of W5.r, fun t ht => ?_⟩⟩
      have g1 := same_upd (o := HO.tup xs) ht
      have X1 := W5.same g1
      refine log_madeX (K := K) (C := C) (CL := CL) X1.la.hh ⟨.inr (SqT.of upd_same), X1.dr⟩ (by omega) sm (fun i bd => (hv.bad bd).elim) fun _ _ a1 H7 e7 _ la1 => ?_
      refine eq_logs (X1.la.same e7) la1 sm sm ⟨_, rfl, ?_⟩
      rw [eqv_rows_refl rs sm]
      exact kq _ _ ⟨rfl, X1.same e7⟩
    -- its items, its house
    refine nx_by ?_
    dsimp only
    refine seq_by ?_
    refine ifs_by (fun b' H' => b' = false ∧ WL K C CL [(tb, q), (tR, qRef)] b l h a R xs rs d H') (fun Q' kq => ?_) (fun H' p => by cases p.1) (fun H7 ⟨_, W7⟩ => ?_)
    · refine ⟨_, rfl, R, xs, rfl, .inl (SqL.of W6.r), _, rfl, by omega, by omega, fun D2 hD2 => ?_⟩
      have e0 : ∀ (H' : Hp) (o : HO), Same H6 H' → Same H6 (L2.upd H' D2 o) := fun H' o e c u h => by rw [upd_ne (ne_of_none h hD2)]; exact e c u h
      refine lc_range (lo := 0) (n := xs.length) (fun i H' => Same H6 H' ∧ ∃ zs, H' D2 = some (.lst zs) ∧ DpAll K H' zs ((rs.take i).map rwD)) ⟨same_upd hD2, [], upd_same, by simpa using DpAll.nil⟩ ?_ ?_
      · rintro i H' hi ⟨e, zs, hz, dz⟩
        rw [Int.zero_add]
        obtain ⟨r, hrr⟩ : ∃ r, rs[i]? = some r := ⟨_, List.getElem?_eq_getElem (by omega)⟩
        have X1 := W6.same e
        obtain ⟨dx, fs, t, xt, h0, _⟩ := id X1.la.ex
        refine ⟨wipe_one _ 10 _, yes_lc ⟨_, rfl, _, rfl, a, dx, fs, rfl, h0, a, h, d, rs, i, r, rfl, X1.la, hrr, fun y dy => ?_⟩⟩
        have lz := DpAll.len dz
        rw [List.length_map, List.length_take] at lz
        have nl := nl_updL (ys := zs ++ [y]) hz
        refine ⟨zs, hz, by omega, e0 _ _ e, zs ++ [y], upd_same, ?_⟩
        rw [List.take_add_one, hrr, List.map_append]
        exact DpAll.app (Dp.nls nl _ _ (noLs_rw _) dz) (.cons (Dp.nl nl _ _ (noL_rw r) dy) .nil)
      rintro H8 ⟨e8, zs, hz, dz⟩
      rw [List.take_of_length_le (by omega)] at dz
      have W8 := W6.same e8
      obtain ⟨dx, fs, t, xt, h0, h1, _⟩ := id W8.la.ex
      obtain ⟨d1, vb1, vt1, vs1, vst1, q0, _⟩ := id W8.la.hh.ex
      refine ⟨_, rfl, .list (rs.map rwD), .list (rs.map rwD), .lst (SqL.of hz) dz, .lst (SqL.of W8.r) W8.dr, shaped_rowsL rs sm, shaped_rowsL rs sm, _, rfl, ?_⟩
      rw [eqv_rowsL_refl rs sm]
      refine iteF ?_
      refine ⟨_, rfl, a, CL, dx, _, _, rfl, h0, LC.cl, LC.nH, h1, _, rfl, h, h, d1, _, d1, _, rfl, rfl, q0, q0, h, h, d, d, rfl, W8.la.hh, W8.la.hh, _, rfl, _, rfl, ?_⟩
      have ek : (decide (d.hands = d.hands) && PyData.eqv (stD d) (stD d)) = true := eqHs_refl d
      rw [ek]
      exact kq _ _ ⟨rfl, W8⟩
    -- a part of it
    refine nx_by ?_
    dsimp only
    refine ⟨_, rfl, _, rfl, R, xs, rfl, .inl (SqL.of W7.r), _, _, rfl, rfl, b, l, (xs.length : Int) + 2, rfl, by omega, by omega, W7.bx, fun z H8 z0 z1 hB8 k8 => ⟨_, _, rfl, rfl, ?_⟩⟩
    have W8 := W7.kb k8 hB8
    dsimp only
    obtain ⟨cut, ecut⟩ : ∃ cut, cut = z - 1 := ⟨_, rfl⟩
    rw [← ecut]
    obtain ⟨m, em⟩ : ∃ m : Nat, m = cut.toNat := ⟨_, rfl⟩
    have hm : m ≤ xs.length := by omega
    have emx : (if cut > (0 : Int) then cut else (0 : Int)) = (m : Int) := by
      by_cases c : cut > 0
      · rw [if_pos c]; omega
      · rw [if_neg c]; omega
    have ec : cutV xs none (some (m : Int)) = xs.take m := cut_take xs m hm
    have ed : cutV xs (some (m : Int)) none = xs.drop m := cut_drop xs m hm
    have smT : ∀ r ∈ rs.take m, SmR r := fun r hr => sm r (List.mem_of_mem_take hr)
    have e99 : rs.take (99 : Int).toNat = rs := List.take_of_length_le (by omega)
    refine seq_by ?_
    refine ifs_by (fun b' H' => b' = false ∧ WL K C CL [(tb, q), (tR, qRef)] b l h a R xs rs d H') (fun Q' kq => ?_) (fun H' p => by cases p.1) (fun H9 ⟨_, W9⟩ => ?_)
    · obtain ⟨dx, fs, t, xt, h0, h1, h2, h3, _⟩ := id W8.la.ex
      refine ⟨_, rfl, a, dx, fs, rfl, h0, h3 _ (by decide +kernel) (by decide +kernel), _, rfl, a, h, cut, d, rs, rfl, W8.la, hv, fun a1 H9 e9 _ la1 => ?_⟩
      have W9 := W8.same e9
      refine ⟨_, rfl, _, rfl, _, rfl, _, _, rfl, _, rfl, R, xs, rfl, SqL.of W9.r, fun p hp => ?_⟩
      rw [emx] at *
      have g1 := same_upd (o := HO.lst (cutV xs none (some (m : Int)))) hp
      have X1 := W9.same g1
      refine log_madeX (K := K) (C := C) (CL := CL) (rs := rs.take m) (xs := cutV xs none (some (m : Int))) X1.la.hh ⟨.inl (SqL.of upd_same), by have q := DpAll.take m X1.dr; rw [← ec, ← List.map_take] at q; exact q⟩ (by rw [ec, List.length_take]; omega) smT (fun i bd => ((hv.take m).bad bd).elim) fun _ _ a2 HA eA _ la2 => ?_
      refine eq_logs ((la1.same g1).same eA) (by rw [em] at la2; exact la2) (by rw [← em]; exact smT) (by rw [← em]; exact smT) ⟨_, rfl, ?_⟩
      rw [eqv_rows_refl _ (by rw [← em]; exact smT)]
      have XA := X1.same eA
      obtain ⟨dx, fs, t, xt, h0, h1, h2, h3, _⟩ := id XA.la.ex
      refine iteF ⟨_, rfl, a, dx, fs, rfl, h0, h3 _ (by decide +kernel) (by decide +kernel), a, h, 99, d, rs, rfl, XA.la, hv, fun a3 HB eB _ la3 => ?_⟩
      rw [e99] at la3
      refine ⟨_, rfl, eq_logs la3 (XA.la.same eB) sm sm ⟨_, rfl, ?_⟩⟩
      rw [eqv_rows_refl rs sm]
      exact kq _ _ ⟨rfl, XA.same eB⟩
    refine nx_by ?_
    dsimp only
    refine seq_by ?_
    refine ifs_by (fun b' H' => b' = false ∧ WL K C CL [(tb, q), (tR, qRef)] b l h a R xs rs d H') (fun Q' kq => ?_) (fun H' p => by cases p.1) (fun HA ⟨_, WA⟩ => ?_)
    · obtain ⟨dx, fs, t, xt, h0, h1, h2, h3, _⟩ := id W9.la.ex
      refine ⟨_, rfl, a, dx, fs, rfl, h0, h3 _ (by decide +kernel) (by decide +kernel), _, rfl, _, _, rfl, a, h, (m : Int), d, rs, by rw [emx]; rfl, W9.la, hv, fun a1 HB eB _ la1 => ?_⟩
      have em2 : ((m : Int)).toNat = m := by omega
      rw [em2] at la1
      have WB := W9.same eB
      refine ⟨_, rfl, _, rfl, _, _, rfl, _, rfl, R, xs, rfl, SqL.of WB.r, fun p hp => ?_⟩
      rw [emx] at *
      have g1 := same_upd (o := HO.lst (cutV xs (some (m : Int)) none)) hp
      have X1 := WB.same g1
      have la2 := la1.same g1
      obtain ⟨dy, fy, ty, xy, y0, _⟩ := id la2.ex
      have etd : rs.take m ++ rs.drop m = rs := List.take_append_drop m rs
      refine ⟨a1, p, dy, fy, cutV xs (some (m : Int)) none, rfl, rfl, y0, SqL.of upd_same, a1, p, h, d, rs.take m, rs.drop m, cutV xs (some (m : Int)) none, rfl, la2, SqL.of upd_same, by have q := dp_drop m X1.dr; rw [← ed, ← List.map_drop] at q; exact q, by rw [List.length_take]; omega, by rw [List.length_drop]; omega, by rw [etd]; exact sm, by rw [etd]; exact fun i bd => (hv.bad bd).elim, fun _ _ a3 HC eC _ la3 => ⟨_, rfl, ?_⟩⟩
      rw [etd] at la3
      refine ⟨_, rfl, eq_logs la3 (X1.la.same eC) sm sm ⟨_, rfl, ?_⟩⟩
      rw [eqv_rows_refl rs sm]
      exact kq _ _ ⟨rfl, X1.same eC⟩
    -- a row more
    refine nx_by ?_
    dsimp only
    refine seq_by ?_
    refine ifs_by (fun b' H' => b' = false ∧ WL K C CL [(tb, q), (tR, qRef)] b l h a R xs rs d H') (fun Q' kq => ?_) (fun H' p => by cases p.1) (fun HB ⟨_, WB⟩ => ?_)
    · refine ⟨_, rfl, (by show 2 ≤ sizeLine; decide), fun t ht => ?_⟩
      have g1 := same_upd (o := HO.tup [.str ("bare" : Str), .int 0]) ht
      refine ⟨(by show 1 ≤ sizeLine; decide), fun s1 hs1 => ?_⟩
      have g2 := same_upd (o := HO.lst [.ref t]) hs1
      have X1 := WA.same (g1.trans g2)
      obtain ⟨dx, fs, tt, xt, h0, h1, h2, h3, _⟩ := id X1.la.ex
      have hv1 : Vld d (rs ++ [bareR]) := ⟨by rw [List.length_append]; simp; omega, fun r hr => by
        rcases List.mem_append.mp hr with hr | hr
        · exact oR r hr
        · rw [List.mem_singleton.mp hr]; exact bok⟩
      have sm1 : ∀ r ∈ rs ++ [bareR], SmR r := fun r hr => (hv1.ok r hr).2
      refine ⟨a, s1, dx, fs, [.ref t], rfl, rfl, h0, SqL.of upd_same, a, s1, h, d, rs, [bareR], [.ref t], rfl, X1.la, SqL.of upd_same, .cons (.tup (SqT.same g2 (SqT.of upd_same)) (.cons (.str _) (.cons (.int _) .nil))) .nil, by omega, by simp, sm1, fun i bd => (hv1.bad bd).elim, fun _ _ a1 HC eC _ la1 => ⟨_, rfl, ?_⟩⟩
      obtain ⟨dy, fy, ty, xy, y0, y1, y2, y3, y4, y5⟩ := id la1.ex
      refine ⟨a1, CL, dy, _, _, rfl, y0, LC.cl, LC.nR, y2, _, rfl, R, xs, rfl, .inl ⟨SqL.of (X1.same eC).r, fun t2 ht2 => ?_⟩⟩
      have g3 := same_upd (o := HO.tup xs) ht2
      refine ⟨(by show 2 ≤ sizeLine; decide), fun t3 ht3 => ?_⟩
      have g4 := same_upd (o := HO.tup [.str ("bare" : Str), .int 0]) ht3
      refine ⟨(by show 1 ≤ sizeLine; decide), fun t4 ht4 => ?_⟩
      have g5 := same_upd (o := HO.tup [.ref t3]) ht4
      have gC := eC.trans (g3.trans (g4.trans g5))
      have fin : ∀ (v : V) (H' : Hp), Same (L2.upd (L2.upd (L2.upd HC t2 (.tup xs)) t3 (.tup [.str ("bare" : Str), .int 0])) t4 (.tup [.ref t3])) H' → Dp K H' v (rowsD (rs ++ [bareR])) → rNeD K (.ref ty) v H' (fun x H' => ∃ k, x = .bl k ∧ Q' k H') := fun v H' e' dv => by
        refine ⟨rowsD (rs ++ [bareR]), rowsD (rs ++ [bareR]), .tup (SqT.same ((g3.trans (g4.trans g5)).trans e') y4) (Dp.sames ((g3.trans (g4.trans g5)).trans e') _ _ y5), dv, shaped_rows _ sm1, shaped_rows _ sm1, _, rfl, ?_⟩
        rw [eqv_rows_refl _ sm1]
        exact kq _ _ ⟨rfl, X1.same (gC.trans e')⟩
      have dl : DpAll K (L2.upd (L2.upd (L2.upd HC t2 (.tup xs)) t3 (.tup [.str ("bare" : Str), .int 0])) t4 (.tup [.ref t3])) (xs ++ [.ref t3]) ((rs ++ [bareR]).map rwD) := by
        rw [List.map_append]
        exact DpAll.app (X1.same gC).dr (.cons (.tup (SqT.same g5 (SqT.of upd_same)) (.cons (.str _) (.cons (.int _) .nil))) .nil)
      refine ⟨t2, t4, xs, [.ref t3], rfl, rfl, SqT.same (g4.trans g5) (SqT.of upd_same), SqT.of upd_same, by show xs.length + 1 ≤ sizeLine; omega, fun ex => ?_, fun _ e => (by cases e), fun _ _ p hp => ?_⟩
      · subst ex
        exact fin (.ref t4) _ (Same.refl _) (.tup (SqT.of upd_same) dl)
      · exact fin (.ref p) _ (same_upd hp) (.tup (SqT.of upd_same) (Dp.sames (same_upd hp) _ _ dl))
    -- hands that are watched
    refine nx_by ?_
    dsimp only
    refine ⟨_, rfl, _, rfl, b, l, h, d, rfl, WB.bx, WB.la.hh, by omega, by omega, fun th hs HC sth lhs ohs phs hBC kC => ?_⟩
    have WC := WB.kb kC hBC
    obtain ⟨Z, eZ⟩ : ∃ Z, Z = hsZ hs := ⟨_, rfl⟩
    have lZ : Z.length ≤ 100 := by rw [eZ]; unfold hsZ; rw [List.length_map]; omega
    have sZ : SqT K HC th (Z.map V.int) := by rw [eZ, hsZ_V]; exact sth
    have oZ : ∀ i, okH d.hands Z i := by rw [eZ]; exact okH_of ohs phs
    have hvZ := hv.keep Z
    have smZ : ∀ r ∈ rs.map (keepR Z), SmR r := fun r hr => (hvZ.ok r hr).2
    clear sth eZ
    -- what is due
    refine ⟨_, rfl, R, rfl, ⟨_, SqL.of WC.r⟩, fun D3 hD3 => ?_⟩
    have e0 : ∀ (H' : Hp) (o : HO), Same HC H' → Same HC (L2.upd H' D3 o) := fun H' o e c u h => by rw [upd_ne (ne_of_none h hD3)]; exact e c u h
    refine lc_list (K := K) (a := R) (xs := xs) (fun i H' => Same HC H' ∧ ∃ zs, H' D3 = some (.lst zs) ∧ DpAll K H' zs (((rs.take i).map (keepR Z)).map rwD)) ⟨same_upd hD3, [], upd_same, by simpa using DpAll.nil⟩ (fun i H' _ p => SqL.of ((WC.same p.1).r)) ?_ ?_
    · rintro i y H' hi ⟨e, zs, hz, dz⟩
      have hi1 := (List.getElem?_eq_some_iff.mp hi).1
      have X1 := WC.same e
      obtain ⟨dr, hdr, hdy⟩ := DpAll.get X1.dr hi
      obtain ⟨r, hrr⟩ : ∃ r, rs[i]? = some r := ⟨_, List.getElem?_eq_getElem (by omega)⟩
      rw [List.getElem?_map, hrr] at hdr
      cases hdr
      have er : (rs.take (i + 1)).map (keepR Z) = (rs.take i).map (keepR Z) ++ [keepR Z r] := by rw [List.take_add_one, hrr, List.map_append]; rfl
      have lz := DpAll.len dz
      rw [List.length_map, List.length_map, List.length_take] at lz
      have fin : ∀ (y' : V) (H2 : Hp), Same H' H2 → Dp K H2 y' (rwD (keepR Z r)) → ∃ acc, H2 D3 = some (.lst acc) ∧ acc.length < sizeLine ∧ (Same HC (L2.upd H2 D3 (.lst (acc ++ [y']))) ∧ ∃ zs, (L2.upd H2 D3 (.lst (acc ++ [y']))) D3 = some (.lst zs) ∧ DpAll K (L2.upd H2 D3 (.lst (acc ++ [y']))) zs (((rs.take (i + 1)).map (keepR Z)).map rwD)) := fun y' H2 e2 dy' => by
        have hz2 := e2 _ _ hz
        have nl := nl_updL (ys := zs ++ [y']) hz2
        refine ⟨zs, hz2, by omega, e0 _ _ (e.trans e2), zs ++ [y'], upd_same, ?_⟩
        rw [er, List.map_append]
        exact DpAll.app (Dp.nls nl _ _ (noLs_rw _) (Dp.sames e2 _ _ dz)) (.cons (Dp.nl nl _ _ (noL_rw _) dy') .nil)
      obtain ⟨ay, vs, rfl, sy⟩ := rw_at hdy
      refine ⟨wipe_one _ 11 _, yes_lc ⟨_, rfl, ay, _, 0, _, rfl, rfl, sy, atI_nat (j := 0) rfl, rfl, _, rfl, ?_⟩⟩
      rw [decS, rw_gap]
      cases cg : isGap r with
      | false =>
        refine iteT ⟨_, rfl, ?_⟩
        exact fin (.ref ay) H' (Same.refl _) (by rw [keep_not cg]; exact hdy)
      | true =>
        obtain ⟨gs, rfl⟩ := isgap_at cg
        obtain ⟨ag, tg, eg, sg, stg⟩ := gap_at hdy
        cases eg
        have lg' : gs.length ≤ 100 := (oR _ (List.mem_of_getElem? hrr)).2
        refine iteF ⟨_, rfl, ay, _, 1, _, rfl, rfl, sg, atI_nat (j := 1) rfl, tg, rfl, ⟨_, stg⟩, fun D4 hD4 => ?_⟩
        refine lc_inJ (K := K) 12 7 gs th Z (by omega) hD4 stg (SqT.same e sZ) (by show 12 < 13; decide) (fun y => rfl) (fun H3 e3 hz3 => ?_)
        refine ⟨D4, _, rfl, .inl ⟨SqL.of hz3, fun p hp => ?_⟩⟩
        have f4 := same_upd (o := HO.tup ((gs.filter fun y => decide (y ∈ Z)).map V.int)) hp
        refine ⟨(by show 2 ≤ sizeLine; decide), fun q2 hq2 => ?_⟩
        have f5 := same_upd (o := HO.tup [V.str ("gap" : Str), .ref p]) hq2
        exact fin (.ref q2) _ (e3.trans (f4.trans f5)) (.tup (SqT.of upd_same) (.cons (.str _) (.cons (.tup (SqT.same f5 (SqT.of upd_same)) (ints_all K _ _)) .nil)))
    rintro HD ⟨eD, zs, hz, dz⟩
    rw [List.take_of_length_le (by omega)] at dz
    have WD := WC.same eD
    have sZD := SqT.same eD sZ
    have lz := DpAll.len dz
    rw [List.length_map, List.length_map] at lz
    dsimp only
    refine seq_by ?_
    refine ifs_by (fun b' H' => b' = false ∧ WL K C CL [(tb, q), (tR, qRef)] b l h a R xs rs d H') (fun Q' kq => ?_) (fun H' p => by cases p.1) (fun HE ⟨_, WE⟩ => ?_)
    · obtain ⟨dx, fs, t, xt, h0, h1, h2, h3, _⟩ := id WD.la.ex
      refine ⟨_, rfl, a, dx, fs, rfl, h0, h3 _ (by decide +kernel) (by decide +kernel), _, rfl, a, h, th, Z, d, rs, rfl, WD.la, hv, sZD, lZ, fun i _ hn => absurd (oZ i) hn, fun _ a1 HE eE _ la1 => ?_⟩
      have X1 := WD.same eE
      refine ⟨_, rfl, _, rfl, log_madeX (K := K) (C := C) (CL := CL) (rs := rs.map (keepR Z)) (xs := zs) X1.la.hh ⟨.inl (SqL.of (eE _ _ hz)), Dp.sames eE _ _ dz⟩ (by omega) smZ (fun i bd => (hvZ.bad bd).elim) fun _ _ a2 HF eF _ la2 => ?_⟩
      refine eq_logs (la1.same eF) la2 smZ smZ ⟨_, rfl, ?_⟩
      rw [eqv_rows_refl _ smZ]
      exact kq _ _ ⟨rfl, X1.same eF⟩
    -- gaps in which some hand is
    refine nx_by ?_
    dsimp only
    refine ⟨_, rfl, R, rfl, ⟨_, SqL.of WE.r⟩, fun D5 hD5 => ?_⟩
    have e0 : ∀ (H' : Hp) (o : HO), Same HE H' → Same HE (L2.upd H' D5 o) := fun H' o e c u h => by rw [upd_ne (ne_of_none h hD5)]; exact e c u h
    refine lc_list (K := K) (a := R) (xs := xs) (fun i H' => Same HE H' ∧ ∃ zs, H' D5 = some (.lst zs) ∧ DpAll K H' zs ((fullR (rs.take i)).map rwD)) ⟨same_upd hD5, [], upd_same, by simpa [fullR] using DpAll.nil⟩ (fun i H' _ p => SqL.of ((WE.same p.1).r)) ?_ ?_
    · rintro i y H' hi ⟨e, zs, hz, dz⟩
      have hi1 := (List.getElem?_eq_some_iff.mp hi).1
      have X1 := WE.same e
      obtain ⟨dr, hdr, hdy⟩ := DpAll.get X1.dr hi
      obtain ⟨r, hrr⟩ : ∃ r, rs[i]? = some r := ⟨_, List.getElem?_eq_getElem (by omega)⟩
      rw [List.getElem?_map, hrr] at hdr
      cases hdr
      have er := full_take hrr
      have lz := DpAll.len dz
      have lf := List.length_filter_le isFull (rs.take i)
      rw [List.length_map] at lz
      rw [List.length_take] at lf
      have lz2 : zs.length ≤ 16 := by rw [lz]; exact Nat.le_trans lf (by omega)
      have no : isFull r = false → ∀ H2, Same H' H2 → (Same HE H2 ∧ ∃ zs, H2 D5 = some (.lst zs) ∧ DpAll K H2 zs ((fullR (rs.take (i + 1))).map rwD)) := fun c H2 e2 => by
        rw [er, c, if_neg (by decide), List.append_nil]
        exact ⟨e.trans e2, zs, e2 _ _ hz, Dp.sames e2 _ _ dz⟩
      obtain ⟨ay, vs, rfl, sy⟩ := rw_at hdy
      refine ⟨wipe_one _ 11 _, _, rfl, ay, _, 0, _, rfl, rfl, sy, atI_nat (j := 0) rfl, rfl, _, rfl, ?_⟩
      rw [decS, rw_gap]
      cases cg : isGap r with
      | false => exact iteF (iteFe rfl (no (full_not cg) H' (Same.refl _)))
      | true =>
        obtain ⟨gs, rfl⟩ := isgap_at cg
        obtain ⟨ag, tg, eg, sg, stg⟩ := gap_at hdy
        cases eg
        refine iteT ⟨_, rfl, ay, _, 1, _, rfl, rfl, sg, atI_nat (j := 1) rfl, (by show 0 ≤ sizeLine; decide), fun t ht => ?_⟩
        have g1 := same_upd (o := HO.tup []) ht
        refine ⟨intsD gs, .tuple [], .tup (SqT.same g1 stg) (ints_all K _ _), .tup (SqT.of upd_same) .nil, shaped_ints gs, rfl, _, rfl, ?_⟩
        rw [full_gap]
        refine ite_b _ (fun c => ?_) (fun c => no c _ g1)
        have hz2 := g1 _ _ hz
        have nl := nl_updL (ys := zs ++ [V.ref ay]) hz2
        refine ⟨_, rfl, zs, hz2, by omega, e0 _ _ (e.trans g1), zs ++ [.ref ay], upd_same, ?_⟩
        rw [er, c, if_pos rfl, List.map_append]
        exact DpAll.app (Dp.nls nl _ _ (noLs_rw _) (Dp.sames g1 _ _ dz)) (.cons (Dp.nl nl _ _ (noL_rw _) (Dp.same g1 _ _ hdy)) .nil)
    rintro HF ⟨eF, zs2, hz2, dz2⟩
    rw [List.take_of_length_le (by omega)] at dz2
    have WF := WE.same eF
    have smF : ∀ r ∈ fullR rs, SmR r := fun r hr => sm r (List.mem_filter.mp hr).1
    refine ⟨(by show 0 ≤ sizeLine; decide), fun p hp => ?_⟩
    have gF := same_upd (o := HO.lst []) hp
    refine ⟨.list ((fullR rs).map rwD), .list [], .lst (SqL.of (gF _ _ hz2)) (Dp.sames gF _ _ dz2), .lst (SqL.of upd_same) .nil, shaped_rowsL _ smF, rfl, ?_⟩
    rw [eqv_empty]
    have WG := WF.same gF
    -- nobody watched
    dsimp only
    refine seq_by ?_
    refine ifs_by (fun b' H' => b' = false ∧ WL K C CL [(tb, q), (tR, qRef)] b l h a R xs rs d H') (fun Q' kq => ?_) (fun H' p => by cases p.1) (fun HH ⟨_, WH⟩ => ?_)
    · obtain ⟨dx, fs, t, xt, h0, h1, h2, h3, _⟩ := id WG.la.ex
      refine ⟨_, rfl, a, dx, fs, rfl, h0, h3 _ (by decide +kernel) (by decide +kernel), (by show 0 ≤ sizeLine; decide), fun t0 ht0 => ?_⟩
      have g1 := same_upd (o := HO.tup []) ht0
      have hv0 := hv.keep []
      refine ⟨a, h, t0, [], d, rs, rfl, WG.la.same g1, hv, SqT.of upd_same, by decide, fun i _ hn => absurd (fun z hz => by simp at hz) hn, fun _ a1 HI eI _ la1 => ?_⟩
      have XI := (WG.same g1).same eI
      refine ⟨_, rfl, eq_logs la1 XI.la (fun r hr => (hv0.ok r hr).2) sm ⟨_, rfl, rfl, _, rfl, ?_⟩⟩
      rw [eqv_watchD rs sm]
      have ee : decide (V.bl (fullR rs).isEmpty = V.bl (fullR rs).isEmpty) = true := decide_eq_true rfl
      rw [ee]
      exact kq _ _ ⟨rfl, XI⟩
    -- hands that cannot be
    refine nx_by ?_
    dsimp only
    refine seq_by ?_
    refine ifs_by (fun b' H' => b' = false ∧ WL K C CL [(tb, q), (tR, qRef)] b l h a R xs rs d H') (fun Q' kq => ?_) (fun H' p => by cases p.1) (fun HI ⟨_, WI⟩ => ?_)
    · refine by_cont (T := LamX.tLam _ _ _ _ _) (fun v H' => Dp K H' v (nhD 1) ∧ WL K C CL [(tb, q), (tR, qRef)] b l h a R xs rs d H') (fun Q' kq => ?_) ?_
      · refine ⟨WH.tb, fun HI xI tI => ?_⟩
        have WI := WH.ext xI tI
        obtain ⟨dx, fs, t, xt, h0, h1, h2, h3, _⟩ := id WI.la.ex
        refine ⟨_, rfl, a, dx, fs, rfl, h0, h3 _ (by decide +kernel) (by decide +kernel), (by show 2 ≤ sizeLine; decide), fun t0 ht0 => ?_⟩
        have g1 := same_upd (o := HO.tup [.int 0, .int 0]) ht0
        have X1 := WI.same g1
        refine ⟨a, h, t0, [0, 0], d, rs, rfl, X1.la, hv, SqT.of upd_same, by decide, fun i hj hn dd H' e' hdd => ?_, fun ok => ?_⟩
        · have ei := bad_two o5 i hj hn
          subst ei
          exact ⟨"InvalidHands", 1, dd, rfl, L.knH, rfl, hdd, fun v H2 e2 dv => kq _ _ ⟨dv, X1.same (e'.trans e2)⟩⟩
        · have := (ok 1 0 rfl).2 0 (by decide) rfl
          omega
      rintro v HI ⟨dv, WI⟩
      refine ⟨(by show 2 ≤ sizeLine; decide), fun t ht => ?_⟩
      have g := same_upd (o := HO.tup [.str ("InvalidHands" : Str), .int 1]) ht
      refine ⟨nhD 1, nhD 1, Dp.same g _ _ dv, .tup (SqT.of upd_same) (.cons (.str _) (.cons (.int _) .nil)), shaped_nh 1, shaped_nh 1, _, rfl, ?_⟩
      rw [eqv_nh]
      exact kq _ _ ⟨rfl, WI.same g⟩
    refine nx_by ?_
    dsimp only
    refine seq_by ?_
    refine ifs_by (fun b' H' => b' = false ∧ WL K C CL [(tb, q), (tR, qRef)] b l h a R xs rs d H') (fun Q' kq => ?_) (fun H' p => by cases p.1) (fun HJ ⟨_, WJ⟩ => ?_)
    · refine by_cont (T := LamX.tLam _ _ _ _ _) (fun v H' => Dp K H' v (nhD 0) ∧ WL K C CL [(tb, q), (tR, qRef)] b l h a R xs rs d H') (fun Q' kq => ?_) ?_
      · refine ⟨WI.tb, fun HJ xJ tJ => ?_⟩
        have WJ := WI.ext xJ tJ
        obtain ⟨dx, fs, t, xt, h0, h1, h2, h3, _⟩ := id WJ.la.ex
        refine ⟨_, rfl, a, dx, fs, rfl, h0, h3 _ (by decide +kernel) (by decide +kernel), (by show 1 ≤ sizeLine; decide), fun t0 ht0 => ?_⟩
        have g1 := same_upd (o := HO.tup [.int 4]) ht0
        have X1 := WJ.same g1
        refine ⟨a, h, t0, [4], d, rs, rfl, X1.la, hv, SqT.of upd_same, by decide, fun i hj hn dd H' e' hdd => ?_, fun ok => ?_⟩
        · have ei := bad_four o6 i hj hn
          subst ei
          exact ⟨"InvalidHands", 0, dd, rfl, L.knH, rfl, hdd, fun v H2 e2 dv => kq _ _ ⟨dv, X1.same (e'.trans e2)⟩⟩
        · have := numOk_is (ok 0 4 rfl).1
          omega
      rintro v HJ ⟨dv, WJ⟩
      refine ⟨(by show 2 ≤ sizeLine; decide), fun t ht => ?_⟩
      have g := same_upd (o := HO.tup [.str ("InvalidHands" : Str), .int 0]) ht
      refine ⟨nhD 0, nhD 0, Dp.same g _ _ dv, .tup (SqT.of upd_same) (.cons (.str _) (.cons (.int _) .nil)), shaped_nh 0, shaped_nh 0, _, rfl, ?_⟩
      rw [eqv_nh]
      exact kq _ _ ⟨rfl, WJ.same g⟩
    -- rows that cannot be
    refine nx_by ?_
    dsimp only
    refine ⟨_, rfl, _, rfl, _, rfl, b, l, h, R, xs, rs, d, rfl, WJ.bx, WJ.la.hh, hok, WJ.r, WJ.dr, hv, by omega, nR, fun p hp => WJ.tb p (List.mem_cons_of_mem _ hp), fun H' => k H'⟩
end
end Kw

set_option Elab.async false
set_option linter.all false
set_option maxRecDepth 100000
set_option maxHeartbeats 4000000
namespace Kw
open PySem PySem.Spec PyProof.Rows L2
def ce9 (CInvalidHands CInvalidLog CUnknownHand CUnknownItem CUnknownBox CUnknownSeal CInsideItself : Addr) (z : Str) : Addr := if z = "InvalidHands" then CInvalidHands else if z = "InvalidLog" then CInvalidLog else if z = "UnknownHand" then CUnknownHand else if z = "UnknownItem" then CUnknownItem else if z = "UnknownBox" then CUnknownBox else if z = "UnknownSeal" then CUnknownSeal else CInsideItself
theorem ce9_InvalidHands (CInvalidHands CInvalidLog CUnknownHand CUnknownItem CUnknownBox CUnknownSeal CInsideItself : Addr) : ce9 CInvalidHands CInvalidLog CUnknownHand CUnknownItem CUnknownBox CUnknownSeal CInsideItself "InvalidHands" = CInvalidHands := by
  unfold ce9
  rw [if_pos rfl]
theorem ce9_InvalidLog (CInvalidHands CInvalidLog CUnknownHand CUnknownItem CUnknownBox CUnknownSeal CInsideItself : Addr) : ce9 CInvalidHands CInvalidLog CUnknownHand CUnknownItem CUnknownBox CUnknownSeal CInsideItself "InvalidLog" = CInvalidLog := by
  unfold ce9
  rw [if_neg (by decide +kernel), if_pos rfl]
theorem ce9_UnknownHand (CInvalidHands CInvalidLog CUnknownHand CUnknownItem CUnknownBox CUnknownSeal CInsideItself : Addr) : ce9 CInvalidHands CInvalidLog CUnknownHand CUnknownItem CUnknownBox CUnknownSeal CInsideItself "UnknownHand" = CUnknownHand := by
  unfold ce9
  rw [if_neg (by decide +kernel), if_neg (by decide +kernel), if_pos rfl]
theorem ce9_UnknownItem (CInvalidHands CInvalidLog CUnknownHand CUnknownItem CUnknownBox CUnknownSeal CInsideItself : Addr) : ce9 CInvalidHands CInvalidLog CUnknownHand CUnknownItem CUnknownBox CUnknownSeal CInsideItself "UnknownItem" = CUnknownItem := by
  unfold ce9
  rw [if_neg (by decide +kernel), if_neg (by decide +kernel), if_neg (by decide +kernel), if_pos rfl]
theorem ce9_UnknownBox (CInvalidHands CInvalidLog CUnknownHand CUnknownItem CUnknownBox CUnknownSeal CInsideItself : Addr) : ce9 CInvalidHands CInvalidLog CUnknownHand CUnknownItem CUnknownBox CUnknownSeal CInsideItself "UnknownBox" = CUnknownBox := by
  unfold ce9
  rw [if_neg (by decide +kernel), if_neg (by decide +kernel), if_neg (by decide +kernel), if_neg (by decide +kernel), if_pos rfl]
theorem ce9_UnknownSeal (CInvalidHands CInvalidLog CUnknownHand CUnknownItem CUnknownBox CUnknownSeal CInsideItself : Addr) : ce9 CInvalidHands CInvalidLog CUnknownHand CUnknownItem CUnknownBox CUnknownSeal CInsideItself "UnknownSeal" = CUnknownSeal := by
  unfold ce9
  rw [if_neg (by decide +kernel), if_neg (by decide +kernel), if_neg (by decide +kernel), if_neg (by decide +kernel), if_neg (by decide +kernel), if_pos rfl]
theorem ce9_InsideItself (CInvalidHands CInvalidLog CUnknownHand CUnknownItem CUnknownBox CUnknownSeal CInsideItself : Addr) : ce9 CInvalidHands CInvalidLog CUnknownHand CUnknownItem CUnknownBox CUnknownSeal CInsideItself "InsideItself" = CInsideItself := by
  unfold ce9
  rw [if_neg (by decide +kernel), if_neg (by decide +kernel), if_neg (by decide +kernel), if_neg (by decide +kernel), if_neg (by decide +kernel), if_neg (by decide +kernel)]
theorem all_mk {l : PySem.W.OpenLaw} {w : World} {K : PySem.W.Frag} {h : Heap} {mg : Str → Option Value} {fa : Addr} (X : K.In h) (G : h.Ns mainGlobals mg) (hfa : mg "law" = some (.ref fa))
    {C CL CT aD : Addr}
    {CInsideItself : Addr}
    {CInvalidCourse : Addr}
    {CInvalidHands : Addr}
    {CInvalidHouse : Addr}
    {CInvalidLog : Addr}
    {CInvalidNumber : Addr}
    {CIsSealed : Addr}
    {CNoCourse : Addr}
    {CNotHeld : Addr}
    {CNotInside : Addr}
    {CNotSealed : Addr}
    {CUnknownBox : Addr}
    {CUnknownHand : Addr}
    {CUnknownItem : Addr}
    {CUnknownSeal : Addr}
    {fm0 : Addr} {ocm0 kVm0 dcm0 pmm0 cdm0 ctm0 : Value} {odm0 anm0 : Option Addr} {slm0 : Array (Option Value)}
    {fm1 : Addr} {ocm1 kVm1 dcm1 pmm1 cdm1 ctm1 : Value} {odm1 anm1 : Option Addr} {slm1 : Array (Option Value)}
    {fm2 : Addr} {ocm2 kVm2 dcm2 pmm2 cdm2 ctm2 : Value} {odm2 anm2 : Option Addr} {slm2 : Array (Option Value)}
    {fm3 : Addr} {ocm3 kVm3 dcm3 pmm3 cdm3 ctm3 : Value} {odm3 anm3 : Option Addr} {slm3 : Array (Option Value)}
    {fm4 : Addr} {ocm4 kVm4 dcm4 pmm4 cdm4 ctm4 : Value} {odm4 anm4 : Option Addr} {slm4 : Array (Option Value)}
    {fm5 : Addr} {ocm5 kVm5 dcm5 pmm5 cdm5 ctm5 : Value} {odm5 anm5 : Option Addr} {slm5 : Array (Option Value)}
    {fm6 : Addr} {ocm6 kVm6 dcm6 pmm6 cdm6 ctm6 : Value} {odm6 anm6 : Option Addr} {slm6 : Array (Option Value)}
    {fm7 : Addr} {ocm7 kVm7 dcm7 pmm7 cdm7 ctm7 : Value} {odm7 anm7 : Option Addr} {slm7 : Array (Option Value)}
    {fm8 : Addr} {ocm8 kVm8 dcm8 pmm8 cdm8 ctm8 : Value} {odm8 anm8 : Option Addr} {slm8 : Array (Option Value)}
    {fm9 : Addr} {ocm9 kVm9 dcm9 pmm9 cdm9 ctm9 : Value} {odm9 anm9 : Option Addr} {slm9 : Array (Option Value)}
    {fm10 : Addr} {ocm10 kVm10 dcm10 pmm10 cdm10 ctm10 : Value} {odm10 anm10 : Option Addr} {slm10 : Array (Option Value)}
    {fm11 : Addr} {ocm11 kVm11 dcm11 pmm11 cdm11 ctm11 : Value} {odm11 anm11 : Option Addr} {slm11 : Array (Option Value)}
    {fm12 : Addr} {ocm12 kVm12 dcm12 pmm12 cdm12 ctm12 : Value} {odm12 anm12 : Option Addr} {slm12 : Array (Option Value)}
    {fm13 : Addr} {ocm13 kVm13 dcm13 pmm13 cdm13 ctm13 : Value} {odm13 anm13 : Option Addr} {slm13 : Array (Option Value)}
    {fm14 : Addr} {ocm14 kVm14 dcm14 pmm14 cdm14 ctm14 : Value} {odm14 anm14 : Option Addr} {slm14 : Array (Option Value)}
    {fm15 : Addr} {ocm15 kVm15 dcm15 pmm15 cdm15 ctm15 : Value} {odm15 anm15 : Option Addr} {slm15 : Array (Option Value)}
    {fm16 : Addr} {ocm16 kVm16 dcm16 pmm16 cdm16 ctm16 : Value} {odm16 anm16 : Option Addr} {slm16 : Array (Option Value)}
    {fm17 : Addr} {ocm17 kVm17 dcm17 pmm17 cdm17 ctm17 : Value} {odm17 anm17 : Option Addr} {slm17 : Array (Option Value)}
    {fm18 : Addr} {ocm18 kVm18 dcm18 pmm18 cdm18 ctm18 : Value} {odm18 anm18 : Option Addr} {slm18 : Array (Option Value)}
    {fm19 : Addr} {ocm19 kVm19 dcm19 pmm19 cdm19 ctm19 : Value} {odm19 anm19 : Option Addr} {slm19 : Array (Option Value)}
    {fm20 : Addr} {ocm20 kVm20 dcm20 pmm20 cdm20 ctm20 : Value} {odm20 anm20 : Option Addr} {slm20 : Array (Option Value)}
    {fm21 : Addr} {ocm21 kVm21 dcm21 pmm21 cdm21 ctm21 : Value} {odm21 anm21 : Option Addr} {slm21 : Array (Option Value)}
    {fm22 : Addr} {ocm22 kVm22 dcm22 pmm22 cdm22 ctm22 : Value} {odm22 anm22 : Option Addr} {slm22 : Array (Option Value)}
    {fm23 : Addr} {ocm23 kVm23 dcm23 pmm23 cdm23 ctm23 : Value} {odm23 anm23 : Option Addr} {slm23 : Array (Option Value)}
    {fm24 : Addr} {ocm24 kVm24 dcm24 pmm24 cdm24 ctm24 : Value} {odm24 anm24 : Option Addr} {slm24 : Array (Option Value)}
    {fm25 : Addr} {ocm25 kVm25 dcm25 pmm25 cdm25 ctm25 : Value} {odm25 anm25 : Option Addr} {slm25 : Array (Option Value)}
    {fm26 : Addr} {ocm26 kVm26 dcm26 pmm26 cdm26 ctm26 : Value} {odm26 anm26 : Option Addr} {slm26 : Array (Option Value)}
    {fm27 : Addr} {ocm27 kVm27 dcm27 pmm27 cdm27 ctm27 : Value} {odm27 anm27 : Option Addr} {slm27 : Array (Option Value)}
    {fm28 : Addr} {ocm28 kVm28 dcm28 pmm28 cdm28 ctm28 : Value} {odm28 anm28 : Option Addr} {slm28 : Array (Option Value)}
    {fm29 : Addr} {ocm29 kVm29 dcm29 pmm29 cdm29 ctm29 : Value} {odm29 anm29 : Option Addr} {slm29 : Array (Option Value)}
    {fm30 : Addr} {ocm30 kVm30 dcm30 pmm30 cdm30 ctm30 : Value} {odm30 anm30 : Option Addr} {slm30 : Array (Option Value)}
    {fm31 : Addr} {ocm31 kVm31 dcm31 pmm31 cdm31 ctm31 : Value} {odm31 anm31 : Option Addr} {slm31 : Array (Option Value)}
    {fm32 : Addr} {ocm32 kVm32 dcm32 pmm32 cdm32 ctm32 : Value} {odm32 anm32 : Option Addr} {slm32 : Array (Option Value)}
    {fm33 : Addr} {ocm33 kVm33 dcm33 pmm33 cdm33 ctm33 : Value} {odm33 anm33 : Option Addr} {slm33 : Array (Option Value)}
    {fm34 : Addr} {ocm34 kVm34 dcm34 pmm34 cdm34 ctm34 : Value} {odm34 anm34 : Option Addr} {slm34 : Array (Option Value)}
    {ft0 : Addr} {oct0 kVt0 dct0 pmt0 cdt0 ctt0 : Value} {odt0 ant0 : Option Addr} {slt0 : Array (Option Value)}
    {ft1 : Addr} {oct1 kVt1 dct1 pmt1 cdt1 ctt1 : Value} {odt1 ant1 : Option Addr} {slt1 : Array (Option Value)}
    {ft2 : Addr} {oct2 kVt2 dct2 pmt2 cdt2 ctt2 : Value} {odt2 ant2 : Option Addr} {slt2 : Array (Option Value)}
    {pI : Addr} {rI : List Value}
    {ft3 : Addr} {oct3 kVt3 dct3 pmt3 cdt3 ctt3 : Value} {odt3 ant3 : Option Addr} {slt3 : Array (Option Value)}
    {ft4 : Addr} {oct4 kVt4 dct4 pmt4 cdt4 ctt4 : Value} {odt4 ant4 : Option Addr} {slt4 : Array (Option Value)}
    {pG : Addr} {rG : List Value}
    {ft5 : Addr} {oct5 kVt5 dct5 pmt5 cdt5 ctt5 : Value} {odt5 ant5 : Option Addr} {slt5 : Array (Option Value)}
    {ft6 : Addr} {oct6 kVt6 dct6 pmt6 cdt6 ctt6 : Value} {odt6 ant6 : Option Addr} {slt6 : Array (Option Value)}
    {ft7 : Addr} {oct7 kVt7 dct7 pmt7 cdt7 ctt7 : Value} {odt7 ant7 : Option Addr} {slt7 : Array (Option Value)}
    {ft8 : Addr} {oct8 kVt8 dct8 pmt8 cdt8 ctt8 : Value} {odt8 ant8 : Option Addr} {slt8 : Array (Option Value)}
    {ft9 : Addr} {oct9 kVt9 dct9 pmt9 cdt9 ctt9 : Value} {odt9 ant9 : Option Addr} {slt9 : Array (Option Value)}
    {ft10 : Addr} {oct10 kVt10 dct10 pmt10 cdt10 ctt10 : Value} {odt10 ant10 : Option Addr} {slt10 : Array (Option Value)}
    {ft11 : Addr} {oct11 kVt11 dct11 pmt11 cdt11 ctt11 : Value} {odt11 ant11 : Option Addr} {slt11 : Array (Option Value)}
    {cdL tbL : Addr} {ocL kVL dcL pmL ctL : Value} {odL anL : Option Addr} {slL : Array (Option Value)} {fL : Addr}
    {cdR tbR : Addr} {ocR kVR dcR pmR ctR : Value} {odR anR : Option Addr} {slR : Array (Option Value)} {fR : Addr}
    {adfo : Option Value}
    {nmInvalidHouse qInvalidHouse : Str} {NInvalidHouse : Addr} {bsInvalidHouse bmInvalidHouse subInvalidHouse : List Value} {snInvalidHouse : List Str} {abInvalidHouse : Bool} {colInvalidHouse : Option Bool} {ddInvalidHouse : Option Addr} {g0InvalidHouse g1InvalidHouse g2InvalidHouse g3InvalidHouse g5InvalidHouse : Option Value}
    {fIInvalidHouse cdaInvalidHouse ccInvalidHouse : Addr} {ocIInvalidHouse kVIInvalidHouse dcIInvalidHouse pmIInvalidHouse ctIInvalidHouse : Value} {odIInvalidHouse anIInvalidHouse : Option Addr} {slIInvalidHouse : Array (Option Value)} {vsCInvalidHouse : Array Value} {filInvalidHouse : Str} {tfInvalidHouse : Tok} {cclInvalidHouse clInvalidHouse : Value} {cddInvalidHouse cldInvalidHouse : Option Addr} {ccsInvalidHouse cslInvalidHouse : Array (Option Value)}
    {nmInvalidHands qInvalidHands : Str} {NInvalidHands : Addr} {bsInvalidHands bmInvalidHands subInvalidHands : List Value} {snInvalidHands : List Str} {abInvalidHands : Bool} {colInvalidHands : Option Bool} {ddInvalidHands : Option Addr} {g0InvalidHands g1InvalidHands g2InvalidHands g3InvalidHands g5InvalidHands : Option Value}
    {fIInvalidHands cdaInvalidHands ccInvalidHands : Addr} {ocIInvalidHands kVIInvalidHands dcIInvalidHands pmIInvalidHands ctIInvalidHands : Value} {odIInvalidHands anIInvalidHands : Option Addr} {slIInvalidHands : Array (Option Value)} {vsCInvalidHands : Array Value} {filInvalidHands : Str} {tfInvalidHands : Tok} {cclInvalidHands clInvalidHands : Value} {cddInvalidHands cldInvalidHands : Option Addr} {ccsInvalidHands cslInvalidHands : Array (Option Value)}
    {nmInvalidLog qInvalidLog : Str} {NInvalidLog : Addr} {bsInvalidLog bmInvalidLog subInvalidLog : List Value} {snInvalidLog : List Str} {abInvalidLog : Bool} {colInvalidLog : Option Bool} {ddInvalidLog : Option Addr} {g0InvalidLog g1InvalidLog g2InvalidLog g3InvalidLog g5InvalidLog : Option Value}
    {fIInvalidLog cdaInvalidLog ccInvalidLog : Addr} {ocIInvalidLog kVIInvalidLog dcIInvalidLog pmIInvalidLog ctIInvalidLog : Value} {odIInvalidLog anIInvalidLog : Option Addr} {slIInvalidLog : Array (Option Value)} {vsCInvalidLog : Array Value} {filInvalidLog : Str} {tfInvalidLog : Tok} {cclInvalidLog clInvalidLog : Value} {cddInvalidLog cldInvalidLog : Option Addr} {ccsInvalidLog cslInvalidLog : Array (Option Value)}
    {th tbx tth ts trw : Tok}
    {odD : Option Addr} {itD : Array Value} {nD : Nat} {slD : Array (Option Value)}
    (aC : PySem.W.nsIn K mainGlobals "House" = some (some (.ref C)))
    (aCL : PySem.W.nsIn K mainGlobals "Log" = some (some (.ref CL)))
    (aCT : PySem.W.nsIn K mainGlobals "WatchError" = some (some (.ref CT)))
    (nInsideItself : PySem.W.nsIn K mainGlobals "InsideItself" = some (some (.ref CInsideItself)))
    (nInvalidCourse : PySem.W.nsIn K mainGlobals "InvalidCourse" = some (some (.ref CInvalidCourse)))
    (nInvalidHands : PySem.W.nsIn K mainGlobals "InvalidHands" = some (some (.ref CInvalidHands)))
    (nInvalidHouse : PySem.W.nsIn K mainGlobals "InvalidHouse" = some (some (.ref CInvalidHouse)))
    (nInvalidLog : PySem.W.nsIn K mainGlobals "InvalidLog" = some (some (.ref CInvalidLog)))
    (nInvalidNumber : PySem.W.nsIn K mainGlobals "InvalidNumber" = some (some (.ref CInvalidNumber)))
    (nIsSealed : PySem.W.nsIn K mainGlobals "IsSealed" = some (some (.ref CIsSealed)))
    (nNoCourse : PySem.W.nsIn K mainGlobals "NoCourse" = some (some (.ref CNoCourse)))
    (nNotHeld : PySem.W.nsIn K mainGlobals "NotHeld" = some (some (.ref CNotHeld)))
    (nNotInside : PySem.W.nsIn K mainGlobals "NotInside" = some (some (.ref CNotInside)))
    (nNotSealed : PySem.W.nsIn K mainGlobals "NotSealed" = some (some (.ref CNotSealed)))
    (nUnknownBox : PySem.W.nsIn K mainGlobals "UnknownBox" = some (some (.ref CUnknownBox)))
    (nUnknownHand : PySem.W.nsIn K mainGlobals "UnknownHand" = some (some (.ref CUnknownHand)))
    (nUnknownItem : PySem.W.nsIn K mainGlobals "UnknownItem" = some (some (.ref CUnknownItem)))
    (nUnknownSeal : PySem.W.nsIn K mainGlobals "UnknownSeal" = some (some (.ref CUnknownSeal)))
    (am0 : PySem.W.nsIn K mainGlobals "is_number" = some (some (.ref fm0)))
    (lm0 : K.lookup fm0 = some ⟨ocm0, odm0, .func (PySem.W.fnOf "is_number" "is_number" (defArgs sNum) (defBody sNum) (defScope sNum) .none kVm0 dcm0 pmm0 anm0 cdm0 ctm0), slm0⟩)
    (cm0 : PySem.W.codeIn K cdm0 "is_number" = true)
    (km0 : PySem.W.keepIn K (.ref fm0) = true)
    (am1 : PySem.W.nsIn K mainGlobals "how_many" = some (some (.ref fm1)))
    (lm1 : K.lookup fm1 = some ⟨ocm1, odm1, .func (PySem.W.fnOf "how_many" "how_many" (defArgs sMany) (defBody sMany) (defScope sMany) .none kVm1 dcm1 pmm1 anm1 cdm1 ctm1), slm1⟩)
    (cm1 : PySem.W.codeIn K cdm1 "how_many" = true)
    (km1 : PySem.W.keepIn K (.ref fm1) = true)
    (am2 : PySem.W.nsIn K mainGlobals "is_place" = some (some (.ref fm2)))
    (lm2 : K.lookup fm2 = some ⟨ocm2, odm2, .func (PySem.W.fnOf "is_place" "is_place" (defArgs sIsPl) (defBody sIsPl) (defScope sIsPl) .none kVm2 dcm2 pmm2 anm2 cdm2 ctm2), slm2⟩)
    (cm2 : PySem.W.codeIn K cdm2 "is_place" = true)
    (km2 : PySem.W.keepIn K (.ref fm2) = true)
    (am3 : PySem.W.nsIn K mainGlobals "need_boxes" = some (some (.ref fm3)))
    (lm3 : K.lookup fm3 = some ⟨ocm3, odm3, .func (PySem.W.fnOf "need_boxes" "need_boxes" (defArgs sBoxes) (defBody sBoxes) (defScope sBoxes) .none kVm3 dcm3 pmm3 anm3 cdm3 ctm3), slm3⟩)
    (cm3 : PySem.W.codeIn K cdm3 "need_boxes" = true)
    (km3 : PySem.W.keepIn K (.ref fm3) = true)
    (am4 : PySem.W.nsIn K mainGlobals "need_house" = some (some (.ref fm4)))
    (lm4 : K.lookup fm4 = some ⟨ocm4, odm4, .func (PySem.W.fnOf "need_house" "need_house" (defArgs sNeed) (defBody sNeed) (defScope sNeed) .none kVm4 dcm4 pmm4 anm4 cdm4 ctm4), slm4⟩)
    (cm4 : PySem.W.codeIn K cdm4 "need_house" = true)
    (km4 : PySem.W.keepIn K (.ref fm4) = true)
    (am5 : PySem.W.nsIn K mainGlobals "_law_begun" = some (some (.ref fm5)))
    (lm5 : K.lookup fm5 = some ⟨ocm5, odm5, .func (PySem.W.fnOf "_law_begun" "_law_begun" (defArgs sBegun) (defBody sBegun) (defScope sBegun) .none kVm5 dcm5 pmm5 anm5 cdm5 ctm5), slm5⟩)
    (cm5 : PySem.W.codeIn K cdm5 "_law_begun" = true)
    (km5 : PySem.W.keepIn K (.ref fm5) = true)
    (am6 : PySem.W.nsIn K mainGlobals "_law_take" = some (some (.ref fm6)))
    (lm6 : K.lookup fm6 = some ⟨ocm6, odm6, .func (PySem.W.fnOf "_law_take" "_law_take" (defArgs sTake) (defBody sTake) (defScope sTake) .none kVm6 dcm6 pmm6 anm6 cdm6 ctm6), slm6⟩)
    (cm6 : PySem.W.codeIn K cdm6 "_law_take" = true)
    (km6 : PySem.W.keepIn K (.ref fm6) = true)
    (am7 : PySem.W.nsIn K mainGlobals "_law_alike" = some (some (.ref fm7)))
    (lm7 : K.lookup fm7 = some ⟨ocm7, odm7, .func (PySem.W.fnOf "_law_alike" "_law_alike" (defArgs sAlike) (defBody sAlike) (defScope sAlike) .none kVm7 dcm7 pmm7 anm7 cdm7 ctm7), slm7⟩)
    (cm7 : PySem.W.codeIn K cdm7 "_law_alike" = true)
    (km7 : PySem.W.keepIn K (.ref fm7) = true)
    (am8 : PySem.W.nsIn K mainGlobals "_law_places" = some (some (.ref fm8)))
    (lm8 : K.lookup fm8 = some ⟨ocm8, odm8, .func (PySem.W.fnOf "_law_places" "_law_places" (defArgs sPlaces) (defBody sPlaces) (defScope sPlaces) .none kVm8 dcm8 pmm8 anm8 cdm8 ctm8), slm8⟩)
    (cm8 : PySem.W.codeIn K cdm8 "_law_places" = true)
    (km8 : PySem.W.keepIn K (.ref fm8) = true)
    (am9 : PySem.W.nsIn K mainGlobals "_law_house" = some (some (.ref fm9)))
    (lm9 : K.lookup fm9 = some ⟨ocm9, odm9, .func (PySem.W.fnOf "_law_house" "_law_house" (defArgs sHouse) (defBody sHouse) (defScope sHouse) .none kVm9 dcm9 pmm9 anm9 cdm9 ctm9), slm9⟩)
    (cm9 : PySem.W.codeIn K cdm9 "_law_house" = true)
    (km9 : PySem.W.keepIn K (.ref fm9) = true)
    (am10 : PySem.W.nsIn K mainGlobals "_law_error" = some (some (.ref fm10)))
    (lm10 : K.lookup fm10 = some ⟨ocm10, odm10, .func (PySem.W.fnOf "_law_error" "_law_error" (defArgs sErr) (defBody sErr) (defScope sErr) .none kVm10 dcm10 pmm10 anm10 cdm10 ctm10), slm10⟩)
    (cm10 : PySem.W.codeIn K cdm10 "_law_error" = true)
    (km10 : PySem.W.keepIn K (.ref fm10) = true)
    (am11 : PySem.W.nsIn K mainGlobals "_law_where" = some (some (.ref fm11)))
    (lm11 : K.lookup fm11 = some ⟨ocm11, odm11, .func (PySem.W.fnOf "_law_where" "_law_where" (defArgs sWhere) (defBody sWhere) (defScope sWhere) .none kVm11 dcm11 pmm11 anm11 cdm11 ctm11), slm11⟩)
    (cm11 : PySem.W.codeIn K cdm11 "_law_where" = true)
    (km11 : PySem.W.keepIn K (.ref fm11) = true)
    (am12 : PySem.W.nsIn K mainGlobals "_law_set" = some (some (.ref fm12)))
    (lm12 : K.lookup fm12 = some ⟨ocm12, odm12, .func (PySem.W.fnOf "_law_set" "_law_set" (defArgs sSet) (defBody sSet) (defScope sSet) .none kVm12 dcm12 pmm12 anm12 cdm12 ctm12), slm12⟩)
    (cm12 : PySem.W.codeIn K cdm12 "_law_set" = true)
    (km12 : PySem.W.keepIn K (.ref fm12) = true)
    (am13 : PySem.W.nsIn K mainGlobals "_law_bar" = some (some (.ref fm13)))
    (lm13 : K.lookup fm13 = some ⟨ocm13, odm13, .func (PySem.W.fnOf "_law_bar" "_law_bar" (defArgs sBar) (defBody sBar) (defScope sBar) .none kVm13 dcm13 pmm13 anm13 cdm13 ctm13), slm13⟩)
    (cm13 : PySem.W.codeIn K cdm13 "_law_bar" = true)
    (km13 : PySem.W.keepIn K (.ref fm13) = true)
    (am14 : PySem.W.nsIn K mainGlobals "_law_next" = some (some (.ref fm14)))
    (lm14 : K.lookup fm14 = some ⟨ocm14, odm14, .func (PySem.W.fnOf "_law_next" "_law_next" (defArgs sNext) (defBody sNext) (defScope sNext) .none kVm14 dcm14 pmm14 anm14 cdm14 ctm14), slm14⟩)
    (cm14 : PySem.W.codeIn K cdm14 "_law_next" = true)
    (km14 : PySem.W.keepIn K (.ref fm14) = true)
    (am15 : PySem.W.nsIn K mainGlobals "_law_deeds" = some (some (.ref fm15)))
    (lm15 : K.lookup fm15 = some ⟨ocm15, odm15, .func (PySem.W.fnOf "_law_deeds" "_law_deeds" (defArgs sDeeds) (defBody sDeeds) (defScope sDeeds) .none kVm15 dcm15 pmm15 anm15 cdm15 ctm15), slm15⟩)
    (cm15 : PySem.W.codeIn K cdm15 "_law_deeds" = true)
    (km15 : PySem.W.keepIn K (.ref fm15) = true)
    (am16 : PySem.W.nsIn K mainGlobals "_law_inside" = some (some (.ref fm16)))
    (lm16 : K.lookup fm16 = some ⟨ocm16, odm16, .func (PySem.W.fnOf "_law_inside" "_law_inside" (defArgs sInside) (defBody sInside) (defScope sInside) .none kVm16 dcm16 pmm16 anm16 cdm16 ctm16), slm16⟩)
    (cm16 : PySem.W.codeIn K cdm16 "_law_inside" = true)
    (km16 : PySem.W.keepIn K (.ref fm16) = true)
    (am17 : PySem.W.nsIn K mainGlobals "_law_is" = some (some (.ref fm17)))
    (lm17 : K.lookup fm17 = some ⟨ocm17, odm17, .func (PySem.W.fnOf "_law_is" "_law_is" (defArgs sIs) (defBody sIs) (defScope sIs) .none kVm17 dcm17 pmm17 anm17 cdm17 ctm17), slm17⟩)
    (cm17 : PySem.W.codeIn K cdm17 "_law_is" = true)
    (km17 : PySem.W.keepIn K (.ref fm17) = true)
    (am18 : PySem.W.nsIn K mainGlobals "_law_sight" = some (some (.ref fm18)))
    (lm18 : K.lookup fm18 = some ⟨ocm18, odm18, .func (PySem.W.fnOf "_law_sight" "_law_sight" (defArgs sSight) (defBody sSight) (defScope sSight) .none kVm18 dcm18 pmm18 anm18 cdm18 ctm18), slm18⟩)
    (cm18 : PySem.W.codeIn K cdm18 "_law_sight" = true)
    (km18 : PySem.W.keepIn K (.ref fm18) = true)
    (am19 : PySem.W.nsIn K mainGlobals "_law_hands" = some (some (.ref fm19)))
    (lm19 : K.lookup fm19 = some ⟨ocm19, odm19, .func (PySem.W.fnOf "_law_hands" "_law_hands" (defArgs sHands) (defBody sHands) (defScope sHands) .none kVm19 dcm19 pmm19 anm19 cdm19 ctm19), slm19⟩)
    (cm19 : PySem.W.codeIn K cdm19 "_law_hands" = true)
    (km19 : PySem.W.keepIn K (.ref fm19) = true)
    (am20 : PySem.W.nsIn K mainGlobals "_law_story" = some (some (.ref fm20)))
    (lm20 : K.lookup fm20 = some ⟨ocm20, odm20, .func (PySem.W.fnOf "_law_story" "_law_story" (defArgs sStory) (defBody sStory) (defScope sStory) .none kVm20 dcm20 pmm20 anm20 cdm20 ctm20), slm20⟩)
    (cm20 : PySem.W.codeIn K cdm20 "_law_story" = true)
    (km20 : PySem.W.keepIn K (.ref fm20) = true)
    (am21 : PySem.W.nsIn K mainGlobals "_law_log" = some (some (.ref fm21)))
    (lm21 : K.lookup fm21 = some ⟨ocm21, odm21, .func (PySem.W.fnOf "_law_log" "_law_log" (defArgs sLLog) (defBody sLLog) (defScope sLLog) .none kVm21 dcm21 pmm21 anm21 cdm21 ctm21), slm21⟩)
    (cm21 : PySem.W.codeIn K cdm21 "_law_log" = true)
    (km21 : PySem.W.keepIn K (.ref fm21) = true)
    (am22 : PySem.W.nsIn K mainGlobals "need_hand" = some (some (.ref fm22)))
    (lm22 : K.lookup fm22 = some ⟨ocm22, odm22, .func (PySem.W.fnOf "need_hand" "need_hand" (defArgs sNHand) (defBody sNHand) (defScope sNHand) .none kVm22 dcm22 pmm22 anm22 cdm22 ctm22), slm22⟩)
    (cm22 : PySem.W.codeIn K cdm22 "need_hand" = true)
    (km22 : PySem.W.keepIn K (.ref fm22) = true)
    (am23 : PySem.W.nsIn K mainGlobals "need_item" = some (some (.ref fm23)))
    (lm23 : K.lookup fm23 = some ⟨ocm23, odm23, .func (PySem.W.fnOf "need_item" "need_item" (defArgs sNItem) (defBody sNItem) (defScope sNItem) .none kVm23 dcm23 pmm23 anm23 cdm23 ctm23), slm23⟩)
    (cm23 : PySem.W.codeIn K cdm23 "need_item" = true)
    (km23 : PySem.W.keepIn K (.ref fm23) = true)
    (am24 : PySem.W.nsIn K mainGlobals "need_load" = some (some (.ref fm24)))
    (lm24 : K.lookup fm24 = some ⟨ocm24, odm24, .func (PySem.W.fnOf "need_load" "need_load" (defArgs sNLoad) (defBody sNLoad) (defScope sNLoad) .none kVm24 dcm24 pmm24 anm24 cdm24 ctm24), slm24⟩)
    (cm24 : PySem.W.codeIn K cdm24 "need_load" = true)
    (km24 : PySem.W.keepIn K (.ref fm24) = true)
    (am25 : PySem.W.nsIn K mainGlobals "need_box" = some (some (.ref fm25)))
    (lm25 : K.lookup fm25 = some ⟨ocm25, odm25, .func (PySem.W.fnOf "need_box" "need_box" (defArgs sNBox) (defBody sNBox) (defScope sNBox) .none kVm25 dcm25 pmm25 anm25 cdm25 ctm25), slm25⟩)
    (cm25 : PySem.W.codeIn K cdm25 "need_box" = true)
    (km25 : PySem.W.keepIn K (.ref fm25) = true)
    (am26 : PySem.W.nsIn K mainGlobals "need_seal" = some (some (.ref fm26)))
    (lm26 : K.lookup fm26 = some ⟨ocm26, odm26, .func (PySem.W.fnOf "need_seal" "need_seal" (defArgs sNSeal) (defBody sNSeal) (defScope sNSeal) .none kVm26 dcm26 pmm26 anm26 cdm26 ctm26), slm26⟩)
    (cm26 : PySem.W.codeIn K cdm26 "need_seal" = true)
    (km26 : PySem.W.keepIn K (.ref fm26) = true)
    (am27 : PySem.W.nsIn K mainGlobals "need_place" = some (some (.ref fm27)))
    (lm27 : K.lookup fm27 = some ⟨ocm27, odm27, .func (PySem.W.fnOf "need_place" "need_place" (defArgs sNPlace) (defBody sNPlace) (defScope sNPlace) .none kVm27 dcm27 pmm27 anm27 cdm27 ctm27), slm27⟩)
    (cm27 : PySem.W.codeIn K cdm27 "need_place" = true)
    (km27 : PySem.W.keepIn K (.ref fm27) = true)
    (am28 : PySem.W.nsIn K mainGlobals "need_sight" = some (some (.ref fm28)))
    (lm28 : K.lookup fm28 = some ⟨ocm28, odm28, .func (PySem.W.fnOf "need_sight" "need_sight" (defArgs sNSight) (defBody sNSight) (defScope sNSight) .none kVm28 dcm28 pmm28 anm28 cdm28 ctm28), slm28⟩)
    (cm28 : PySem.W.codeIn K cdm28 "need_sight" = true)
    (km28 : PySem.W.keepIn K (.ref fm28) = true)
    (am29 : PySem.W.nsIn K mainGlobals "need_loads" = some (some (.ref fm29)))
    (lm29 : K.lookup fm29 = some ⟨ocm29, odm29, .func (PySem.W.fnOf "need_loads" "need_loads" (defArgs sNLoads) (defBody sNLoads) (defScope sNLoads) .none kVm29 dcm29 pmm29 anm29 cdm29 ctm29), slm29⟩)
    (cm29 : PySem.W.codeIn K cdm29 "need_loads" = true)
    (km29 : PySem.W.keepIn K (.ref fm29) = true)
    (am30 : PySem.W.nsIn K mainGlobals "need_move" = some (some (.ref fm30)))
    (lm30 : K.lookup fm30 = some ⟨ocm30, odm30, .func (PySem.W.fnOf "need_move" "need_move" (defArgs sNMove) (defBody sNMove) (defScope sNMove) .none kVm30 dcm30 pmm30 anm30 cdm30 ctm30), slm30⟩)
    (cm30 : PySem.W.codeIn K cdm30 "need_move" = true)
    (km30 : PySem.W.keepIn K (.ref fm30) = true)
    (am31 : PySem.W.nsIn K mainGlobals "need_deed" = some (some (.ref fm31)))
    (lm31 : K.lookup fm31 = some ⟨ocm31, odm31, .func (PySem.W.fnOf "need_deed" "need_deed" (defArgs sNDeed) (defBody sNDeed) (defScope sNDeed) .none kVm31 dcm31 pmm31 anm31 cdm31 ctm31), slm31⟩)
    (cm31 : PySem.W.codeIn K cdm31 "need_deed" = true)
    (km31 : PySem.W.keepIn K (.ref fm31) = true)
    (am32 : PySem.W.nsIn K mainGlobals "need_hands" = some (some (.ref fm32)))
    (lm32 : K.lookup fm32 = some ⟨ocm32, odm32, .func (PySem.W.fnOf "need_hands" "need_hands" (defArgs sNHands) (defBody sNHands) (defScope sNHands) .none kVm32 dcm32 pmm32 anm32 cdm32 ctm32), slm32⟩)
    (cm32 : PySem.W.codeIn K cdm32 "need_hands" = true)
    (km32 : PySem.W.keepIn K (.ref fm32) = true)
    (am33 : PySem.W.nsIn K mainGlobals "need_row" = some (some (.ref fm33)))
    (lm33 : K.lookup fm33 = some ⟨ocm33, odm33, .func (PySem.W.fnOf "need_row" "need_row" (defArgs sNRow) (defBody sNRow) (defScope sNRow) .none kVm33 dcm33 pmm33 anm33 cdm33 ctm33), slm33⟩)
    (cm33 : PySem.W.codeIn K cdm33 "need_row" = true)
    (km33 : PySem.W.keepIn K (.ref fm33) = true)
    (am34 : PySem.W.nsIn K mainGlobals "need_rows" = some (some (.ref fm34)))
    (lm34 : K.lookup fm34 = some ⟨ocm34, odm34, .func (PySem.W.fnOf "need_rows" "need_rows" (defArgs sNRows) (defBody sNRows) (defScope sNRows) .none kVm34 dcm34 pmm34 anm34 cdm34 ctm34), slm34⟩)
    (cm34 : PySem.W.codeIn K cdm34 "need_rows" = true)
    (km34 : PySem.W.keepIn K (.ref fm34) = true)
    (at0 : PySem.W.findIn K (.ref C) "__init__" = some (some (.ref ft0)))
    (lt0 : K.lookup ft0 = some ⟨oct0, odt0, .func (PySem.W.fnOf "__init__" "House.__init__" (defArgs sInit) (defBody sInit) (defScope sInit) .none kVt0 dct0 pmt0 ant0 cdt0 ctt0), slt0⟩)
    (ct0 : PySem.W.codeIn K cdt0 "House.__init__" = true)
    (kt0 : PySem.W.keepIn K (.ref ft0) = true)
    (i0 : PySem.W.isFn K (.ref ft0) = true)
    (at1 : PySem.W.findIn K (.ref C) "__contains__" = some (some (.ref ft1)))
    (lt1 : K.lookup ft1 = some ⟨oct1, odt1, .func (PySem.W.fnOf "__contains__" "House.__contains__" (defArgs sHas) (defBody sHas) (defScope sHas) .none kVt1 dct1 pmt1 ant1 cdt1 ctt1), slt1⟩)
    (ct1 : PySem.W.codeIn K cdt1 "House.__contains__" = true)
    (kt1 : PySem.W.keepIn K (.ref ft1) = true)
    (i1 : PySem.W.isFn K (.ref ft1) = true)
    (at2 : PySem.W.findIn K (.ref C) "__eq__" = some (some (.ref ft2)))
    (lt2 : K.lookup ft2 = some ⟨oct2, odt2, .func (PySem.W.fnOf "__eq__" "House.__eq__" (defArgs sEqH) (defBody sEqH) (defScope sEqH) .none kVt2 dct2 pmt2 ant2 cdt2 ctt2), slt2⟩)
    (ct2 : PySem.W.codeIn K cdt2 "House.__eq__" = true)
    (kt2 : PySem.W.keepIn K (.ref ft2) = true)
    (i2 : PySem.W.isFn K (.ref ft2) = true)
    (ppaI : PySem.W.findIn K (.ref C) "all_items" = some (some (.ref pI)))
    (at3 : PySem.W.recIn K pI "property" = some (.ref ft3 :: rI))
    (lt3 : K.lookup ft3 = some ⟨oct3, odt3, .func (PySem.W.fnOf "all_items" "House.all_items" (defArgs sItems) (defBody sItems) (defScope sItems) .none kVt3 dct3 pmt3 ant3 cdt3 ctt3), slt3⟩)
    (ct3 : PySem.W.codeIn K cdt3 "House.all_items" = true)
    (kt3 : PySem.W.keepIn K (.ref ft3) = true)
    (ppgI : PySem.W.specialIn K (.ref pI) "__get__" = some (some (.builtin "property.__get__")))
    (pptI : PySem.W.takesIn K (.ref pI) = some true)
    (at4 : PySem.W.findIn K (.ref CL) "__init__" = some (some (.ref ft4)))
    (lt4 : K.lookup ft4 = some ⟨oct4, odt4, .func (PySem.W.fnOf "__init__" "Log.__init__" (defArgs sLInit) (defBody sLInit) (defScope sLInit) .none kVt4 dct4 pmt4 ant4 cdt4 ctt4), slt4⟩)
    (ct4 : PySem.W.codeIn K cdt4 "Log.__init__" = true)
    (kt4 : PySem.W.keepIn K (.ref ft4) = true)
    (i4 : PySem.W.isFn K (.ref ft4) = true)
    (ppaG : PySem.W.findIn K (.ref CL) "gaps" = some (some (.ref pG)))
    (at5 : PySem.W.recIn K pG "property" = some (.ref ft5 :: rG))
    (lt5 : K.lookup ft5 = some ⟨oct5, odt5, .func (PySem.W.fnOf "gaps" "Log.gaps" (defArgs sLGaps) (defBody sLGaps) (defScope sLGaps) .none kVt5 dct5 pmt5 ant5 cdt5 ctt5), slt5⟩)
    (ct5 : PySem.W.codeIn K cdt5 "Log.gaps" = true)
    (kt5 : PySem.W.keepIn K (.ref ft5) = true)
    (ppgG : PySem.W.specialIn K (.ref pG) "__get__" = some (some (.builtin "property.__get__")))
    (pptG : PySem.W.takesIn K (.ref pG) = some true)
    (at6 : PySem.W.findIn K (.ref CL) "__len__" = some (some (.ref ft6)))
    (lt6 : K.lookup ft6 = some ⟨oct6, odt6, .func (PySem.W.fnOf "__len__" "Log.__len__" (defArgs sLLen) (defBody sLLen) (defScope sLLen) .none kVt6 dct6 pmt6 ant6 cdt6 ctt6), slt6⟩)
    (ct6 : PySem.W.codeIn K cdt6 "Log.__len__" = true)
    (kt6 : PySem.W.keepIn K (.ref ft6) = true)
    (i6 : PySem.W.isFn K (.ref ft6) = true)
    (fi6 : PySem.W.fnIn K ft6 = true)
    (at7 : PySem.W.findIn K (.ref CL) "__getitem__" = some (some (.ref ft7)))
    (lt7 : K.lookup ft7 = some ⟨oct7, odt7, .func (PySem.W.fnOf "__getitem__" "Log.__getitem__" (defArgs sLItem) (defBody sLItem) (defScope sLItem) .none kVt7 dct7 pmt7 ant7 cdt7 ctt7), slt7⟩)
    (ct7 : PySem.W.codeIn K cdt7 "Log.__getitem__" = true)
    (kt7 : PySem.W.keepIn K (.ref ft7) = true)
    (i7 : PySem.W.isFn K (.ref ft7) = true)
    (fi7 : PySem.W.fnIn K ft7 = true)
    (at8 : PySem.W.findIn K (.ref CL) "__add__" = some (some (.ref ft8)))
    (lt8 : K.lookup ft8 = some ⟨oct8, odt8, .func (PySem.W.fnOf "__add__" "Log.__add__" (defArgs sLAdd) (defBody sLAdd) (defScope sLAdd) .none kVt8 dct8 pmt8 ant8 cdt8 ctt8), slt8⟩)
    (ct8 : PySem.W.codeIn K cdt8 "Log.__add__" = true)
    (kt8 : PySem.W.keepIn K (.ref ft8) = true)
    (i8 : PySem.W.isFn K (.ref ft8) = true)
    (at9 : PySem.W.findIn K (.ref CL) "__eq__" = some (some (.ref ft9)))
    (lt9 : K.lookup ft9 = some ⟨oct9, odt9, .func (PySem.W.fnOf "__eq__" "Log.__eq__" (defArgs sLEq) (defBody sLEq) (defScope sLEq) .none kVt9 dct9 pmt9 ant9 cdt9 ctt9), slt9⟩)
    (ct9 : PySem.W.codeIn K cdt9 "Log.__eq__" = true)
    (kt9 : PySem.W.keepIn K (.ref ft9) = true)
    (i9 : PySem.W.isFn K (.ref ft9) = true)
    (fi9 : PySem.W.fnIn K ft9 = true)
    (at10 : PySem.W.findIn K (.ref CL) "until" = some (some (.ref ft10)))
    (lt10 : K.lookup ft10 = some ⟨oct10, odt10, .func (PySem.W.fnOf "until" "Log.until" (defArgs sLUntil) (defBody sLUntil) (defScope sLUntil) .none kVt10 dct10 pmt10 ant10 cdt10 ctt10), slt10⟩)
    (ct10 : PySem.W.codeIn K cdt10 "Log.until" = true)
    (kt10 : PySem.W.keepIn K (.ref ft10) = true)
    (i10 : PySem.W.isFn K (.ref ft10) = true)
    (at11 : PySem.W.findIn K (.ref CL) "watched" = some (some (.ref ft11)))
    (lt11 : K.lookup ft11 = some ⟨oct11, odt11, .func (PySem.W.fnOf "watched" "Log.watched" (defArgs sLWatch) (defBody sLWatch) (defScope sLWatch) .none kVt11 dct11 pmt11 ant11 cdt11 ctt11), slt11⟩)
    (ct11 : PySem.W.codeIn K cdt11 "Log.watched" = true)
    (kt11 : PySem.W.keepIn K (.ref ft11) = true)
    (i11 : PySem.W.isFn K (.ref ft11) = true)
    (aL : PySem.W.nsIn K mainGlobals "law" = some (some (.ref fL)))
    (lL : K.lookup fL = some ⟨ocL, odL, .func (PySem.W.fnOf "law" "law" (defArgs sLaw) (defBody sLaw) (defScope sLaw) .none kVL dcL pmL anL (.ref cdL) ctL), slL⟩)
    (cL : PySem.W.codeIn K (.ref cdL) "law" = true)
    (hcdL : PySem.W.codeHdIn K cdL tbL = true)
    (ntbL : K.lookup tbL = none)
    (aR : PySem.W.nsIn K mainGlobals "_law_refused" = some (some (.ref fR)))
    (lR : K.lookup fR = some ⟨ocR, odR, .func (PySem.W.fnOf "_law_refused" "_law_refused" (defArgs sRef) (defBody sRef) (defScope sRef) .none kVR dcR pmR anR (.ref cdR) ctR), slR⟩)
    (cR : PySem.W.codeIn K (.ref cdR) "_law_refused" = true)
    (hcdR : PySem.W.codeHdIn K cdR tbR = true)
    (ntbR : K.lookup tbR = none)
    (kR : PySem.W.keepIn K (.ref fR) = true)
    (nab : tbR ≠ tbL)
    (chn : PySem.W.specialIn K (.builtin "object.__class__") "__get__" = some (some (.builtin "getset_descriptor.__get__")))
    (cht : PySem.W.takesIn K (.builtin "object.__class__") = some true)
    (hpg : PySem.W.plainGet K C Str.empty = true)
    (hhd : PySem.W.hasDictIn K C = true)
    (hpo : PySem.W.plainOver K C = true)
    (hsa : PySem.W.findIn K (.ref C) "__setattr__" = some (some (.builtin "object.__setattr__")))
    (hmk : PySem.W.makesIn K C = true)
    (hkc : PySem.W.keepIn K (.ref C) = true)
    (hha : PySem.W.findIn K (.ref C) "__class__" = some (some (.builtin "object.__class__")))
    (hhm : PySem.W.mroIn K C (.type "object") = some true)
    (hkk : PySem.W.kitOne K (.ref C) (.ref C) = some true)
    (gpg : PySem.W.plainGet K CL Str.empty = true)
    (ghd : PySem.W.hasDictIn K CL = true)
    (gpo : PySem.W.plainOver K CL = true)
    (gsa : PySem.W.findIn K (.ref CL) "__setattr__" = some (some (.builtin "object.__setattr__")))
    (gmk : PySem.W.makesIn K CL = true)
    (gkc : PySem.W.keepIn K (.ref CL) = true)
    (gha : PySem.W.findIn K (.ref CL) "__class__" = some (some (.builtin "object.__class__")))
    (ghm : PySem.W.mroIn K CL (.type "object") = some true)
    (gkk : PySem.W.kitOne K (.ref CL) (.ref CL) = some true)
    (nH : PySem.W.findIn K (.ref C) "hands" = some none)
    (nB : PySem.W.findIn K (.ref C) "boxes" = some none)
    (nT : PySem.W.findIn K (.ref C) "things" = some none)
    (nS : PySem.W.findIn K (.ref C) "seals" = some none)
    (nSt : PySem.W.findIn K (.ref C) "state" = some none)
    (lnH : PySem.W.findIn K (.ref CL) "house" = some none)
    (lnR : PySem.W.findIn K (.ref CL) "rows" = some none)
    (adf : PySem.W.selfFirst K CL = true)
    (adl : PySem.W.findIn K (.type "list") "__add__" = some adfo)
    (adq : (adfo.isSome && !isSeqSlot adfo) = false)
    (adr : PySem.W.findIn K (.type "list") "__radd__" = some none)
    (xtp : PySem.W.nsIn K cStatics "thirdparty.any" = some none)
    (xtop : (l.prog.main.scope.names.lookup ("super" : Str)).isSome = false)
    (xLInvalidHouse : K.lookup CInvalidHouse = some (excClassObj nmInvalidHouse qInvalidHouse CInvalidHouse NInvalidHouse bsInvalidHouse bmInvalidHouse true snInvalidHouse subInvalidHouse abInvalidHouse colInvalidHouse ddInvalidHouse g0InvalidHouse g1InvalidHouse g2InvalidHouse g3InvalidHouse g5InvalidHouse "ValueError.__new__"))
    (xvInvalidHouse : PySem.HandSPX.refsVE bmInvalidHouse = true)
    (xaInvalidHouse : PySem.W.alongIn K "__init__" ((((Value.ref CInvalidHouse :: bmInvalidHouse).dropWhile (· != .ref CInvalidHouse)).drop 1)) = some (some (.builtin "ValueError.__init__")))
    (xsaInvalidHouse : PySem.W.findIn K (.ref CInvalidHouse) "__setattr__" = some (some (.builtin "object.__setattr__")))
    (xexInvalidHouse : PySem.W.subIn K (.ref CInvalidHouse) (.type "BaseException") = some true)
    (xtyInvalidHouse : PySem.W.typeIn K (.ref CInvalidHouse) = some (.type "type"))
    (xkcInvalidHouse : PySem.W.keepIn K (.ref CInvalidHouse) = true)
    (xveInvalidHouse : PySem.W.subIn K (.ref CInvalidHouse) (.type "ValueError") = some true)
    (xseInvalidHouse : PySem.W.mroIn K CInvalidHouse (.ref CInvalidHouse) = some true)
    (xnPInvalidHouse : PySem.W.findIn K (.ref CInvalidHouse) "part" = some none)
    (xnIInvalidHouse : PySem.W.findIn K (.ref CInvalidHouse) "index" = some none)
    (xiInvalidHouse : PySem.W.findIn K (.ref CInvalidHouse) "__init__" = some (some (.ref fIInvalidHouse)))
    (xitInvalidHouse : PySem.W.typeIn K (.ref fIInvalidHouse) = some (.type "function"))
    (xilInvalidHouse : K.lookup fIInvalidHouse = some ⟨ocIInvalidHouse, odIInvalidHouse, .func (PySem.W.ksFn "__init__" "InvalidHouse.__init__" (defArgs sIH) (defBody sIH) (defScope sIH) .none kVIInvalidHouse dcIInvalidHouse pmIInvalidHouse anIInvalidHouse (.ref cdaInvalidHouse) ctIInvalidHouse ccInvalidHouse), slIInvalidHouse⟩)
    (xicInvalidHouse : PySem.W.codeIn K (.ref cdaInvalidHouse) "InvalidHouse.__init__" = true)
    (xclInvalidHouse : K.lookup cdaInvalidHouse = some ⟨cclInvalidHouse, cddInvalidHouse, .fields vsCInvalidHouse, ccsInvalidHouse⟩)
    (xcfInvalidHouse : vsCInvalidHouse[2]? = some (.str filInvalidHouse tfInvalidHouse))
    (xffInvalidHouse : ((l.prog.main.file : Str) == filInvalidHouse) = true)
    (xccInvalidHouse : K.lookup ccInvalidHouse = some ⟨clInvalidHouse, cldInvalidHouse, .cell (some (.ref CInvalidHouse)), cslInvalidHouse⟩)
    (xLInvalidHands : K.lookup CInvalidHands = some (excClassObj nmInvalidHands qInvalidHands CInvalidHands NInvalidHands bsInvalidHands bmInvalidHands true snInvalidHands subInvalidHands abInvalidHands colInvalidHands ddInvalidHands g0InvalidHands g1InvalidHands g2InvalidHands g3InvalidHands g5InvalidHands "ValueError.__new__"))
    (xvInvalidHands : PySem.HandSPX.refsVE bmInvalidHands = true)
    (xaInvalidHands : PySem.W.alongIn K "__init__" ((((Value.ref CInvalidHands :: bmInvalidHands).dropWhile (· != .ref CInvalidHands)).drop 1)) = some (some (.builtin "ValueError.__init__")))
    (xsaInvalidHands : PySem.W.findIn K (.ref CInvalidHands) "__setattr__" = some (some (.builtin "object.__setattr__")))
    (xexInvalidHands : PySem.W.subIn K (.ref CInvalidHands) (.type "BaseException") = some true)
    (xtyInvalidHands : PySem.W.typeIn K (.ref CInvalidHands) = some (.type "type"))
    (xkcInvalidHands : PySem.W.keepIn K (.ref CInvalidHands) = true)
    (xveInvalidHands : PySem.W.subIn K (.ref CInvalidHands) (.type "ValueError") = some true)
    (xseInvalidHands : PySem.W.mroIn K CInvalidHands (.ref CInvalidHands) = some true)
    (xnPInvalidHands : PySem.W.findIn K (.ref CInvalidHands) "part" = some none)
    (xnIInvalidHands : PySem.W.findIn K (.ref CInvalidHands) "index" = some none)
    (xiInvalidHands : PySem.W.findIn K (.ref CInvalidHands) "__init__" = some (some (.ref fIInvalidHands)))
    (xitInvalidHands : PySem.W.typeIn K (.ref fIInvalidHands) = some (.type "function"))
    (xilInvalidHands : K.lookup fIInvalidHands = some ⟨ocIInvalidHands, odIInvalidHands, .func (PySem.W.ksFn "__init__" "InvalidHands.__init__" (defArgs sIHands) (defBody sIHands) (defScope sIHands) .none kVIInvalidHands dcIInvalidHands pmIInvalidHands anIInvalidHands (.ref cdaInvalidHands) ctIInvalidHands ccInvalidHands), slIInvalidHands⟩)
    (xicInvalidHands : PySem.W.codeIn K (.ref cdaInvalidHands) "InvalidHands.__init__" = true)
    (xclInvalidHands : K.lookup cdaInvalidHands = some ⟨cclInvalidHands, cddInvalidHands, .fields vsCInvalidHands, ccsInvalidHands⟩)
    (xcfInvalidHands : vsCInvalidHands[2]? = some (.str filInvalidHands tfInvalidHands))
    (xffInvalidHands : ((l.prog.main.file : Str) == filInvalidHands) = true)
    (xccInvalidHands : K.lookup ccInvalidHands = some ⟨clInvalidHands, cldInvalidHands, .cell (some (.ref CInvalidHands)), cslInvalidHands⟩)
    (xLInvalidLog : K.lookup CInvalidLog = some (excClassObj nmInvalidLog qInvalidLog CInvalidLog NInvalidLog bsInvalidLog bmInvalidLog true snInvalidLog subInvalidLog abInvalidLog colInvalidLog ddInvalidLog g0InvalidLog g1InvalidLog g2InvalidLog g3InvalidLog g5InvalidLog "ValueError.__new__"))
    (xvInvalidLog : PySem.HandSPX.refsVE bmInvalidLog = true)
    (xaInvalidLog : PySem.W.alongIn K "__init__" ((((Value.ref CInvalidLog :: bmInvalidLog).dropWhile (· != .ref CInvalidLog)).drop 1)) = some (some (.builtin "ValueError.__init__")))
    (xsaInvalidLog : PySem.W.findIn K (.ref CInvalidLog) "__setattr__" = some (some (.builtin "object.__setattr__")))
    (xexInvalidLog : PySem.W.subIn K (.ref CInvalidLog) (.type "BaseException") = some true)
    (xtyInvalidLog : PySem.W.typeIn K (.ref CInvalidLog) = some (.type "type"))
    (xkcInvalidLog : PySem.W.keepIn K (.ref CInvalidLog) = true)
    (xveInvalidLog : PySem.W.subIn K (.ref CInvalidLog) (.type "ValueError") = some true)
    (xseInvalidLog : PySem.W.mroIn K CInvalidLog (.ref CInvalidLog) = some true)
    (xnPInvalidLog : PySem.W.findIn K (.ref CInvalidLog) "part" = some none)
    (xnIInvalidLog : PySem.W.findIn K (.ref CInvalidLog) "index" = some none)
    (xiInvalidLog : PySem.W.findIn K (.ref CInvalidLog) "__init__" = some (some (.ref fIInvalidLog)))
    (xitInvalidLog : PySem.W.typeIn K (.ref fIInvalidLog) = some (.type "function"))
    (xilInvalidLog : K.lookup fIInvalidLog = some ⟨ocIInvalidLog, odIInvalidLog, .func (PySem.W.ksFn "__init__" "InvalidLog.__init__" (defArgs sILog) (defBody sILog) (defScope sILog) .none kVIInvalidLog dcIInvalidLog pmIInvalidLog anIInvalidLog (.ref cdaInvalidLog) ctIInvalidLog ccInvalidLog), slIInvalidLog⟩)
    (xicInvalidLog : PySem.W.codeIn K (.ref cdaInvalidLog) "InvalidLog.__init__" = true)
    (xclInvalidLog : K.lookup cdaInvalidLog = some ⟨cclInvalidLog, cddInvalidLog, .fields vsCInvalidLog, ccsInvalidLog⟩)
    (xcfInvalidLog : vsCInvalidLog[2]? = some (.str filInvalidLog tfInvalidLog))
    (xffInvalidLog : ((l.prog.main.file : Str) == filInvalidLog) = true)
    (xccInvalidLog : K.lookup ccInvalidLog = some ⟨clInvalidLog, cldInvalidLog, .cell (some (.ref CInvalidLog)), cslInvalidLog⟩)
    (wbe : PySem.W.subIn K (.ref CT) (.type "BaseException") = some true)
    (wcl : PySem.W.hasDictIn K CT = true)
    (wty : PySem.W.typeIn K (.ref CT) = some (.type "type"))
    (egaInvalidHands : PySem.W.findIn K (.ref CInvalidHands) "__getattribute__" = some (some (.builtin "BaseException.__getattribute__")))
    (eggInvalidHands : PySem.W.findIn K (.ref CInvalidHands) "__getattr__" = some none)
    (ehdInvalidHands : PySem.W.hasDictIn K CInvalidHands = true)
    (ehaInvalidHands : PySem.W.findIn K (.ref CInvalidHands) "__class__" = some (some (.builtin "object.__class__")))
    (ehmInvalidHands : PySem.W.mroIn K CInvalidHands (.type "object") = some true)
    (ewsuInvalidHands : PySem.W.subIn K (.ref CInvalidHands) (.ref CT) = some true)
    (ekveInvalidHands : PySem.W.kitOne K (.ref CInvalidHands) (.type "ValueError") = some true)
    (qInvalidHands_InsideItself : PySem.W.kitOne K (.ref CInvalidHands) (.ref CInsideItself) = some false)
    (qInvalidHands_InvalidCourse : PySem.W.kitOne K (.ref CInvalidHands) (.ref CInvalidCourse) = some false)
    (qInvalidHands_InvalidHands : PySem.W.kitOne K (.ref CInvalidHands) (.ref CInvalidHands) = some true)
    (qInvalidHands_InvalidHouse : PySem.W.kitOne K (.ref CInvalidHands) (.ref CInvalidHouse) = some false)
    (qInvalidHands_InvalidLog : PySem.W.kitOne K (.ref CInvalidHands) (.ref CInvalidLog) = some false)
    (qInvalidHands_InvalidNumber : PySem.W.kitOne K (.ref CInvalidHands) (.ref CInvalidNumber) = some false)
    (qInvalidHands_IsSealed : PySem.W.kitOne K (.ref CInvalidHands) (.ref CIsSealed) = some false)
    (qInvalidHands_NoCourse : PySem.W.kitOne K (.ref CInvalidHands) (.ref CNoCourse) = some false)
    (qInvalidHands_NotHeld : PySem.W.kitOne K (.ref CInvalidHands) (.ref CNotHeld) = some false)
    (qInvalidHands_NotInside : PySem.W.kitOne K (.ref CInvalidHands) (.ref CNotInside) = some false)
    (qInvalidHands_NotSealed : PySem.W.kitOne K (.ref CInvalidHands) (.ref CNotSealed) = some false)
    (qInvalidHands_UnknownBox : PySem.W.kitOne K (.ref CInvalidHands) (.ref CUnknownBox) = some false)
    (qInvalidHands_UnknownHand : PySem.W.kitOne K (.ref CInvalidHands) (.ref CUnknownHand) = some false)
    (qInvalidHands_UnknownItem : PySem.W.kitOne K (.ref CInvalidHands) (.ref CUnknownItem) = some false)
    (qInvalidHands_UnknownSeal : PySem.W.kitOne K (.ref CInvalidHands) (.ref CUnknownSeal) = some false)
    (egaInvalidLog : PySem.W.findIn K (.ref CInvalidLog) "__getattribute__" = some (some (.builtin "BaseException.__getattribute__")))
    (eggInvalidLog : PySem.W.findIn K (.ref CInvalidLog) "__getattr__" = some none)
    (ehdInvalidLog : PySem.W.hasDictIn K CInvalidLog = true)
    (ehaInvalidLog : PySem.W.findIn K (.ref CInvalidLog) "__class__" = some (some (.builtin "object.__class__")))
    (ehmInvalidLog : PySem.W.mroIn K CInvalidLog (.type "object") = some true)
    (ewsuInvalidLog : PySem.W.subIn K (.ref CInvalidLog) (.ref CT) = some true)
    (ekveInvalidLog : PySem.W.kitOne K (.ref CInvalidLog) (.type "ValueError") = some true)
    (qInvalidLog_InsideItself : PySem.W.kitOne K (.ref CInvalidLog) (.ref CInsideItself) = some false)
    (qInvalidLog_InvalidCourse : PySem.W.kitOne K (.ref CInvalidLog) (.ref CInvalidCourse) = some false)
    (qInvalidLog_InvalidHands : PySem.W.kitOne K (.ref CInvalidLog) (.ref CInvalidHands) = some false)
    (qInvalidLog_InvalidHouse : PySem.W.kitOne K (.ref CInvalidLog) (.ref CInvalidHouse) = some false)
    (qInvalidLog_InvalidLog : PySem.W.kitOne K (.ref CInvalidLog) (.ref CInvalidLog) = some true)
    (qInvalidLog_InvalidNumber : PySem.W.kitOne K (.ref CInvalidLog) (.ref CInvalidNumber) = some false)
    (qInvalidLog_IsSealed : PySem.W.kitOne K (.ref CInvalidLog) (.ref CIsSealed) = some false)
    (qInvalidLog_NoCourse : PySem.W.kitOne K (.ref CInvalidLog) (.ref CNoCourse) = some false)
    (qInvalidLog_NotHeld : PySem.W.kitOne K (.ref CInvalidLog) (.ref CNotHeld) = some false)
    (qInvalidLog_NotInside : PySem.W.kitOne K (.ref CInvalidLog) (.ref CNotInside) = some false)
    (qInvalidLog_NotSealed : PySem.W.kitOne K (.ref CInvalidLog) (.ref CNotSealed) = some false)
    (qInvalidLog_UnknownBox : PySem.W.kitOne K (.ref CInvalidLog) (.ref CUnknownBox) = some false)
    (qInvalidLog_UnknownHand : PySem.W.kitOne K (.ref CInvalidLog) (.ref CUnknownHand) = some false)
    (qInvalidLog_UnknownItem : PySem.W.kitOne K (.ref CInvalidLog) (.ref CUnknownItem) = some false)
    (qInvalidLog_UnknownSeal : PySem.W.kitOne K (.ref CInvalidLog) (.ref CUnknownSeal) = some false)
    (eexUnknownHand : PySem.W.excIn K CUnknownHand [.type "ValueError", .type "Exception", .type "BaseException", .type "object"] "ValueError.__new__" = true)
    (ekpUnknownHand : PySem.W.keepIn K (.ref CUnknownHand) = true)
    (esbUnknownHand : PySem.W.subIn K (.ref CUnknownHand) (.type "BaseException") = some true)
    (etyUnknownHand : PySem.W.typeIn K (.ref CUnknownHand) = some (.type "type"))
    (ewsuUnknownHand : PySem.W.subIn K (.ref CUnknownHand) (.ref CT) = some true)
    (eexUnknownItem : PySem.W.excIn K CUnknownItem [.type "ValueError", .type "Exception", .type "BaseException", .type "object"] "ValueError.__new__" = true)
    (ekpUnknownItem : PySem.W.keepIn K (.ref CUnknownItem) = true)
    (esbUnknownItem : PySem.W.subIn K (.ref CUnknownItem) (.type "BaseException") = some true)
    (etyUnknownItem : PySem.W.typeIn K (.ref CUnknownItem) = some (.type "type"))
    (ewsuUnknownItem : PySem.W.subIn K (.ref CUnknownItem) (.ref CT) = some true)
    (eexUnknownBox : PySem.W.excIn K CUnknownBox [.type "ValueError", .type "Exception", .type "BaseException", .type "object"] "ValueError.__new__" = true)
    (ekpUnknownBox : PySem.W.keepIn K (.ref CUnknownBox) = true)
    (esbUnknownBox : PySem.W.subIn K (.ref CUnknownBox) (.type "BaseException") = some true)
    (etyUnknownBox : PySem.W.typeIn K (.ref CUnknownBox) = some (.type "type"))
    (ewsuUnknownBox : PySem.W.subIn K (.ref CUnknownBox) (.ref CT) = some true)
    (eexUnknownSeal : PySem.W.excIn K CUnknownSeal [.type "ValueError", .type "Exception", .type "BaseException", .type "object"] "ValueError.__new__" = true)
    (ekpUnknownSeal : PySem.W.keepIn K (.ref CUnknownSeal) = true)
    (esbUnknownSeal : PySem.W.subIn K (.ref CUnknownSeal) (.type "BaseException") = some true)
    (etyUnknownSeal : PySem.W.typeIn K (.ref CUnknownSeal) = some (.type "type"))
    (ewsuUnknownSeal : PySem.W.subIn K (.ref CUnknownSeal) (.ref CT) = some true)
    (eexInsideItself : PySem.W.excIn K CInsideItself [.type "ValueError", .type "Exception", .type "BaseException", .type "object"] "ValueError.__new__" = true)
    (ekpInsideItself : PySem.W.keepIn K (.ref CInsideItself) = true)
    (esbInsideItself : PySem.W.subIn K (.ref CInsideItself) (.type "BaseException") = some true)
    (etyInsideItself : PySem.W.typeIn K (.ref CInsideItself) = some (.type "type"))
    (ewsuInsideItself : PySem.W.subIn K (.ref CInsideItself) (.ref CT) = some true)
    (zisinstance : PySem.W.nsIn K mainGlobals "isinstance" = some none)
    (zint : PySem.W.nsIn K mainGlobals "int" = some none)
    (zbool : PySem.W.nsIn K mainGlobals "bool" = some none)
    (zlen : PySem.W.nsIn K mainGlobals "len" = some none)
    (zenumerate : PySem.W.nsIn K mainGlobals "enumerate" = some none)
    (ztuple : PySem.W.nsIn K mainGlobals "tuple" = some none)
    (zlist : PySem.W.nsIn K mainGlobals "list" = some none)
    (zrange : PySem.W.nsIn K mainGlobals "range" = some none)
    (zstr : PySem.W.nsIn K mainGlobals "str" = some none)
    (zValueError : PySem.W.nsIn K mainGlobals "ValueError" = some none)
    (zsuper : PySem.W.nsIn K mainGlobals "super" = some none)
    (zsorted : PySem.W.nsIn K mainGlobals "sorted" = some none)
    (zset : PySem.W.nsIn K mainGlobals "set" = some none)
    (zmax : PySem.W.nsIn K mainGlobals "max" = some none)
    (jh : PySem.W.nsIn K mainGlobals "MOST_HANDS" = some (some (.int 4 th)))
    (jb : PySem.W.nsIn K mainGlobals "MOST_BOXES" = some (some (.int 3 tbx)))
    (jt : PySem.W.nsIn K mainGlobals "MOST_THINGS" = some (some (.int 4 tth)))
    (js : PySem.W.nsIn K mainGlobals "MOST_SEALS" = some (some (.int 3 ts)))
    (jr : PySem.W.nsIn K mainGlobals "MOST_ROWS" = some (some (.int 30 trw)))
    (dA : PySem.W.nsIn K mainGlobals "DEED_WORDS" = some (some (.ref aD)))
    (dL : K.lookup aD = some ⟨.type "tuple", odD, .seq itD nD, slD⟩)
    (dS : itD.size ≤ sizeLine)
    (dV : L2.Vals [V.str ("give" : Str), .str ("put" : Str), .str ("take" : Str), .str ("seal" : Str), .str ("break" : Str)] itD.toList)
    (hTL : h.get? tbL = some { cls := .none, data := .fields #[] }) (hTR : h.get? tbR = some { cls := .none, data := .fields #[] }) : LamX.LawAtS l w K CX0 17 63 "_law_script" mg fa h := by
  have e := hfa.symm.trans (PySem.W.mg_of X G aL)
  cases e
  have B : Bt mg := ⟨PySem.W.mg_none_of X G zisinstance, PySem.W.mg_none_of X G zint, PySem.W.mg_none_of X G zbool, PySem.W.mg_none_of X G zlen, PySem.W.mg_none_of X G zenumerate, PySem.W.mg_none_of X G ztuple, PySem.W.mg_none_of X G zlist, PySem.W.mg_none_of X G zrange, PySem.W.mg_none_of X G zstr⟩
  have Z : Cs mg := ⟨⟨_, PySem.W.mg_of X G jh⟩, ⟨_, PySem.W.mg_of X G jb⟩, ⟨_, PySem.W.mg_of X G jt⟩, ⟨_, PySem.W.mg_of X G js⟩⟩
  have cl : Cls K C := ⟨hpg, hhd, hpo, hsa⟩
  have hc : HouseC K C := ⟨cl, nH, nB, nT, nS, nSt⟩
  have LC : LogC K CL := ⟨⟨gpg, ghd, gpo, gsa⟩, lnH, lnR⟩
  have IC : HouseI K C := ⟨hha, chn, cht, hhm, hkk⟩
  have IL : HouseI K CL := ⟨gha, chn, cht, ghm, gkk⟩
  have gC := PySem.W.mg_of X G aC
  have gL := PySem.W.mg_of X G aCL
  have gCE := PySem.W.mg_of X G nInvalidHouse
  have gT := PySem.W.mg_of X G aCT
  have zS := PySem.W.mg_none_of X G zsorted
  have zE := PySem.W.mg_none_of X G zset
  have zM := PySem.W.mg_none_of X G zmax
  have Fis_number := fun_mk (st := sNum) lm0 cm0 km0
  have bis_number := Fis_number.binds (ps := ["value", "limit"]) fun _ _ _ _ _ _ us hl => match us, hl with | [_, _], _ => rfl
  have gis_number := PySem.W.mg_of X G am0
  have Fhow_many := fun_mk (st := sMany) lm1 cm1 km1
  have bhow_many := Fhow_many.binds (ps := ["house", "word"]) fun _ _ _ _ _ _ us hl => match us, hl with | [_, _], _ => rfl
  have ghow_many := PySem.W.mg_of X G am1
  have Fis_place := fun_mk (st := sIsPl) lm2 cm2 km2
  have bis_place := Fis_place.binds (ps := ["place", "hands", "boxes"]) fun _ _ _ _ _ _ us hl => match us, hl with | [_, _, _], _ => rfl
  have gis_place := PySem.W.mg_of X G am2
  have Fneed_boxes := fun_mk (st := sBoxes) lm3 cm3 km3
  have bneed_boxes := Fneed_boxes.binds (ps := ["hands", "boxes"]) fun _ _ _ _ _ _ us hl => match us, hl with | [_, _], _ => rfl
  have gneed_boxes := PySem.W.mg_of X G am3
  have Fneed_house := fun_mk (st := sNeed) lm4 cm4 km4
  have bneed_house := Fneed_house.binds (ps := ["hands", "boxes", "things", "seals"]) fun _ _ _ _ _ _ us hl => match us, hl with | [_, _, _, _], _ => rfl
  have gneed_house := PySem.W.mg_of X G am4
  have F_law_begun := fun_mk (st := sBegun) lm5 cm5 km5
  have b_law_begun := F_law_begun.binds (ps := ["_law_script"]) fun _ _ _ _ _ _ us hl => match us, hl with | [_], _ => rfl
  have g_law_begun := PySem.W.mg_of X G am5
  have F_law_take := fun_mk (st := sTake) lm6 cm6 km6
  have b_law_take := F_law_take.binds (ps := ["_law_box", "_law_many"]) fun _ _ _ _ _ _ us hl => match us, hl with | [_, _], _ => rfl
  have g_law_take := PySem.W.mg_of X G am6
  have F_law_alike := fun_mk (st := sAlike) lm7 cm7 km7
  have b_law_alike := F_law_alike.binds (ps := ["_law_found", "_law_due"]) fun _ _ _ _ _ _ us hl => match us, hl with | [_, _], _ => rfl
  have g_law_alike := PySem.W.mg_of X G am7
  have F_law_places := fun_mk (st := sPlaces) lm8 cm8 km8
  have b_law_places := F_law_places.binds (ps := ["_law_box", "_law_hands_here", "_law_many"]) fun _ _ _ _ _ _ us hl => match us, hl with | [_, _, _], _ => rfl
  have g_law_places := PySem.W.mg_of X G am8
  have F_law_house := fun_mk (st := sHouse) lm9 cm9 km9
  have b_law_house := F_law_house.binds (ps := ["_law_box", "_law_sizes"]) fun _ _ _ _ _ _ us hl => match us, hl with | [_, _], _ => rfl
  have g_law_house := PySem.W.mg_of X G am9
  have F_law_error := fun_mk (st := sErr) lm10 cm10 km10
  have b_law_error := F_law_error.binds (ps := ["_law_work"]) fun _ _ _ _ _ _ us hl => match us, hl with | [_], _ => rfl
  have g_law_error := PySem.W.mg_of X G am10
  have F_law_where := fun_mk (st := sWhere) lm11 cm11 km11
  have b_law_where := F_law_where.binds (ps := ["_law_state", "_law_item"]) fun _ _ _ _ _ _ us hl => match us, hl with | [_, _], _ => rfl
  have g_law_where := PySem.W.mg_of X G am11
  have F_law_set := fun_mk (st := sSet) lm12 cm12 km12
  have b_law_set := F_law_set.binds (ps := ["_law_state", "_law_item", "_law_place"]) fun _ _ _ _ _ _ us hl => match us, hl with | [_, _, _], _ => rfl
  have g_law_set := PySem.W.mg_of X G am12
  have F_law_bar := fun_mk (st := sBar) lm13 cm13 km13
  have b_law_bar := F_law_bar.binds (ps := ["_law_state", "_law_deed"]) fun _ _ _ _ _ _ us hl => match us, hl with | [_, _], _ => rfl
  have g_law_bar := PySem.W.mg_of X G am13
  have F_law_next := fun_mk (st := sNext) lm14 cm14 km14
  have b_law_next := F_law_next.binds (ps := ["_law_state", "_law_deed"]) fun _ _ _ _ _ _ us hl => match us, hl with | [_, _], _ => rfl
  have g_law_next := PySem.W.mg_of X G am14
  have F_law_deeds := fun_mk (st := sDeeds) lm15 cm15 km15
  have b_law_deeds := F_law_deeds.binds (ps := ["_law_state", "_law_hands_here"]) fun _ _ _ _ _ _ us hl => match us, hl with | [_, _], _ => rfl
  have g_law_deeds := PySem.W.mg_of X G am15
  have F_law_inside := fun_mk (st := sInside) lm16 cm16 km16
  have b_law_inside := F_law_inside.binds (ps := ["_law_state", "_law_box"]) fun _ _ _ _ _ _ us hl => match us, hl with | [_, _], _ => rfl
  have g_law_inside := PySem.W.mg_of X G am16
  have F_law_is := fun_mk (st := sIs) lm17 cm17 km17
  have b_law_is := F_law_is.binds (ps := ["_law_state", "_law_sight_here"]) fun _ _ _ _ _ _ us hl => match us, hl with | [_, _], _ => rfl
  have g_law_is := PySem.W.mg_of X G am17
  have F_law_sight := fun_mk (st := sSight) lm18 cm18 km18
  have b_law_sight := F_law_sight.binds (ps := ["_law_box", "_law_house_here", "_law_state"]) fun _ _ _ _ _ _ us hl => match us, hl with | [_, _, _], _ => rfl
  have g_law_sight := PySem.W.mg_of X G am18
  have F_law_hands := fun_mk (st := sHands) lm19 cm19 km19
  have b_law_hands := F_law_hands.binds (ps := ["_law_box", "_law_house_here"]) fun _ _ _ _ _ _ us hl => match us, hl with | [_, _], _ => rfl
  have g_law_hands := PySem.W.mg_of X G am19
  have F_law_story := fun_mk (st := sStory) lm20 cm20 km20
  have b_law_story := F_law_story.binds (ps := ["_law_box", "_law_house_here", "_law_many", "_law_secret"]) fun _ _ _ _ _ _ us hl => match us, hl with | [_, _, _, _], _ => rfl
  have g_law_story := PySem.W.mg_of X G am20
  have F_law_log := fun_mk (st := sLLog) lm21 cm21 km21
  have b_law_log := F_law_log.binds (ps := ["_law_box", "_law_sizes", "_law_many", "_law_secret"]) fun _ _ _ _ _ _ us hl => match us, hl with | [_, _, _, _], _ => rfl
  have g_law_log := PySem.W.mg_of X G am21
  have Fneed_hand := fun_mk (st := sNHand) lm22 cm22 km22
  have bneed_hand := Fneed_hand.binds (ps := ["house", "hand"]) fun _ _ _ _ _ _ us hl => match us, hl with | [_, _], _ => rfl
  have gneed_hand := PySem.W.mg_of X G am22
  have Fneed_item := fun_mk (st := sNItem) lm23 cm23 km23
  have bneed_item := Fneed_item.binds (ps := ["house", "item"]) fun _ _ _ _ _ _ us hl => match us, hl with | [_, _], _ => rfl
  have gneed_item := PySem.W.mg_of X G am23
  have Fneed_load := fun_mk (st := sNLoad) lm24 cm24 km24
  have bneed_load := Fneed_load.binds (ps := ["house", "item"]) fun _ _ _ _ _ _ us hl => match us, hl with | [_, _], _ => rfl
  have gneed_load := PySem.W.mg_of X G am24
  have Fneed_box := fun_mk (st := sNBox) lm25 cm25 km25
  have bneed_box := Fneed_box.binds (ps := ["house", "box"]) fun _ _ _ _ _ _ us hl => match us, hl with | [_, _], _ => rfl
  have gneed_box := PySem.W.mg_of X G am25
  have Fneed_seal := fun_mk (st := sNSeal) lm26 cm26 km26
  have bneed_seal := Fneed_seal.binds (ps := ["house", "seal"]) fun _ _ _ _ _ _ us hl => match us, hl with | [_, _], _ => rfl
  have gneed_seal := PySem.W.mg_of X G am26
  have Fneed_place := fun_mk (st := sNPlace) lm27 cm27 km27
  have bneed_place := Fneed_place.binds (ps := ["house", "place"]) fun _ _ _ _ _ _ us hl => match us, hl with | [_, _], _ => rfl
  have gneed_place := PySem.W.mg_of X G am27
  have Fneed_sight := fun_mk (st := sNSight) lm28 cm28 km28
  have bneed_sight := Fneed_sight.binds (ps := ["house", "sight"]) fun _ _ _ _ _ _ us hl => match us, hl with | [_, _], _ => rfl
  have gneed_sight := PySem.W.mg_of X G am28
  have Fneed_loads := fun_mk (st := sNLoads) lm29 cm29 km29
  have bneed_loads := Fneed_loads.binds (ps := ["house", "items"]) fun _ _ _ _ _ _ us hl => match us, hl with | [_, _], _ => rfl
  have gneed_loads := PySem.W.mg_of X G am29
  have Fneed_move := fun_mk (st := sNMove) lm30 cm30 km30
  have bneed_move := Fneed_move.binds (ps := ["house", "item", "box"]) fun _ _ _ _ _ _ us hl => match us, hl with | [_, _, _], _ => rfl
  have gneed_move := PySem.W.mg_of X G am30
  have Fneed_deed := fun_mk (st := sNDeed) lm31 cm31 km31
  have bneed_deed := Fneed_deed.binds (ps := ["house", "deed"]) fun _ _ _ _ _ _ us hl => match us, hl with | [_, _], _ => rfl
  have gneed_deed := PySem.W.mg_of X G am31
  have Fneed_hands := fun_mk (st := sNHands) lm32 cm32 km32
  have bneed_hands := Fneed_hands.binds (ps := ["house", "hands"]) fun _ _ _ _ _ _ us hl => match us, hl with | [_, _], _ => rfl
  have gneed_hands := PySem.W.mg_of X G am32
  have Fneed_row := fun_mk (st := sNRow) lm33 cm33 km33
  have bneed_row := Fneed_row.binds (ps := ["house", "row"]) fun _ _ _ _ _ _ us hl => match us, hl with | [_, _], _ => rfl
  have gneed_row := PySem.W.mg_of X G am33
  have Fneed_rows := fun_mk (st := sNRows) lm34 cm34 km34
  have bneed_rows := Fneed_rows.binds (ps := ["house", "rows"]) fun _ _ _ _ _ _ us hl => match us, hl with | [_, _], _ => rfl
  have gneed_rows := PySem.W.mg_of X G am34
  have Ft0 := fun_mk (st := sInit) lt0 ct0 kt0
  have bt0 := Ft0.binds (ps := ["self", "hands", "boxes", "things", "seals"]) fun _ _ _ _ _ _ us hl => match us, hl with | [_, _, _, _, _], _ => rfl
  have Ft1 := fun_mk (st := sHas) lt1 ct1 kt1
  have bt1 := Ft1.binds (ps := ["self", "item"]) fun _ _ _ _ _ _ us hl => match us, hl with | [_, _], _ => rfl
  have Ft2 := fun_mk (st := sEqH) lt2 ct2 kt2
  have bt2 := Ft2.binds (ps := ["self", "other"]) fun _ _ _ _ _ _ us hl => match us, hl with | [_, _], _ => rfl
  have Ft3 := fun_mk (st := sItems) lt3 ct3 kt3
  have bt3 := Ft3.binds (ps := ["self"]) fun _ _ _ _ _ _ us hl => match us, hl with | [_], _ => rfl
  have Ft4 := fun_mk (st := sLInit) lt4 ct4 kt4
  have bt4 := Ft4.binds (ps := ["self", "house", "rows"]) fun _ _ _ _ _ _ us hl => match us, hl with | [_, _, _], _ => rfl
  have Ft5 := fun_mk (st := sLGaps) lt5 ct5 kt5
  have bt5 := Ft5.binds (ps := ["self"]) fun _ _ _ _ _ _ us hl => match us, hl with | [_], _ => rfl
  have Ft6 := fun_mk (st := sLLen) lt6 ct6 kt6
  have bt6 := Ft6.binds (ps := ["self"]) fun _ _ _ _ _ _ us hl => match us, hl with | [_], _ => rfl
  have Ft7 := fun_mk (st := sLItem) lt7 ct7 kt7
  have bt7 := Ft7.binds (ps := ["self", "index"]) fun _ _ _ _ _ _ us hl => match us, hl with | [_, _], _ => rfl
  have Ft8 := fun_mk (st := sLAdd) lt8 ct8 kt8
  have bt8 := Ft8.binds (ps := ["self", "rows"]) fun _ _ _ _ _ _ us hl => match us, hl with | [_, _], _ => rfl
  have Ft9 := fun_mk (st := sLEq) lt9 ct9 kt9
  have bt9 := Ft9.binds (ps := ["self", "other"]) fun _ _ _ _ _ _ us hl => match us, hl with | [_, _], _ => rfl
  have Ft10 := fun_mk (st := sLUntil) lt10 ct10 kt10
  have bt10 := Ft10.binds (ps := ["self", "number"]) fun _ _ _ _ _ _ us hl => match us, hl with | [_, _], _ => rfl
  have Ft11 := fun_mk (st := sLWatch) lt11 ct11 kt11
  have bt11 := Ft11.binds (ps := ["self", "hands"]) fun _ _ _ _ _ _ us hl => match us, hl with | [_, _], _ => rfl
  have FR := fun_mk (st := sRef) lR cR kR
  have bR := FR.binds (ps := ["_law_box", "_law_house_here", "_law_rows"]) fun _ _ _ _ _ _ us hl => match us, hl with | [_, _, _], _ => rfl
  have M : Mk K C ft0 := ⟨hmk, at0, i0, hkc⟩
  have ML : Mk K CL ft4 := ⟨gmk, at4, i4, gkc⟩
  have oexInvalidHouse : OexC K CInvalidHouse := ⟨⟨nmInvalidHouse, qInvalidHouse, NInvalidHouse, bsInvalidHouse, bmInvalidHouse, snInvalidHouse, subInvalidHouse, abInvalidHouse, colInvalidHouse, ddInvalidHouse, g0InvalidHouse, g1InvalidHouse, g2InvalidHouse, g3InvalidHouse, g5InvalidHouse, xLInvalidHouse, xvInvalidHouse⟩, xsaInvalidHouse, xexInvalidHouse, xtyInvalidHouse, xkcInvalidHouse⟩
  have supInvalidHouse : SupC l.prog K mg CInvalidHouse := ⟨oexInvalidHouse, ⟨nmInvalidHouse, qInvalidHouse, NInvalidHouse, bsInvalidHouse, bmInvalidHouse, snInvalidHouse, subInvalidHouse, abInvalidHouse, colInvalidHouse, ddInvalidHouse, g0InvalidHouse, g1InvalidHouse, g2InvalidHouse, g3InvalidHouse, g5InvalidHouse, xLInvalidHouse, xvInvalidHouse, xaInvalidHouse⟩, xtp, PySem.W.mg_none_of X G zsuper, xveInvalidHouse, xseInvalidHouse, xtop⟩
  have bIInvalidHouse : Binds K (PySem.W.ksFn "__init__" "InvalidHouse.__init__" (defArgs sIH) (defBody sIH) (defScope sIH) .none kVIInvalidHouse dcIInvalidHouse pmIInvalidHouse anIInvalidHouse (.ref cdaInvalidHouse) ctIInvalidHouse ccInvalidHouse) (["self", "part", "index"] : List Str) [] := Binds.all fun us hl => match us, hl with | [_, _, _], _ => rfl
  have TInvalidHouse : ExcI l.prog K mg "InvalidHouse" "InvalidHouse.__init__" sIH CInvalidHouse fIInvalidHouse (PySem.W.ksFn "__init__" "InvalidHouse.__init__" (defArgs sIH) (defBody sIH) (defScope sIH) .none kVIInvalidHouse dcIInvalidHouse pmIInvalidHouse anIInvalidHouse (.ref cdaInvalidHouse) ctIInvalidHouse ccInvalidHouse) :=
    ⟨supInvalidHouse, xiInvalidHouse, xitInvalidHouse, PySem.W.mg_of X G nInvalidHouse, ⟨ocIInvalidHouse, odIInvalidHouse, kVIInvalidHouse, dcIInvalidHouse, pmIInvalidHouse, anIInvalidHouse, ctIInvalidHouse, slIInvalidHouse, ccInvalidHouse, cdaInvalidHouse, rfl, xilInvalidHouse, xicInvalidHouse, ⟨cclInvalidHouse, cddInvalidHouse, vsCInvalidHouse, ccsInvalidHouse, filInvalidHouse, tfInvalidHouse, xclInvalidHouse, xcfInvalidHouse, xffInvalidHouse⟩, ⟨_, cldInvalidHouse, cslInvalidHouse, xccInvalidHouse⟩⟩, bIInvalidHouse⟩
  have oexInvalidHands : OexC K CInvalidHands := ⟨⟨nmInvalidHands, qInvalidHands, NInvalidHands, bsInvalidHands, bmInvalidHands, snInvalidHands, subInvalidHands, abInvalidHands, colInvalidHands, ddInvalidHands, g0InvalidHands, g1InvalidHands, g2InvalidHands, g3InvalidHands, g5InvalidHands, xLInvalidHands, xvInvalidHands⟩, xsaInvalidHands, xexInvalidHands, xtyInvalidHands, xkcInvalidHands⟩
  have supInvalidHands : SupC l.prog K mg CInvalidHands := ⟨oexInvalidHands, ⟨nmInvalidHands, qInvalidHands, NInvalidHands, bsInvalidHands, bmInvalidHands, snInvalidHands, subInvalidHands, abInvalidHands, colInvalidHands, ddInvalidHands, g0InvalidHands, g1InvalidHands, g2InvalidHands, g3InvalidHands, g5InvalidHands, xLInvalidHands, xvInvalidHands, xaInvalidHands⟩, xtp, PySem.W.mg_none_of X G zsuper, xveInvalidHands, xseInvalidHands, xtop⟩
  have bIInvalidHands : Binds K (PySem.W.ksFn "__init__" "InvalidHands.__init__" (defArgs sIHands) (defBody sIHands) (defScope sIHands) .none kVIInvalidHands dcIInvalidHands pmIInvalidHands anIInvalidHands (.ref cdaInvalidHands) ctIInvalidHands ccInvalidHands) (["self", "index"] : List Str) [] := Binds.all fun us hl => match us, hl with | [_, _], _ => rfl
  have TInvalidHands : ExcX l.prog K mg "InvalidHands" "InvalidHands.__init__" sIHands CInvalidHands fIInvalidHands (PySem.W.ksFn "__init__" "InvalidHands.__init__" (defArgs sIHands) (defBody sIHands) (defScope sIHands) .none kVIInvalidHands dcIInvalidHands pmIInvalidHands anIInvalidHands (.ref cdaInvalidHands) ctIInvalidHands ccInvalidHands) :=
    ⟨supInvalidHands, xiInvalidHands, xitInvalidHands, PySem.W.mg_of X G nInvalidHands, ⟨ocIInvalidHands, odIInvalidHands, kVIInvalidHands, dcIInvalidHands, pmIInvalidHands, anIInvalidHands, ctIInvalidHands, slIInvalidHands, ccInvalidHands, cdaInvalidHands, rfl, xilInvalidHands, xicInvalidHands, ⟨cclInvalidHands, cddInvalidHands, vsCInvalidHands, ccsInvalidHands, filInvalidHands, tfInvalidHands, xclInvalidHands, xcfInvalidHands, xffInvalidHands⟩, ⟨_, cldInvalidHands, cslInvalidHands, xccInvalidHands⟩⟩, bIInvalidHands⟩
  have oexInvalidLog : OexC K CInvalidLog := ⟨⟨nmInvalidLog, qInvalidLog, NInvalidLog, bsInvalidLog, bmInvalidLog, snInvalidLog, subInvalidLog, abInvalidLog, colInvalidLog, ddInvalidLog, g0InvalidLog, g1InvalidLog, g2InvalidLog, g3InvalidLog, g5InvalidLog, xLInvalidLog, xvInvalidLog⟩, xsaInvalidLog, xexInvalidLog, xtyInvalidLog, xkcInvalidLog⟩
  have supInvalidLog : SupC l.prog K mg CInvalidLog := ⟨oexInvalidLog, ⟨nmInvalidLog, qInvalidLog, NInvalidLog, bsInvalidLog, bmInvalidLog, snInvalidLog, subInvalidLog, abInvalidLog, colInvalidLog, ddInvalidLog, g0InvalidLog, g1InvalidLog, g2InvalidLog, g3InvalidLog, g5InvalidLog, xLInvalidLog, xvInvalidLog, xaInvalidLog⟩, xtp, PySem.W.mg_none_of X G zsuper, xveInvalidLog, xseInvalidLog, xtop⟩
  have bIInvalidLog : Binds K (PySem.W.ksFn "__init__" "InvalidLog.__init__" (defArgs sILog) (defBody sILog) (defScope sILog) .none kVIInvalidLog dcIInvalidLog pmIInvalidLog anIInvalidLog (.ref cdaInvalidLog) ctIInvalidLog ccInvalidLog) (["self", "index"] : List Str) [] := Binds.all fun us hl => match us, hl with | [_, _], _ => rfl
  have TInvalidLog : ExcX l.prog K mg "InvalidLog" "InvalidLog.__init__" sILog CInvalidLog fIInvalidLog (PySem.W.ksFn "__init__" "InvalidLog.__init__" (defArgs sILog) (defBody sILog) (defScope sILog) .none kVIInvalidLog dcIInvalidLog pmIInvalidLog anIInvalidLog (.ref cdaInvalidLog) ctIInvalidLog ccInvalidLog) :=
    ⟨supInvalidLog, xiInvalidLog, xitInvalidLog, PySem.W.mg_of X G nInvalidLog, ⟨ocIInvalidLog, odIInvalidLog, kVIInvalidLog, dcIInvalidLog, pmIInvalidLog, anIInvalidLog, ctIInvalidLog, slIInvalidLog, ccInvalidLog, cdaInvalidLog, rfl, xilInvalidLog, xicInvalidLog, ⟨cclInvalidLog, cddInvalidLog, vsCInvalidLog, ccsInvalidLog, filInvalidLog, tfInvalidLog, xclInvalidLog, xcfInvalidLog, xffInvalidLog⟩, ⟨_, cldInvalidLog, cslInvalidLog, xccInvalidLog⟩⟩, bIInvalidLog⟩
  have JInvalidHands : ErrJ K mg CInvalidHands CT 2 := ⟨⟨egaInvalidHands, eggInvalidHands, xexInvalidHands, ehdInvalidHands, ehaInvalidHands, chn, cht, ehmInvalidHands⟩, ⟨egaInvalidHands, eggInvalidHands, xexInvalidHands, ehdInvalidHands⟩, xnPInvalidHands, xnIInvalidHands, PySem.W.mg_of X G aCT, PySem.W.exm_ref wbe wcl wty ewsuInvalidHands, PySem.W.mg_none_of X G zValueError, ekveInvalidHands, ⟨_, PySem.W.mg_of X G nInsideItself, qInvalidHands_InsideItself⟩, ⟨_, PySem.W.mg_of X G nInvalidCourse, qInvalidHands_InvalidCourse⟩, ⟨_, PySem.W.mg_of X G nInvalidHands, qInvalidHands_InvalidHands⟩, ⟨_, PySem.W.mg_of X G nInvalidHouse, qInvalidHands_InvalidHouse⟩, ⟨_, PySem.W.mg_of X G nInvalidLog, qInvalidHands_InvalidLog⟩, ⟨_, PySem.W.mg_of X G nInvalidNumber, qInvalidHands_InvalidNumber⟩, ⟨_, PySem.W.mg_of X G nIsSealed, qInvalidHands_IsSealed⟩, ⟨_, PySem.W.mg_of X G nNoCourse, qInvalidHands_NoCourse⟩, ⟨_, PySem.W.mg_of X G nNotHeld, qInvalidHands_NotHeld⟩, ⟨_, PySem.W.mg_of X G nNotInside, qInvalidHands_NotInside⟩, ⟨_, PySem.W.mg_of X G nNotSealed, qInvalidHands_NotSealed⟩, ⟨_, PySem.W.mg_of X G nUnknownBox, qInvalidHands_UnknownBox⟩, ⟨_, PySem.W.mg_of X G nUnknownHand, qInvalidHands_UnknownHand⟩, ⟨_, PySem.W.mg_of X G nUnknownItem, qInvalidHands_UnknownItem⟩, ⟨_, PySem.W.mg_of X G nUnknownSeal, qInvalidHands_UnknownSeal⟩⟩
  have JInvalidLog : ErrJ K mg CInvalidLog CT 4 := ⟨⟨egaInvalidLog, eggInvalidLog, xexInvalidLog, ehdInvalidLog, ehaInvalidLog, chn, cht, ehmInvalidLog⟩, ⟨egaInvalidLog, eggInvalidLog, xexInvalidLog, ehdInvalidLog⟩, xnPInvalidLog, xnIInvalidLog, PySem.W.mg_of X G aCT, PySem.W.exm_ref wbe wcl wty ewsuInvalidLog, PySem.W.mg_none_of X G zValueError, ekveInvalidLog, ⟨_, PySem.W.mg_of X G nInsideItself, qInvalidLog_InsideItself⟩, ⟨_, PySem.W.mg_of X G nInvalidCourse, qInvalidLog_InvalidCourse⟩, ⟨_, PySem.W.mg_of X G nInvalidHands, qInvalidLog_InvalidHands⟩, ⟨_, PySem.W.mg_of X G nInvalidHouse, qInvalidLog_InvalidHouse⟩, ⟨_, PySem.W.mg_of X G nInvalidLog, qInvalidLog_InvalidLog⟩, ⟨_, PySem.W.mg_of X G nInvalidNumber, qInvalidLog_InvalidNumber⟩, ⟨_, PySem.W.mg_of X G nIsSealed, qInvalidLog_IsSealed⟩, ⟨_, PySem.W.mg_of X G nNoCourse, qInvalidLog_NoCourse⟩, ⟨_, PySem.W.mg_of X G nNotHeld, qInvalidLog_NotHeld⟩, ⟨_, PySem.W.mg_of X G nNotInside, qInvalidLog_NotInside⟩, ⟨_, PySem.W.mg_of X G nNotSealed, qInvalidLog_NotSealed⟩, ⟨_, PySem.W.mg_of X G nUnknownBox, qInvalidLog_UnknownBox⟩, ⟨_, PySem.W.mg_of X G nUnknownHand, qInvalidLog_UnknownHand⟩, ⟨_, PySem.W.mg_of X G nUnknownItem, qInvalidLog_UnknownItem⟩, ⟨_, PySem.W.mg_of X G nUnknownSeal, qInvalidLog_UnknownSeal⟩⟩
  obtain ⟨ce, hce⟩ : ∃ ce, ce = ce9 CInvalidHands CInvalidLog CUnknownHand CUnknownItem CUnknownBox CUnknownSeal CInsideItself := ⟨_, rfl⟩
  have vInvalidHands : ce "InvalidHands" = CInvalidHands := by rw [hce]; exact ce9_InvalidHands CInvalidHands CInvalidLog CUnknownHand CUnknownItem CUnknownBox CUnknownSeal CInsideItself
  have vInvalidLog : ce "InvalidLog" = CInvalidLog := by rw [hce]; exact ce9_InvalidLog CInvalidHands CInvalidLog CUnknownHand CUnknownItem CUnknownBox CUnknownSeal CInsideItself
  have vUnknownHand : ce "UnknownHand" = CUnknownHand := by rw [hce]; exact ce9_UnknownHand CInvalidHands CInvalidLog CUnknownHand CUnknownItem CUnknownBox CUnknownSeal CInsideItself
  have vUnknownItem : ce "UnknownItem" = CUnknownItem := by rw [hce]; exact ce9_UnknownItem CInvalidHands CInvalidLog CUnknownHand CUnknownItem CUnknownBox CUnknownSeal CInsideItself
  have vUnknownBox : ce "UnknownBox" = CUnknownBox := by rw [hce]; exact ce9_UnknownBox CInvalidHands CInvalidLog CUnknownHand CUnknownItem CUnknownBox CUnknownSeal CInsideItself
  have vUnknownSeal : ce "UnknownSeal" = CUnknownSeal := by rw [hce]; exact ce9_UnknownSeal CInvalidHands CInvalidLog CUnknownHand CUnknownItem CUnknownBox CUnknownSeal CInsideItself
  have vInsideItself : ce "InsideItself" = CInsideItself := by rw [hce]; exact ce9_InsideItself CInvalidHands CInvalidLog CUnknownHand CUnknownItem CUnknownBox CUnknownSeal CInsideItself
  clear hce
  have PUnknownHand : PErr K mg "UnknownHand" (ce "UnknownHand") := by rw [vUnknownHand]; exact ⟨eexUnknownHand, PySem.W.mg_of X G nUnknownHand, ekpUnknownHand, esbUnknownHand, etyUnknownHand⟩
  have PUnknownItem : PErr K mg "UnknownItem" (ce "UnknownItem") := by rw [vUnknownItem]; exact ⟨eexUnknownItem, PySem.W.mg_of X G nUnknownItem, ekpUnknownItem, esbUnknownItem, etyUnknownItem⟩
  have PUnknownBox : PErr K mg "UnknownBox" (ce "UnknownBox") := by rw [vUnknownBox]; exact ⟨eexUnknownBox, PySem.W.mg_of X G nUnknownBox, ekpUnknownBox, esbUnknownBox, etyUnknownBox⟩
  have PUnknownSeal : PErr K mg "UnknownSeal" (ce "UnknownSeal") := by rw [vUnknownSeal]; exact ⟨eexUnknownSeal, PySem.W.mg_of X G nUnknownSeal, ekpUnknownSeal, esbUnknownSeal, etyUnknownSeal⟩
  have PInsideItself : PErr K mg "InsideItself" (ce "InsideItself") := by rw [vInsideItself]; exact ⟨eexInsideItself, PySem.W.mg_of X G nInsideItself, ekpInsideItself, esbInsideItself, etyInsideItself⟩
  have wInvalidHands : PySem.W.exmOne K (.ref (ce "InvalidHands")) (.ref CT) = some true := by rw [vInvalidHands]; exact PySem.W.exm_ref wbe wcl wty ewsuInvalidHands
  have wInvalidLog : PySem.W.exmOne K (.ref (ce "InvalidLog")) (.ref CT) = some true := by rw [vInvalidLog]; exact PySem.W.exm_ref wbe wcl wty ewsuInvalidLog
  have wUnknownHand : PySem.W.exmOne K (.ref (ce "UnknownHand")) (.ref CT) = some true := by rw [vUnknownHand]; exact PySem.W.exm_ref wbe wcl wty ewsuUnknownHand
  have wUnknownItem : PySem.W.exmOne K (.ref (ce "UnknownItem")) (.ref CT) = some true := by rw [vUnknownItem]; exact PySem.W.exm_ref wbe wcl wty ewsuUnknownItem
  have wUnknownBox : PySem.W.exmOne K (.ref (ce "UnknownBox")) (.ref CT) = some true := by rw [vUnknownBox]; exact PySem.W.exm_ref wbe wcl wty ewsuUnknownBox
  have wUnknownSeal : PySem.W.exmOne K (.ref (ce "UnknownSeal")) (.ref CT) = some true := by rw [vUnknownSeal]; exact PySem.W.exm_ref wbe wcl wty ewsuUnknownSeal
  have wInsideItself : PySem.W.exmOne K (.ref (ce "InsideItself")) (.ref CT) = some true := by rw [vInsideItself]; exact PySem.W.exm_ref wbe wcl wty ewsuInsideItself
  have Ct : Caught K ce (ce "InvalidHands") CT := ⟨wInvalidHands, by
    rintro z (rfl | rfl | rfl | rfl | rfl)
    · exact wUnknownHand
    · exact wUnknownItem
    · exact wUnknownBox
    · exact wUnknownSeal
    · exact wInsideItself⟩
  have knInvalidHands : KnownX K mg ce CT "InvalidHands" := ⟨2, by rw [vInvalidHands]; exact JInvalidHands, by decide, by decide +kernel⟩
  have knInvalidLog : KnownX K mg ce CT "InvalidLog" := ⟨4, by rw [vInvalidLog]; exact JInvalidLog, by decide, by decide +kernel⟩
  have W : WordsF K mg aD := ⟨PySem.W.mg_of X G dA, fun _ => .inr ⟨_, itD, nD, dL, rfl, rfl, dS, dV⟩⟩
  refine ⟨PySem.W.fnOf "law" "law" (defArgs sLaw) (defBody sLaw) (defScope sLaw) .none kVL dcL pmL anL (.ref cdL) ctL, [(cdL, tbL), (cdR, tbR)], spLaw K tbL tbR, fun p hp => by
    rcases List.mem_cons.mp hp with rfl | hp
    · exact hTL
    · rw [List.mem_singleton.mp hp]; exact hTR, fun p hp => by
    rcases List.mem_cons.mp hp with rfl | hp
    · exact ntbL
    · rw [List.mem_singleton.mp hp]; exact ntbR, fun p hp => by
    rcases List.mem_cons.mp hp with rfl | hp
    · exact PySem.W.codeHd_of_K X hcdL
    · rw [List.mem_singleton.mp hp]; exact PySem.W.codeHd_of_K X hcdR, fun s v => .of_eq rfl, fun H a ns hl _ hTb hS => ⟨a, ns, rfl, hTb (cdL, tbL) List.mem_cons_self, hTb (cdR, tbR) (List.mem_cons_of_mem _ List.mem_cons_self), hS, hl, fun _ => rfl⟩, fun base hb hg hTB => ?_⟩
  have TB : LamX.TabB base mg cdL tbL := hTB (cdL, tbL) List.mem_cons_self
  have TBR : LamX.TabB base mg cdR tbR := hTB (cdR, tbR) (List.mem_cons_of_mem _ List.mem_cons_self)
  have TInvalidHands2 : ExcX l.prog K mg "InvalidHands" "InvalidHands.__init__" sIHands (ce "InvalidHands") fIInvalidHands (PySem.W.ksFn "__init__" "InvalidHands.__init__" (defArgs sIHands) (defBody sIHands) (defScope sIHands) .none kVIInvalidHands dcIInvalidHands pmIInvalidHands anIInvalidHands (.ref cdaInvalidHands) ctIInvalidHands ccInvalidHands) := by rw [vInvalidHands]; exact TInvalidHands
  have TInvalidLog2 : ExcX l.prog K mg "InvalidLog" "InvalidLog.__init__" sILog (ce "InvalidLog") fIInvalidLog (PySem.W.ksFn "__init__" "InvalidLog.__init__" (defArgs sILog) (defBody sILog) (defScope sILog) .none kVIInvalidLog dcIInvalidLog pmIInvalidLog anIInvalidLog (.ref cdaInvalidLog) ctIInvalidLog ccInvalidLog) := by rw [vInvalidLog]; exact TInvalidLog
  have xnInvalidHands : PySem.W.findIn K (.ref (ce "InvalidHands")) "index" = some none := by rw [vInvalidHands]; exact xnIInvalidHands
  have xnInvalidLog : PySem.W.findIn K (.ref (ce "InvalidLog")) "index" = some none := by rw [vInvalidLog]; exact xnIInvalidLog
  have GN : FnOk l.prog w K mg base CX0 1 fm0 (PySem.W.fnOf "is_number" "is_number" (defArgs sNum) (defBody sNum) (defScope sNum) .none kVm0 dcm0 pmm0 anm0 cdm0 ctm0) ["value", "limit"] spNum := ok_num Fis_number B
  have GM : FnOk l.prog w K mg base CX0 1 fm1 (PySem.W.fnOf "how_many" "how_many" (defArgs sMany) (defBody sMany) (defScope sMany) .none kVm1 dcm1 pmm1 anm1 cdm1 ctm1) ["house", "word"] (spMany K C) := ok_many Fhow_many B hc
  have GP : FnOk l.prog w K mg base CX0 2 fm2 (PySem.W.fnOf "is_place" "is_place" (defArgs sIsPl) (defBody sIsPl) (defScope sIsPl) .none kVm2 dcm2 pmm2 anm2 cdm2 ctm2) ["place", "hands", "boxes"] (spIsPl K) := ok_ispl Fis_place Fis_number B gis_number bis_number
  have GI0 : FnOk l.prog w K mg base CX0 1 fIInvalidHouse _ ["self", "part", "index"] (spIH CInvalidHouse) := ok_ih TInvalidHouse xnPInvalidHouse xnIInvalidHouse
  have GIHa : FnOk l.prog w K mg base CX0 1 fIInvalidHands _ ["self", "index"] (spIx (ce "InvalidHands")) := ok_ihands TInvalidHands2 xnInvalidHands
  have GB := ok_boxes (P := l.prog) (w := w) (base := base) Fneed_boxes B Z GP gis_place Fis_place.kp bis_place TInvalidHouse GI0
  have GNH := ok_need (P := l.prog) (w := w) (base := base) Fneed_house B Z GP gis_place Fis_place.kp bis_place GN gis_number Fis_number.kp bis_number GB gneed_boxes Fneed_boxes.kp bneed_boxes TInvalidHouse GI0
  have GH := ok_house (P := l.prog) (w := w) (base := base) Ft0 B hc GNH gneed_house Fneed_house.kp bneed_house
  have GT : FnOk l.prog w K mg base CX0 1 fm6 (PySem.W.fnOf "_law_take" "_law_take" (defArgs sTake) (defBody sTake) (defScope sTake) .none kVm6 dcm6 pmm6 anm6 cdm6 ctm6) ["_law_box", "_law_many"] spTake := ok_take F_law_take B
  have GPL := ok_places (P := l.prog) (w := w) (base := base) F_law_places GT g_law_take F_law_take.kp b_law_take
  have GLH := ok_lhouse (P := l.prog) (w := w) (base := base) F_law_house B GT g_law_take F_law_take.kp b_law_take GPL g_law_places F_law_places.kp b_law_places M GH gC bt0
  have GHa := ok_has (P := l.prog) (w := w) (base := base) Ft1 B GM ghow_many Fhow_many.kp bhow_many GN gis_number Fis_number.kp bis_number
  have GEq := ok_eqh (P := l.prog) (w := w) (base := base) Ft2 B hc IC gC
  have GBe : FnOk l.prog w K mg base CX0 1 fm5 (PySem.W.fnOf "_law_begun" "_law_begun" (defArgs sBegun) (defBody sBegun) (defScope sBegun) .none kVm5 dcm5 pmm5 anm5 cdm5 ctm5) ["_law_script"] (spBegun K) := ok_begun F_law_begun B
  have GWh : FnOk l.prog w K mg base CX0 1 fm11 (PySem.W.fnOf "_law_where" "_law_where" (defArgs sWhere) (defBody sWhere) (defScope sWhere) .none kVm11 dcm11 pmm11 anm11 cdm11 ctm11) ["_law_state", "_law_item"] (spWhere K) := ok_where F_law_where B
  have GSe : FnOk l.prog w K mg base CX0 1 fm12 (PySem.W.fnOf "_law_set" "_law_set" (defArgs sSet) (defBody sSet) (defScope sSet) .none kVm12 dcm12 pmm12 anm12 cdm12 ctm12) ["_law_state", "_law_item", "_law_place"] (spSet K) := ok_set F_law_set B
  have GBa := ok_bar (P := l.prog) (w := w) (base := base) F_law_bar B GWh g_law_where F_law_where.kp b_law_where
  have GNx := ok_next (P := l.prog) (w := w) (base := base) F_law_next B GSe g_law_set F_law_set.kp b_law_set
  have GDs := ok_deeds (P := l.prog) (w := w) (base := base) F_law_deeds B zS GBa g_law_bar F_law_bar.kp b_law_bar
  have GDt := ok_deedsT (P := l.prog) (w := w) (base := base) F_law_deeds B zS GBa g_law_bar F_law_bar.kp b_law_bar
  have NF : NumF l.prog w K mg base fm0 _ := ⟨GN, gis_number, Fis_number.kp, bis_number⟩
  have HF : HasF l.prog w K mg base C ft1 _ := ⟨GHa, at1, i1, bt1⟩
  have G1 := ok_nhand (P := l.prog) (w := w) (base := base) Fneed_hand hc NF PUnknownHand
  have G2 := ok_nitem (P := l.prog) (w := w) (base := base) Fneed_item HF PUnknownItem
  have G3 := ok_nload (P := l.prog) (w := w) (base := base) Fneed_load HF PUnknownItem
  have G4 := ok_nbox (P := l.prog) (w := w) (base := base) Fneed_box B hc NF PUnknownBox
  have G5 := ok_nseal (P := l.prog) (w := w) (base := base) Fneed_seal B hc NF PUnknownSeal
  have Q3 : NLoadF l.prog w K mg base C (ce "UnknownItem") fm24 _ := ⟨G3, gneed_load, Fneed_load.kp, bneed_load⟩
  have Q4 : NBoxF l.prog w K mg base C (ce "UnknownBox") fm25 _ := ⟨G4, gneed_box, Fneed_box.kp, bneed_box⟩
  have Q2 : NItemF l.prog w K mg base C (ce "UnknownItem") fm23 _ := ⟨G2, gneed_item, Fneed_item.kp, bneed_item⟩
  have Q1 : NHandF l.prog w K mg base C (ce "UnknownHand") fm22 _ := ⟨G1, gneed_hand, Fneed_hand.kp, bneed_hand⟩
  have Q5 : NSealF l.prog w K mg base C (ce "UnknownSeal") fm26 _ := ⟨G5, gneed_seal, Fneed_seal.kp, bneed_seal⟩
  have GPc := ok_nplace (P := l.prog) (w := w) (base := base) Fneed_place Q1 Q4
  have OPc : OnceX l.prog w K mg base "need_place" 3 ["house", "place"] (spNPlace K C ce) fm27 _ := ⟨GPc, gneed_place, Fneed_place.kp, bneed_place⟩
  have GLs := ok_nloads (P := l.prog) (w := w) (base := base) Fneed_loads B Q3 PUnknownItem
  have OLs : OnceX l.prog w K mg base "need_loads" 4 ["house", "items"] (spNLoads K C (ce "UnknownItem")) fm29 _ := ⟨GLs, gneed_loads, Fneed_loads.kp, bneed_loads⟩
  have GMv := ok_nmove (P := l.prog) (w := w) (base := base) Fneed_move Q3 Q4 PInsideItself
  have QM : NMoveF l.prog w K mg base C ce fm30 _ := ⟨GMv, gneed_move, Fneed_move.kp, bneed_move⟩
  have GDd := ok_ndeed (P := l.prog) (w := w) (base := base) Fneed_deed Q2 Q1 QM Q4 Q5 PUnknownHand
  have ODd : OnceX l.prog w K mg base "need_deed" 5 ["house", "deed"] (spNDeed K C ce) fm31 _ := ⟨GDd, gneed_deed, Fneed_deed.kp, bneed_deed⟩
  have GSi := ok_nsight (P := l.prog) (w := w) (base := base) Fneed_sight gneed_sight bneed_sight Q2 OPc Q4 OLs Q5 2
  have OSi : OnceX l.prog w K mg base "need_sight" 6 ["house", "sight"] (spNSight K C ce 2) fm28 _ := ⟨GSi, gneed_sight, Fneed_sight.kp, bneed_sight⟩
  have GNs := ok_nhands (P := l.prog) (w := w) (base := base) Fneed_hands B hc NF TInvalidHands2 GIHa
  have ONs : OnceX l.prog w K mg base "need_hands" 3 ["house", "hands"] (spNHands K C (ce "InvalidHands")) fm32 _ := ⟨GNs, gneed_hands, Fneed_hands.kp, bneed_hands⟩
  have GRw := ok_nrow (P := l.prog) (w := w) (base := base) Fneed_row W ONs ODd OSi
  have ORw : OnceX l.prog w K mg base "need_row" 7 ["house", "row"] (spNRow K C (ce "InvalidHands") ce) fm33 _ := ⟨GRw, gneed_row, Fneed_row.kp, bneed_row⟩
  have GRs := ok_nrows (tm := 0) (P := l.prog) (w := w) (base := base) Fneed_rows B ORw (PySem.W.mg_of X G jr) gT Ct TInvalidLog2 xnInvalidLog
  have ORs : OnceY l.prog w K mg base "need_rows" 8 ["house", "rows"] (spNRows K C (ce "InvalidLog")) fm34 _ := ⟨GRs, gneed_rows, Fneed_rows.kp, bneed_rows⟩
  have GIt : FnOk l.prog w K mg base CX0 1 ft3 _ ["self"] (spItemsA K C) := ok_itemsA Ft3 B hc
  have ITF : ItF l.prog w K mg base C pI ft3 _ := ⟨⟨ppaI, ppgI, pptI, ⟨rI, at3⟩⟩, GIt, bt3⟩
  have OT : OnceF l.prog w K mg base "_law_take" 1 ["_law_box", "_law_many"] (spTake) fm6 _ := ⟨GT, g_law_take, F_law_take.kp, b_law_take⟩
  have OP : OnceF l.prog w K mg base "_law_places" 2 ["_law_box", "_law_hands_here", "_law_many"] (spPlaces K) fm8 _ := ⟨GPL, g_law_places, F_law_places.kp, b_law_places⟩
  have OW : OnceF l.prog w K mg base "_law_where" 1 ["_law_state", "_law_item"] (spWhere K) fm11 _ := ⟨GWh, g_law_where, F_law_where.kp, b_law_where⟩
  have GIn : FnOk l.prog w K mg base CX0 1 fm16 (PySem.W.fnOf "_law_inside" "_law_inside" (defArgs sInside) (defBody sInside) (defScope sInside) .none kVm16 dcm16 pmm16 anm16 cdm16 ctm16) ["_law_state", "_law_box"] (spInside K) := ok_inside F_law_inside B
  have OIn : OnceF l.prog w K mg base "_law_inside" 1 ["_law_state", "_law_box"] (spInside K) fm16 _ := ⟨GIn, g_law_inside, F_law_inside.kp, b_law_inside⟩
  have GIs := ok_is (P := l.prog) (w := w) (base := base) F_law_is g_law_is b_law_is GWh g_law_where F_law_where.kp b_law_where GIn g_law_inside F_law_inside.kp b_law_inside 2
  have OIs : OnceF l.prog w K mg base "_law_is" 3 ["_law_state", "_law_sight_here"] (spIs K 2) fm17 _ := ⟨GIs, g_law_is, F_law_is.kp, b_law_is⟩
  have GSg := ok_sight (P := l.prog) (w := w) (base := base) F_law_sight B hc OT OP OW OIn ITF
  have OSg : OnceF l.prog w K mg base "_law_sight" 3 ["_law_box", "_law_house_here", "_law_state"] (spSight K C) fm18 _ := ⟨GSg, g_law_sight, F_law_sight.kp, b_law_sight⟩
  have GHs := ok_hands (P := l.prog) (w := w) (base := base) F_law_hands B hc OT
  have OHs : OnceF l.prog w K mg base "_law_hands" 2 ["_law_box", "_law_house_here"] (spHands K C) fm19 _ := ⟨GHs, g_law_hands, F_law_hands.kp, b_law_hands⟩
  have OD : OnceF l.prog w K mg base "_law_deeds" 3 ["_law_state", "_law_hands_here"] (spDeeds K) fm15 _ := ⟨GDs, g_law_deeds, F_law_deeds.kp, b_law_deeds⟩
  have ODt : OnceF l.prog w K mg base "_law_deeds" 3 ["_law_state", "_law_hands_here"] (spDeedsT K) fm15 _ := ⟨GDt, g_law_deeds, F_law_deeds.kp, b_law_deeds⟩
  have ON : OnceF l.prog w K mg base "_law_next" 2 ["_law_state", "_law_deed"] (spNext K) fm14 _ := ⟨GNx, g_law_next, F_law_next.kp, b_law_next⟩
  have GSt := ok_story (P := l.prog) (w := w) (base := base) F_law_story B hc OT OD ODt ON OHs OSg OIs
  have OSt : OnceF l.prog w K mg base "_law_story" 4 ["_law_box", "_law_house_here", "_law_many", "_law_secret"] (spStory K C) fm20 _ := ⟨GSt, g_law_story, F_law_story.kp, b_law_story⟩
  have OLH : OnceF l.prog w K mg base "_law_house" 7 ["_law_box", "_law_sizes"] (spLHouse K C) fm9 _ := ⟨GLH, g_law_house, F_law_house.kp, b_law_house⟩
  have GAl := ok_alike (P := l.prog) (w := w) (base := base) F_law_alike B g_law_alike b_law_alike 8
  have OAl : OnceF l.prog w K mg base "_law_alike" 8 ["_law_found", "_law_due"] (spAlike K 8) fm7 _ := ⟨GAl, g_law_alike, F_law_alike.kp, b_law_alike⟩
  have OBe : OnceF l.prog w K mg base "_law_begun" 1 ["_law_script"] (spBegun K) fm5 _ := ⟨GBe, g_law_begun, F_law_begun.kp, b_law_begun⟩
  have GLI := ok_linit (P := l.prog) (w := w) (base := base) Ft4 B LC ORs
  have MK : LMk l.prog w K mg base C CL (ce "InvalidLog") ft4 _ := ⟨ML, GLI, gL, bt4⟩
  have EH : EqF l.prog w K mg base C ft2 _ := ⟨GEq, at2, i2, bt2⟩
  have GGp := ok_lgaps (P := l.prog) (w := w) (base := base) (C := C) Ft5 B LC
  have GLn := ok_llen (P := l.prog) (w := w) (base := base) (C := C) Ft6 B LC
  have GIm := ok_litem (P := l.prog) (w := w) (base := base) (C := C) Ft7 B LC
  have GAd := ok_ladd (P := l.prog) (w := w) (base := base) Ft8 B LC MK
  have LA : LAddF l.prog w K mg base C CL (ce "InvalidLog") ft8 _ := ⟨GAd, ⟨adf, at8, i8, ⟨_, adl, adq⟩, adr⟩, bt8⟩
  have GEl := ok_leq (P := l.prog) (w := w) (base := base) Ft9 B LC IL gL EH
  have GUt := ok_luntil (P := l.prog) (w := w) (base := base) Ft10 B zM LC MK
  have GWa := ok_lwatch (P := l.prog) (w := w) (base := base) Ft11 B LC MK ONs
  have GLg := ok_llog (P := l.prog) (w := w) (base := base) F_law_log B hc OT OLH OSt OSg
  have OLg : OnceF l.prog w K mg base "_law_log" 8 ["_law_box", "_law_sizes", "_law_many", "_law_secret"] (spLLog K C) fm21 _ := ⟨GLg, g_law_log, F_law_log.kp, b_law_log⟩
  have GRf := ok_ref (P := l.prog) (w := w) (base := base) B zS zE TBR gT knInvalidLog OT MK LA F_law_error g_law_error b_law_error lR cR
  have ORf : OnceF l.prog w K mg base "_law_refused" 15 ["_law_box", "_law_house_here", "_law_rows"] (spRef K C tbR) fR _ := ⟨GRf, PySem.W.mg_of X G aR, kR, bR⟩
  have LF : LawF l.prog w K mg base C CL CT tbR ce :=
    { Bg := ⟨_, _, OBe⟩, T := ⟨_, _, OT⟩, A := ⟨_, _, OAl⟩, L := ⟨_, _, OLg⟩, H := ⟨_, _, OHs⟩, R := ⟨_, _, ORf⟩,
      E := ⟨_, _, F_law_error, g_law_error, b_law_error⟩, wat := gT, knL := knInvalidLog, knH := knInvalidHands, mX := zM, hc := hc, LC := LC, M := ⟨_, _, MK⟩, LA := ⟨_, _, LA⟩,
      LG := ⟨_, _, _, ⟨⟨ppaG, ppgG, pptG, ⟨rG, at5⟩⟩, GGp, bt5⟩⟩, LL := ⟨_, _, ⟨GLn, at6, i6, fi6, bt6⟩⟩, LI := ⟨_, _, ⟨GIm, at7, i7, fi7, bt7⟩⟩, EL := ⟨_, _, ⟨GEl, at9, i9, fi9, bt9⟩⟩, EH := ⟨_, _, EH⟩,
      LU := ⟨_, _, ⟨GUt, ⟨at10, i10, kt10⟩, bt10⟩⟩, LW := ⟨_, _, ⟨GWa, ⟨at11, i11, kt11⟩, bt11⟩⟩ }
  exact ok_law LF B TB nab lL cL
end Kw

set_option Elab.async false
set_option linter.all false
open PySem PySem.W PyProof.Rows
set_option maxRecDepth 100000 in
set_option maxHeartbeats 0 in
theorem PySem.Challenge.cw_sealwatch_k04_logs_validated_holds : PySem.Challenge.rw_sealwatch_k04_logs_validated.Holds := by
  w_on; o_law; k_head; (case hw => w_witness2)
  k_fill
  refine LamX.walk_ofTs (l := PySem.Challenge.rw_sealwatch_k04_logs_validated) (n := 63) (k := 17) (CX := fun _ => L2.CX0) (x := "_law_script") rfl (by decide) rfl ⟨rfl, by decide, by decide⟩ (fun w h Y => PySem.W.km_in_of Y) ?F (fun _ _ _ _ _ z => z)
  case F =>
    intro w mg fa h Y KX G hmg
    refine' Kw.all_mk (tbL := 590) (tbR := 583) KX G hmg ?aC ?aCL ?aCT ?nInsideItself ?nInvalidCourse ?nInvalidHands ?nInvalidHouse ?nInvalidLog ?nInvalidNumber ?nIsSealed ?nNoCourse ?nNotHeld ?nNotInside ?nNotSealed ?nUnknownBox ?nUnknownHand ?nUnknownItem ?nUnknownSeal ?am0 ?lm0 ?cm0 ?km0 ?am1 ?lm1 ?cm1 ?km1 ?am2 ?lm2 ?cm2 ?km2 ?am3 ?lm3 ?cm3 ?km3 ?am4 ?lm4 ?cm4 ?km4 ?am5 ?lm5 ?cm5 ?km5 ?am6 ?lm6 ?cm6 ?km6 ?am7 ?lm7 ?cm7 ?km7 ?am8 ?lm8 ?cm8 ?km8 ?am9 ?lm9 ?cm9 ?km9 ?am10 ?lm10 ?cm10 ?km10 ?am11 ?lm11 ?cm11 ?km11 ?am12 ?lm12 ?cm12 ?km12 ?am13 ?lm13 ?cm13 ?km13 ?am14 ?lm14 ?cm14 ?km14 ?am15 ?lm15 ?cm15 ?km15 ?am16 ?lm16 ?cm16 ?km16 ?am17 ?lm17 ?cm17 ?km17 ?am18 ?lm18 ?cm18 ?km18 ?am19 ?lm19 ?cm19 ?km19 ?am20 ?lm20 ?cm20 ?km20 ?am21 ?lm21 ?cm21 ?km21 ?am22 ?lm22 ?cm22 ?km22 ?am23 ?lm23 ?cm23 ?km23 ?am24 ?lm24 ?cm24 ?km24 ?am25 ?lm25 ?cm25 ?km25 ?am26 ?lm26 ?cm26 ?km26 ?am27 ?lm27 ?cm27 ?km27 ?am28 ?lm28 ?cm28 ?km28 ?am29 ?lm29 ?cm29 ?km29 ?am30 ?lm30 ?cm30 ?km30 ?am31 ?lm31 ?cm31 ?km31 ?am32 ?lm32 ?cm32 ?km32 ?am33 ?lm33 ?cm33 ?km33 ?am34 ?lm34 ?cm34 ?km34 ?at0 ?lt0 ?ct0 ?kt0 ?i0 ?at1 ?lt1 ?ct1 ?kt1 ?i1 ?at2 ?lt2 ?ct2 ?kt2 ?i2 ?ppaI ?at3 ?lt3 ?ct3 ?kt3 ?ppgI ?pptI ?at4 ?lt4 ?ct4 ?kt4 ?i4 ?ppaG ?at5 ?lt5 ?ct5 ?kt5 ?ppgG ?pptG ?at6 ?lt6 ?ct6 ?kt6 ?i6 ?fi6 ?at7 ?lt7 ?ct7 ?kt7 ?i7 ?fi7 ?at8 ?lt8 ?ct8 ?kt8 ?i8 ?at9 ?lt9 ?ct9 ?kt9 ?i9 ?fi9 ?at10 ?lt10 ?ct10 ?kt10 ?i10 ?at11 ?lt11 ?ct11 ?kt11 ?i11 ?aL ?lL ?cL ?hcdL ?ntbL ?aR ?lR ?cR ?hcdR ?ntbR ?kR ?nab ?chn ?cht ?hpg ?hhd ?hpo ?hsa ?hmk ?hkc ?hha ?hhm ?hkk ?gpg ?ghd ?gpo ?gsa ?gmk ?gkc ?gha ?ghm ?gkk ?nH ?nB ?nT ?nS ?nSt ?lnH ?lnR ?adf ?adl ?adq ?adr ?xtp ?xtop ?xLInvalidHouse ?xvInvalidHouse ?xaInvalidHouse ?xsaInvalidHouse ?xexInvalidHouse ?xtyInvalidHouse ?xkcInvalidHouse ?xveInvalidHouse ?xseInvalidHouse ?xnPInvalidHouse ?xnIInvalidHouse ?xiInvalidHouse ?xitInvalidHouse ?xilInvalidHouse ?xicInvalidHouse ?xclInvalidHouse ?xcfInvalidHouse ?xffInvalidHouse ?xccInvalidHouse ?xLInvalidHands ?xvInvalidHands ?xaInvalidHands ?xsaInvalidHands ?xexInvalidHands ?xtyInvalidHands ?xkcInvalidHands ?xveInvalidHands ?xseInvalidHands ?xnPInvalidHands ?xnIInvalidHands ?xiInvalidHands ?xitInvalidHands ?xilInvalidHands ?xicInvalidHands ?xclInvalidHands ?xcfInvalidHands ?xffInvalidHands ?xccInvalidHands ?xLInvalidLog ?xvInvalidLog ?xaInvalidLog ?xsaInvalidLog ?xexInvalidLog ?xtyInvalidLog ?xkcInvalidLog ?xveInvalidLog ?xseInvalidLog ?xnPInvalidLog ?xnIInvalidLog ?xiInvalidLog ?xitInvalidLog ?xilInvalidLog ?xicInvalidLog ?xclInvalidLog ?xcfInvalidLog ?xffInvalidLog ?xccInvalidLog ?wbe ?wcl ?wty ?egaInvalidHands ?eggInvalidHands ?ehdInvalidHands ?ehaInvalidHands ?ehmInvalidHands ?ewsuInvalidHands ?ekveInvalidHands ?qInvalidHands_InsideItself ?qInvalidHands_InvalidCourse ?qInvalidHands_InvalidHands ?qInvalidHands_InvalidHouse ?qInvalidHands_InvalidLog ?qInvalidHands_InvalidNumber ?qInvalidHands_IsSealed ?qInvalidHands_NoCourse ?qInvalidHands_NotHeld ?qInvalidHands_NotInside ?qInvalidHands_NotSealed ?qInvalidHands_UnknownBox ?qInvalidHands_UnknownHand ?qInvalidHands_UnknownItem ?qInvalidHands_UnknownSeal ?egaInvalidLog ?eggInvalidLog ?ehdInvalidLog ?ehaInvalidLog ?ehmInvalidLog ?ewsuInvalidLog ?ekveInvalidLog ?qInvalidLog_InsideItself ?qInvalidLog_InvalidCourse ?qInvalidLog_InvalidHands ?qInvalidLog_InvalidHouse ?qInvalidLog_InvalidLog ?qInvalidLog_InvalidNumber ?qInvalidLog_IsSealed ?qInvalidLog_NoCourse ?qInvalidLog_NotHeld ?qInvalidLog_NotInside ?qInvalidLog_NotSealed ?qInvalidLog_UnknownBox ?qInvalidLog_UnknownHand ?qInvalidLog_UnknownItem ?qInvalidLog_UnknownSeal ?eexUnknownHand ?ekpUnknownHand ?esbUnknownHand ?etyUnknownHand ?ewsuUnknownHand ?eexUnknownItem ?ekpUnknownItem ?esbUnknownItem ?etyUnknownItem ?ewsuUnknownItem ?eexUnknownBox ?ekpUnknownBox ?esbUnknownBox ?etyUnknownBox ?ewsuUnknownBox ?eexUnknownSeal ?ekpUnknownSeal ?esbUnknownSeal ?etyUnknownSeal ?ewsuUnknownSeal ?eexInsideItself ?ekpInsideItself ?esbInsideItself ?etyInsideItself ?ewsuInsideItself ?zisinstance ?zint ?zbool ?zlen ?zenumerate ?ztuple ?zlist ?zrange ?zstr ?zValueError ?zsuper ?zsorted ?zset ?zmax ?jh ?jb ?jt ?js ?jr ?dA ?dL ?dS ?dV ?hTL ?hTR
    (case aC => k_is)
    (case aCL => k_is)
    (case aCT => k_is)
    (case nInsideItself => k_is)
    (case nInvalidCourse => k_is)
    (case nInvalidHands => k_is)
    (case nInvalidHouse => k_is)
    (case nInvalidLog => k_is)
    (case nInvalidNumber => k_is)
    (case nIsSealed => k_is)
    (case nNoCourse => k_is)
    (case nNotHeld => k_is)
    (case nNotInside => k_is)
    (case nNotSealed => k_is)
    (case nUnknownBox => k_is)
    (case nUnknownHand => k_is)
    (case nUnknownItem => k_is)
    (case nUnknownSeal => k_is)
    (case am0 => k_is)
    (case lm0 => k_is)
    (case cm0 => k_is)
    (case km0 => k_is)
    (case am1 => k_is)
    (case lm1 => k_is)
    (case cm1 => k_is)
    (case km1 => k_is)
    (case am2 => k_is)
    (case lm2 => k_is)
    (case cm2 => k_is)
    (case km2 => k_is)
    (case am3 => k_is)
    (case lm3 => k_is)
    (case cm3 => k_is)
    (case km3 => k_is)
    (case am4 => k_is)
    (case lm4 => k_is)
    (case cm4 => k_is)
    (case km4 => k_is)
    (case am5 => k_is)
    (case lm5 => k_is)
    (case cm5 => k_is)
    (case km5 => k_is)
    (case am6 => k_is)
    (case lm6 => k_is)
    (case cm6 => k_is)
    (case km6 => k_is)
    (case am7 => k_is)
    (case lm7 => k_is)
    (case cm7 => k_is)
    (case km7 => k_is)
    (case am8 => k_is)
    (case lm8 => k_is)
    (case cm8 => k_is)
    (case km8 => k_is)
    (case am9 => k_is)
    (case lm9 => k_is)
    (case cm9 => k_is)
    (case km9 => k_is)
    (case am10 => k_is)
    (case lm10 => k_is)
    (case cm10 => k_is)
    (case km10 => k_is)
    (case am11 => k_is)
    (case lm11 => k_is)
    (case cm11 => k_is)
    (case km11 => k_is)
    (case am12 => k_is)
    (case lm12 => k_is)
    (case cm12 => k_is)
    (case km12 => k_is)
    (case am13 => k_is)
    (case lm13 => k_is)
    (case cm13 => k_is)
    (case km13 => k_is)
    (case am14 => k_is)
    (case lm14 => k_is)
    (case cm14 => k_is)
    (case km14 => k_is)
    (case am15 => k_is)
    (case lm15 => k_is)
    (case cm15 => k_is)
    (case km15 => k_is)
    (case am16 => k_is)
    (case lm16 => k_is)
    (case cm16 => k_is)
    (case km16 => k_is)
    (case am17 => k_is)
    (case lm17 => k_is)
    (case cm17 => k_is)
    (case km17 => k_is)
    (case am18 => k_is)
    (case lm18 => k_is)
    (case cm18 => k_is)
    (case km18 => k_is)
    (case am19 => k_is)
    (case lm19 => k_is)
    (case cm19 => k_is)
    (case km19 => k_is)
    (case am20 => k_is)
    (case lm20 => k_is)
    (case cm20 => k_is)
    (case km20 => k_is)
    (case am21 => k_is)
    (case lm21 => k_is)
    (case cm21 => k_is)
    (case km21 => k_is)
    (case am22 => k_is)
    (case lm22 => k_is)
    (case cm22 => k_is)
    (case km22 => k_is)
    (case am23 => k_is)
    (case lm23 => k_is)
    (case cm23 => k_is)
    (case km23 => k_is)
    (case am24 => k_is)
    (case lm24 => k_is)
    (case cm24 => k_is)
    (case km24 => k_is)
    (case am25 => k_is)
    (case lm25 => k_is)
    (case cm25 => k_is)
    (case km25 => k_is)
    (case am26 => k_is)
    (case lm26 => k_is)
    (case cm26 => k_is)
    (case km26 => k_is)
    (case am27 => k_is)
    (case lm27 => k_is)
    (case cm27 => k_is)
    (case km27 => k_is)
    (case am28 => k_is)
    (case lm28 => k_is)
    (case cm28 => k_is)
    (case km28 => k_is)
    (case am29 => k_is)
    (case lm29 => k_is)
    (case cm29 => k_is)
    (case km29 => k_is)
    (case am30 => k_is)
    (case lm30 => k_is)
    (case cm30 => k_is)
    (case km30 => k_is)
    (case am31 => k_is)
    (case lm31 => k_is)
    (case cm31 => k_is)
    (case km31 => k_is)
    (case am32 => k_is)
    (case lm32 => k_is)
    (case cm32 => k_is)
    (case km32 => k_is)
    (case am33 => k_is)
    (case lm33 => k_is)
    (case cm33 => k_is)
    (case km33 => k_is)
    (case am34 => k_is)
    (case lm34 => k_is)
    (case cm34 => k_is)
    (case km34 => k_is)
    (case at0 => k_is)
    (case lt0 => k_is)
    (case ct0 => k_is)
    (case kt0 => k_is)
    (case i0 => k_is)
    (case at1 => k_is)
    (case lt1 => k_is)
    (case ct1 => k_is)
    (case kt1 => k_is)
    (case i1 => k_is)
    (case at2 => k_is)
    (case lt2 => k_is)
    (case ct2 => k_is)
    (case kt2 => k_is)
    (case i2 => k_is)
    (case ppaI => k_is)
    (case at3 => k_is)
    (case lt3 => k_is)
    (case ct3 => k_is)
    (case kt3 => k_is)
    (case ppgI => k_is)
    (case pptI => k_is)
    (case at4 => k_is)
    (case lt4 => k_is)
    (case ct4 => k_is)
    (case kt4 => k_is)
    (case i4 => k_is)
    (case ppaG => k_is)
    (case at5 => k_is)
    (case lt5 => k_is)
    (case ct5 => k_is)
    (case kt5 => k_is)
    (case ppgG => k_is)
    (case pptG => k_is)
    (case at6 => k_is)
    (case lt6 => k_is)
    (case ct6 => k_is)
    (case kt6 => k_is)
    (case i6 => k_is)
    (case fi6 => k_is)
    (case at7 => k_is)
    (case lt7 => k_is)
    (case ct7 => k_is)
    (case kt7 => k_is)
    (case i7 => k_is)
    (case fi7 => k_is)
    (case at8 => k_is)
    (case lt8 => k_is)
    (case ct8 => k_is)
    (case kt8 => k_is)
    (case i8 => k_is)
    (case at9 => k_is)
    (case lt9 => k_is)
    (case ct9 => k_is)
    (case kt9 => k_is)
    (case i9 => k_is)
    (case fi9 => k_is)
    (case at10 => k_is)
    (case lt10 => k_is)
    (case ct10 => k_is)
    (case kt10 => k_is)
    (case i10 => k_is)
    (case at11 => k_is)
    (case lt11 => k_is)
    (case ct11 => k_is)
    (case kt11 => k_is)
    (case i11 => k_is)
    (case aL => k_is)
    (case lL => k_is)
    (case cL => k_is)
    (case hcdL => first | rfl | kernel_rfl | decide +kernel)
    (case ntbL => first | rfl | kernel_rfl | decide +kernel)
    (case aR => k_is)
    (case lR => k_is)
    (case cR => k_is)
    (case hcdR => first | rfl | kernel_rfl | decide +kernel)
    (case ntbR => first | rfl | kernel_rfl | decide +kernel)
    (case kR => k_is)
    (case nab => decide)
    (case chn => k_is)
    (case cht => k_is)
    (case hpg => k_is)
    (case hhd => k_is)
    (case hpo => k_is)
    (case hsa => k_is)
    (case hmk => k_is)
    (case hkc => k_is)
    (case hha => k_is)
    (case hhm => k_is)
    (case hkk => kit_is)
    (case gpg => k_is)
    (case ghd => k_is)
    (case gpo => k_is)
    (case gsa => k_is)
    (case gmk => k_is)
    (case gkc => k_is)
    (case gha => k_is)
    (case ghm => k_is)
    (case gkk => kit_is)
    (case nH => k_is)
    (case nB => k_is)
    (case nT => k_is)
    (case nS => k_is)
    (case nSt => k_is)
    (case lnH => k_is)
    (case lnR => k_is)
    (case adf => k_is)
    (case adl => k_is)
    (case adq => first | rfl | kernel_rfl | decide +kernel)
    (case adr => k_is)
    (case xtp => k_is)
    (case xtop => first | rfl | kernel_rfl | decide +kernel)
    (case xLInvalidHouse => k_is)
    (case xvInvalidHouse => first | rfl | kernel_rfl | decide +kernel)
    (case xaInvalidHouse => first | rfl | kernel_rfl | decide +kernel)
    (case xsaInvalidHouse => k_is)
    (case xexInvalidHouse => k_is)
    (case xtyInvalidHouse => k_is)
    (case xkcInvalidHouse => k_is)
    (case xveInvalidHouse => k_is)
    (case xseInvalidHouse => k_is)
    (case xnPInvalidHouse => k_is)
    (case xnIInvalidHouse => k_is)
    (case xiInvalidHouse => k_is)
    (case xitInvalidHouse => k_is)
    (case xilInvalidHouse => k_is)
    (case xicInvalidHouse => k_is)
    (case xclInvalidHouse => k_is)
    (case xcfInvalidHouse => first | rfl | kernel_rfl | decide +kernel)
    (case xffInvalidHouse => first | rfl | kernel_rfl | decide +kernel)
    (case xccInvalidHouse => k_is)
    (case xLInvalidHands => k_is)
    (case xvInvalidHands => first | rfl | kernel_rfl | decide +kernel)
    (case xaInvalidHands => first | rfl | kernel_rfl | decide +kernel)
    (case xsaInvalidHands => k_is)
    (case xexInvalidHands => k_is)
    (case xtyInvalidHands => k_is)
    (case xkcInvalidHands => k_is)
    (case xveInvalidHands => k_is)
    (case xseInvalidHands => k_is)
    (case xnPInvalidHands => k_is)
    (case xnIInvalidHands => k_is)
    (case xiInvalidHands => k_is)
    (case xitInvalidHands => k_is)
    (case xilInvalidHands => k_is)
    (case xicInvalidHands => k_is)
    (case xclInvalidHands => k_is)
    (case xcfInvalidHands => first | rfl | kernel_rfl | decide +kernel)
    (case xffInvalidHands => first | rfl | kernel_rfl | decide +kernel)
    (case xccInvalidHands => k_is)
    (case xLInvalidLog => k_is)
    (case xvInvalidLog => first | rfl | kernel_rfl | decide +kernel)
    (case xaInvalidLog => first | rfl | kernel_rfl | decide +kernel)
    (case xsaInvalidLog => k_is)
    (case xexInvalidLog => k_is)
    (case xtyInvalidLog => k_is)
    (case xkcInvalidLog => k_is)
    (case xveInvalidLog => k_is)
    (case xseInvalidLog => k_is)
    (case xnPInvalidLog => k_is)
    (case xnIInvalidLog => k_is)
    (case xiInvalidLog => k_is)
    (case xitInvalidLog => k_is)
    (case xilInvalidLog => k_is)
    (case xicInvalidLog => k_is)
    (case xclInvalidLog => k_is)
    (case xcfInvalidLog => first | rfl | kernel_rfl | decide +kernel)
    (case xffInvalidLog => first | rfl | kernel_rfl | decide +kernel)
    (case xccInvalidLog => k_is)
    (case wbe => k_is)
    (case wcl => k_is)
    (case wty => k_is)
    (case egaInvalidHands => k_is)
    (case eggInvalidHands => k_is)
    (case ehdInvalidHands => k_is)
    (case ehaInvalidHands => k_is)
    (case ehmInvalidHands => k_is)
    (case ewsuInvalidHands => k_is)
    (case ekveInvalidHands => kit_is)
    (case qInvalidHands_InsideItself => kit_is)
    (case qInvalidHands_InvalidCourse => kit_is)
    (case qInvalidHands_InvalidHands => kit_is)
    (case qInvalidHands_InvalidHouse => kit_is)
    (case qInvalidHands_InvalidLog => kit_is)
    (case qInvalidHands_InvalidNumber => kit_is)
    (case qInvalidHands_IsSealed => kit_is)
    (case qInvalidHands_NoCourse => kit_is)
    (case qInvalidHands_NotHeld => kit_is)
    (case qInvalidHands_NotInside => kit_is)
    (case qInvalidHands_NotSealed => kit_is)
    (case qInvalidHands_UnknownBox => kit_is)
    (case qInvalidHands_UnknownHand => kit_is)
    (case qInvalidHands_UnknownItem => kit_is)
    (case qInvalidHands_UnknownSeal => kit_is)
    (case egaInvalidLog => k_is)
    (case eggInvalidLog => k_is)
    (case ehdInvalidLog => k_is)
    (case ehaInvalidLog => k_is)
    (case ehmInvalidLog => k_is)
    (case ewsuInvalidLog => k_is)
    (case ekveInvalidLog => kit_is)
    (case qInvalidLog_InsideItself => kit_is)
    (case qInvalidLog_InvalidCourse => kit_is)
    (case qInvalidLog_InvalidHands => kit_is)
    (case qInvalidLog_InvalidHouse => kit_is)
    (case qInvalidLog_InvalidLog => kit_is)
    (case qInvalidLog_InvalidNumber => kit_is)
    (case qInvalidLog_IsSealed => kit_is)
    (case qInvalidLog_NoCourse => kit_is)
    (case qInvalidLog_NotHeld => kit_is)
    (case qInvalidLog_NotInside => kit_is)
    (case qInvalidLog_NotSealed => kit_is)
    (case qInvalidLog_UnknownBox => kit_is)
    (case qInvalidLog_UnknownHand => kit_is)
    (case qInvalidLog_UnknownItem => kit_is)
    (case qInvalidLog_UnknownSeal => kit_is)
    (case eexUnknownHand => first | rfl | kernel_rfl | decide +kernel)
    (case ekpUnknownHand => k_is)
    (case esbUnknownHand => k_is)
    (case etyUnknownHand => k_is)
    (case ewsuUnknownHand => k_is)
    (case eexUnknownItem => first | rfl | kernel_rfl | decide +kernel)
    (case ekpUnknownItem => k_is)
    (case esbUnknownItem => k_is)
    (case etyUnknownItem => k_is)
    (case ewsuUnknownItem => k_is)
    (case eexUnknownBox => first | rfl | kernel_rfl | decide +kernel)
    (case ekpUnknownBox => k_is)
    (case esbUnknownBox => k_is)
    (case etyUnknownBox => k_is)
    (case ewsuUnknownBox => k_is)
    (case eexUnknownSeal => first | rfl | kernel_rfl | decide +kernel)
    (case ekpUnknownSeal => k_is)
    (case esbUnknownSeal => k_is)
    (case etyUnknownSeal => k_is)
    (case ewsuUnknownSeal => k_is)
    (case eexInsideItself => first | rfl | kernel_rfl | decide +kernel)
    (case ekpInsideItself => k_is)
    (case esbInsideItself => k_is)
    (case etyInsideItself => k_is)
    (case ewsuInsideItself => k_is)
    (case zisinstance => k_is)
    (case zint => k_is)
    (case zbool => k_is)
    (case zlen => k_is)
    (case zenumerate => k_is)
    (case ztuple => k_is)
    (case zlist => k_is)
    (case zrange => k_is)
    (case zstr => k_is)
    (case zValueError => k_is)
    (case zsuper => k_is)
    (case zsorted => k_is)
    (case zset => k_is)
    (case zmax => k_is)
    (case jh => k_is)
    (case jb => k_is)
    (case jt => k_is)
    (case js => k_is)
    (case jr => k_is)
    (case dA => k_is)
    (case dL => k_is)
    (case dS => decide)
    (case dV => exact .cons ⟨_, rfl⟩ (.cons ⟨_, rfl⟩ (.cons ⟨_, rfl⟩ (.cons ⟨_, rfl⟩ (.cons ⟨_, rfl⟩ .nil)))))
    (case hTL => exact PySem.W.km_tabs_of Y 590 (by decide))
    (case hTR => exact PySem.W.km_tabs_of Y 583 (by decide))
#print axioms PySem.Challenge.cw_sealwatch_k04_logs_validated_holds
