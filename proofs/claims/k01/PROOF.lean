import PyProof.Rows.All
import Wide.All
import OpenK.AllK
import Wide.FinOn
import PyProof.EqAt
import PyProof.EqKinds
import PyProof.TupleCall
import KE.KExcSuper
import HandS.Base
import HandS.Call
import HandS.List
import HandS.Ends
import HandS.Exc
import HandS.ExcInit
import KE.GoesMore
import HandS.Iter
import KE.KIsAll
import KE.KTryMore
import HandS.ExcIs
import HandS.Deep
import HandS.Words
import HandS.ForExc
import HandS.Comp
import HandS.FStr
import HandS.Property
import HandS.IsInst
import HandS.TupAny
import HandS.RaiseMore
import PySem.Challenge.RW_sealwatch_k01_houses_validated
import HandS.StrMore
import HandS.Lambda
import HandS.ExcField
import HandS.EndTab
set_option Elab.async false
set_option linter.all false
set_option maxRecDepth 100000
set_option maxHeartbeats 4000000
/-! An own exception class (over own classes over ValueError) whose `__init__` begins with `super().__init__(text)` and then stores fields: its promise (FnOk), so that pmk_oex serves it. -/
namespace Kw
open PySem PySem.Spec PyProof.Rows L2

/-- the scope of such an __init__: parameters alone, the class's cell, the name super -/
structure SupScope (N : List Str) (sc : Scope) : Prop where
  kind : sc.kind = .function
  co : sc.isCoroutine = false
  gen : sc.isGenerator = false
  nd : N.Nodup
  par : ∀ x ∈ N, sc.names.lookup x = some .local
  nocell : ∀ y ∈ sc.names, y.2 ≠ .cell
  onlyFree : ∀ y, sc.names.lookup y = some .free → y = ("__class__" : Str)
  cls : sc.names.lookup ("__class__" : Str) = some .free
  sup : sc.names.lookup ("super" : Str) = some .globalImplicit

abbrev sEnv (qual : Str) (scope : Scope) (L f : Addr) (cd : Value) (cc : Addr) : Env := PySem.W.ksEnv qual scope L f cd cc

/-- the context of the body -/
def supCx (CX : CXT) (P : Program) (w : World) (K : PySem.W.Frag) (mg : Str → Option Value) (base : Heap) (N : List Str) (qual : Str) (scope : Scope) (f : Addr) (cd : Value) (cc : Addr) (A : Around) (outer : List Env) (s : Shared) (H : Hp) (E : XK) : Cx where
  prog := P
  w := w
  K := K
  mg := mg
  base := base
  A := A.deeper (sEnv qual scope s.heap.objs.size f cd cc)
  N := N
  s_0 := s
  H_0 := H
  env := sEnv qual scope s.heap.objs.size f cd cc
  outer := outer
  stack := sEnv qual scope s.heap.objs.size f cd cc :: outer
  ex := []
  calm := true
  fn := fun _ => false
  pn := []
  xe := fun e s' => wpAny (model P w) (A.deeper (sEnv qual scope s.heap.objs.size f cd cc)) (leaving (sEnv qual scope s.heap.objs.size f cd cc) e) (fun _ s'' => CX outer H s E e s'') (fun e' s'' => CX outer H s E e' s'') s'

section
variable {CX : CXT} {P : Program} {w : World} {K : PySem.W.Frag} {mg : Str → Option Value} {base : Heap} {N : List Str} {qual : Str} {scope : Scope} {f cc : Addr} {cd : Value} {A : Around} {outer : List Env} {s : Shared} {H : Hp} {E : XK}
theorem sup_start {us : List Value} {vs : List V} {h1 : Heap} {tk : Nat} {D : Addr} {ccl : Value} {ccd : Option Addr} {ccs : Array (Option Value)} (S : SupScope N scope) (hd : A.handled = none) (e0 : Env0 P w K mg base A outer s H) (hl : vs.length = N.length) (r : Vals vs us)
    (hcell : K.lookup cc = some ⟨ccl, ccd, .cell (some (.ref D)), ccs⟩)
    (hns : h1.Ns s.heap.objs.size (fun x => (N.zip us).reverse.lookup x)) (hk : ∀ b o, s.heap.get? b = some o → h1.get? b = some o) :
    Inv (supCx CX P w K mg base N qual scope f cd cc A outer s H E) [] (vs.map some) H { s with heap := h1, toks := tk } := by
  have noA : ∀ b : Addr, b ∉ (supCx CX P w K mg base N qual scope f cd cc A outer s H E).ex := fun b z => absurd (show b ∈ ([] : List Addr) from z) (by simp)
  have KX := e0.mod.kin
  have hcb := KX _ _ hcell
  have cells : ∀ {y c}, (supCx CX P w K mg base N qual scope f cd cc A outer s H E).env.cells.lookup y = some c → y = ("__class__" : Str) ∧ c = cc := fun {y c} h => by
    have h' : List.lookup y [(("__class__" : Str), cc)] = some c := h
    by_cases e : y = ("__class__" : Str)
    · subst e
      have q : List.lookup ("__class__" : Str) [(("__class__" : Str), cc)] = some cc := by simp [List.lookup]
      rw [q] at h'
      exact ⟨rfl, (Option.some.inj h').symm⟩
    · have q : (y == ("__class__" : Str)) = false := by simpa using e
      simp [List.lookup, q] at h'
  refine ⟨⟨e0.mod, S.kind, rfl, rfl, Nat.le_refl _, fun y z c h1 h2 => (cells h1).1.trans (cells h2).1.symm, fun y hy => ?_, fun y c h _ => Bool.noConfusion (show false = true from h), fun _ => hd, Around.frames_deeper e0.frames, .inr ⟨rfl, rfl⟩, fun b z => absurd z (noA b), e0.bs, e0.bsz, fun b _ _ => noA b, fun b z => absurd z (noA b), e0.funs, e0.frf⟩,
    rfl, e0.bare, Un.kept hk, ⟨_, hns, fun i y v h1 h2 h3 => ?_⟩, fun y c h => ?_, e0.hok.fresh (Nat.le_refl _), fun y c h => ?_, fun p hp => absurd (show p ∈ ([] : List (Addr × Obj)) from hp) (by simp), e0.hok.kept hk, ?_⟩
  · have hy : scope.names.lookup y = some .cell ∨ scope.names.lookup y = some .free := hy
    rcases hy with hy | hy
    · exact absurd rfl (S.nocell _ (PySem.mem_of_lookup hy))
    · have e := S.onlyFree y hy
      subst e
      exact ⟨cc, by show List.lookup ("__class__" : Str) [(("__class__" : Str), cc)] = some cc; simp [List.lookup]⟩
  · rw [List.getElem?_map] at h2
    cases e : vs[i]? with
    | none =>
      rw [e] at h2
      cases h2
    | some a =>
      rw [e] at h2
      cases h2
      obtain ⟨u, hu, rv⟩ := r.get e
      have hp : N[i]? = some y := h1
      refine ⟨u, rv, .inl ⟨S.par y (List.mem_of_getElem? hp), ?_⟩⟩
      have hlen := r.length
      -- the place of y in the reversed bindings
      have key : ∀ (N : List Str) (us : List Value) (i : Nat), N.Nodup → N[i]? = some y → us[i]? = some u → (N.zip us).reverse.lookup y = some u := by
        intro N
        induction N with
        | nil => intro us i _ h; simp at h
        | cons n N ih =>
          intro us i nd h1 h2
          cases us with
          | nil => simp at h2
          | cons u0 us =>
            rw [List.zip_cons_cons, List.reverse_cons]
            cases i with
            | zero =>
              simp at h1 h2
              subst h1 h2
              have hn : (N.zip us).reverse.lookup n = none := by
                have hnn := (List.nodup_cons.mp nd).1
                cases q : (N.zip us).reverse.lookup n with
                | none => rfl
                | some z =>
                  have hm := PySem.mem_of_lookup q
                  exact absurd (List.of_mem_zip (List.mem_reverse.mp hm)).1 hnn
              rw [List.lookup_append, hn]
              simp [List.lookup]
            | succ i =>
              have q := ih us i (List.nodup_cons.mp nd).2 (by simpa using h1) (by simpa using h2)
              rw [List.lookup_append, q]
              rfl
      exact key N us i S.nd hp hu
  · obtain ⟨_, rfl⟩ := cells h
    exact ⟨_, _, hk _ _ (e0.bs _ _ hcb).1, rfl⟩
  · obtain ⟨_, rfl⟩ := cells h
    exact (e0.bs _ _ hcb).2
  · show (vs.map some).length = N.length
    rw [List.length_map, hl]
end

/-! ### super().__init__(text) on an exception that is being made -/
/-- what the written part says: the class at C that is made, the class at D in whose body the __init__ stands (here the same) -/
structure SupC (prog : Program) (K : PySem.W.Frag) (mg : Str → Option Value) (C : Addr) : Prop where
  oex : OexC K C
  along : ∃ nm q N bs bm sn sub ab col dd k0 k1 k2 k3 k5, K.lookup C = some (excClassObj nm q C N bs bm true sn sub ab col dd k0 k1 k2 k3 k5 "ValueError.__new__") ∧ PySem.HandSPX.refsVE bm = true ∧
    PySem.W.alongIn K "__init__" ((((Value.ref C :: bm).dropWhile (· != .ref C)).drop 1)) = some (some (.builtin "ValueError.__init__"))
  tp : PySem.W.nsIn K cStatics "thirdparty.any" = some none
  sup : mg "super" = none
  isVE : PySem.W.subIn K (.ref C) (.type "ValueError") = some true
  self : PySem.W.mroIn K C (.ref C) = some true
  htop : (prog.main.scope.names.lookup ("super" : Str)).isSome = false

theorem boot_super : bootBuiltins "super" = some (.type "super") := by first | boot_by_name | rfl | kernel_rfl

section
variable {X : Cx} {pins : List (Addr × Obj)} {σ : L2.St} {H : Hp} {s : Shared} {a C : Addr} {E : Value → Shared → Prop} {A : Around}
/-- the built-in __init__, bound: nothing of it is told -/
theorem bw_ok {us : List Value} {u : Addr} {Q : Value → Shared → Prop} (T : OexC X.K C) (I : Inv X pins σ H s) (e : H a = some (exo a C none)) (hu : s.heap.get? u = some (PySem.W.kxs_mw "ValueError.__init__" a)) (hl : us.length ≤ sizeLine) (h : ∀ s', Inv X pins σ H s' → Q .none s') :
    wpAny (model X.prog X.w) A (call (.ref u) us) Q E s := by
  obtain ⟨nm, q, N, bs, bm, sn, sub, ab, col, dd, k0, k1, k2, k3, k5, hC, hbm⟩ := T.cls
  obtain ⟨t1, ho⟩ := exo_at I.hok e
  have hCk := I.kIn _ _ hC
  obtain ⟨hp, g, d, t, os⟩ := s
  have fin : ∀ h' : Heap, (∀ b o, b ≠ a → hp.get? b = some o → h'.get? b = some o) → h'.get? a = some (PySem.HandSPX.excO C hp.objs.size) → h'.get? hp.objs.size = some (PySem.W.excTup us) → Q .none ⟨h', g, d, t, os⟩ := fun h' k hx _ => by
    have J := I.write (t' := t) (x := a) (e := a) (o := exo a C none) (by rw [e]; exact True.intro) (.inl rfl) k ⟨_, hx⟩ (exo_ok hx)
    have eu : upd H a (exo a C none) = H := by
      funext b
      by_cases hb : b = a
      · rw [hb, upd_same, e]
      · rw [upd_ne hb]
    rw [eu] at J
    exact h _ J
  refine wpAny_call (codeAny_of_tree ?_)
  show wpAny _ A.in1 (callAny (.ref u) ⟨us, []⟩) _ _ _
  simp only [callAny]
  refine wpAny_bind (wpAny_load hu ?_)
  simp only [PySem.W.kxs_mw, show (Value.type "method-wrapper" == Value.type "method" || Value.type "method-wrapper" == Value.type "builtin_function_or_method" || Value.type "method-wrapper" == Value.type "method-wrapper") = true by decide, if_true]
  refine PySem.W.KFB.if_so (by decide) ?_
  refine wpAny_bind (PySem.W.check_bound_init F.excBase_ValueError.toExcCallFacts hCk ho rfl ?_)
  refine wpAny_bind (wpAny_pure (wpAny_pure ?_))
  refine ⟨plainId_quiet F.excBase_ValueError.init.plain _, codeAny_builtin F.excBase_ValueError.initEntry ?_⟩
  exact PySem.W.exc_init_tree (cls := .ref C) (t0 := t1) (dv := none) (c2 := .none) (c3 := .none) (b4 := .bool false) ho hl fin
end

/-! ### the body: super().__init__(e); the rest -/
/-- the reading: e a text, then self is an exception that is being made, then the rest -/
def tSup (C : Addr) (te : TE) (t : TS) : TS := fun D σ H => te σ H fun v H1 => (∃ z, v = .str z) ∧ ∃ a, σ[0]? = some (some (.ref a)) ∧ H1 a = some (exo a C none) ∧ t D σ H1
abbrev supCall (e : Expr) (p0 p1 p2 p3 : Pos) : Expr := .Call (.Attribute (.Call (.Name "super" p0) [] [] p1) "__init__" p2) [e] [] p3
section
variable {CX : CXT} {P : Program} {w : World} {K : PySem.W.Frag} {mg : Str → Option Value} {base : Heap} {k : Nat} {N : List Str} {name qual : Str} {scope : Scope} {params : Arguments} {f cc cda C : Addr} {ar : Arg} {vsC : Array Value} {fileS : Str} {tf : Tok}
  {dV kV doc pm ct oc ccl cl : Value} {an od cdd cld : Option Addr} {osl ccs csl : Array (Option Value)} {e : Expr} {rest : List Stmt} {p0 p1 p2 p3 p4 : Pos} {sp : Sp} {pl : Addr → Sem Bool}
theorem fn_super (T : SupC P K mg C)
    (lk : K.lookup f = some ⟨oc, od, .func (PySem.W.ksFn name qual params (.Expr (supCall e p0 p1 p2 p3) p4 :: rest) scope dV kV doc pm an (.ref cda) ct cc), osl⟩) (hcd : PySem.W.codeIn K (.ref cda) qual = true)
    (hp : (params.posonlyargs ++ params.args).head? = some ar) (hself : N[0]? = some ar.arg)
    (hcode : K.lookup cda = some ⟨ccl, cdd, .fields vsC, ccs⟩) (hvs : vsC[2]? = some (.str fileS tf)) (hfile : ((P.main.file : Str) == fileS) = true)
    (hcell : K.lookup cc = some ⟨cl, cld, .cell (some (.ref C)), csl⟩)
    (S : SupScope N scope) (len : ∀ vs H Q E, sp vs H Q E → vs.length = N.length)
    (hsw : ∀ L, swapsWith (supCall e p0 p1 p2 p3) none p4.line (sEnv qual scope L f (.ref cda) cc) = pure false)
    (hev : ∀ L, eval (supCall e p0 p1 p2 p3) (sEnv qual scope L f (.ref cda) cc) = (do
      let ov ← attributeBase (.Call (.Name "super" p0) [] [] p1) "__init__" (sEnv qual scope L f (.ref cda) cc) (eval (.Call (.Name "super" p0) [] [] p1) (sEnv qual scope L f (.ref cda) cc))
      standAt p2.atName
      let (g, first) ← holding [ov] (getMethod ov "__init__" (pl L))
      callWith p3 g first (backTo p3 (starEach [e] (sEnv qual scope L f (.ref cda) cc))) []))
    (hst : ∀ L, starEach [e] (sEnv qual scope L f (.ref cda) cc) = [(false, eval e (sEnv qual scope L f (.ref cda) cc))])
    (hbody : ∀ (A : Around) (outer : List Env) (s : Shared) (H : Hp) (vs : List V) (Q : VK) (E : XK), Room k (A.deeper (sEnv qual scope s.heap.objs.size f (.ref cda) cc)) → sp vs H Q E →
      ∃ te t, PE (supCx CX P w K mg base N qual scope f (.ref cda) cc A outer s H E) e te ∧ PSs (supCx CX P w K mg base N qual scope f (.ref cda) cc A outer s H E) rest t ∧
        (∃ a, vs[0]? = some (V.ref a) ∧ H a = some (exo a C none)) ∧ tSup C te t { nx := fun _ H' => Q .non H', rt := Q } (vs.map some) H) :
    FnOk P w K mg base CX (k + 1) f (PySem.W.ksFn name qual params (.Expr (supCall e p0 p1 p2 p3) p4 :: rest) scope dV kV doc pm an (.ref cda) ct cc) N sp := by
  refine ⟨len, fun A outer s H args us vs Q E hr e0 hb r hsp => ?_⟩
  have hl := len _ _ _ _ hsp
  have KX : K.In s.heap := e0.mod.kin.keeps fun b o e => (e0.bs b o e).1
  have lim : s.heap.NoLimit := e0.mod.nolimit.keeps fun b o e => (e0.bs b o e).1
  refine PySem.ks_codeAny_call_defAt (binds := N.zip us) hr.depth (KX _ _ lk) rfl lim (PySem.W.codeRec_of KX hcd) rfl hb S.nocell (fun y hy => S.par y.1 (List.of_mem_zip hy).1) (fun h1 hns hk => ?_) S.co S.gen S.kind
  obtain ⟨te, t, pe, pss, ⟨a, hva, hHa⟩, hq⟩ := hbody A outer s H vs Q E (hr.deeper _) hsp
  have I : L2.Inv (supCx CX P w K mg base N qual scope f (.ref cda) cc A outer s H E) [] (vs.map some) H { s with heap := h1, toks := s.toks + (N.zip us).length } := sup_start S hr.hd e0 hl r hcell hns hk
  have fin : ∀ {σ' : L2.St} {H' : Hp} {v : V} {u : Value} {s' : Shared}, L2.Inv (supCx CX P w K mg base N qual scope f (.ref cda) cc A outer s H E) [] σ' H' s' → RelV v u → Q v H' → CE outer P w H s Q u s' :=
    fun {σ' H' v u s'} J rv q => ⟨v, H', J.os, J.bare, J.base, J.hok, rv, q⟩
  show PySem.wpAt _ _ _ (execs _ (sEnv qual scope s.heap.objs.size f (.ref cda) cc)) _ _ _
  refine PySem.ks_wpAt_execs_cons (PySem.ks_wpAt_Expr_any (PySem.ks_wpAt_MethodCall (pl := pl s.heap.objs.size) ?_ (hev _)) I.quiet (hsw _))
  obtain ⟨nm, q, N', bs, bm, sn, sub, ab, col, dd, k0, k1, k2, k3, k5, hC, hbm, hal⟩ := T.along
  have KX1 : K.In h1 := KX.keeps hk
  have hcl : PySem.W.clsIn K C = some { name := nm, bases := bs, mro := .ref C :: bm, ns := N', qualname := q, hasDict := true, slotNames := sn, subclasses := sub, abstract := ab, collection := col, hasDel := false } := by unfold PySem.W.clsIn; rw [hC] <;> rfl
  have e0' : (vs.map some)[0]? = some (some (V.ref a)) := by rw [List.getElem?_map, hva]; rfl
  -- self, a
  obtain ⟨m, hnm, hlm⟩ := id I.loc
  obtain ⟨uS, ruS, lkS⟩ := hlm 0 ar.arg (V.ref a) hself e0' (.inl (S.par _ (List.mem_of_getElem? hself)))
  obtain rfl : uS = Value.ref a := ruS
  have hma : m ar.arg = some (.ref a) := by
    rcases lkS with ⟨_, z⟩ | ⟨z, _⟩
    · exact z
    · have z' : scope.names.lookup ar.arg = some .cell ∨ scope.names.lookup ar.arg = some .free := z
      rw [S.par _ (List.mem_of_getElem? hself)] at z'
      rcases z' with z' | z' <;> cases z'
  obtain ⟨t1, ho⟩ := exo_at I.hok hHa
  obtain ⟨mb, hmb, hmb2⟩ := I.mod.blt
  refine PySem.ks_wpAt_super_base (env := sEnv qual scope s.heap.objs.size f (.ref cda) cc) S.sup S.cls (by decide) rfl (KX1 _ _ lk) rfl hp rfl (KX1 _ _ hcode) rfl hvs hfile T.htop ?_
  refine PySem.W.ks_loadName_global S.kind S.sup (Calls.loadGlobal_builtin (env := sEnv qual scope s.heap.objs.size f (.ref cda) cc) (I.mod.glob.keeps I.bk) T.sup (hmb.keeps I.bk) ((hmb2 _ (by decide +kernel)).trans boot_super) ⟨rfl, ?_⟩)
  refine wpAny_loadName_free S.kind S.cls rfl ⟨_, KX1 _ _ hcell, rfl⟩ ?_
  refine wpAny_loadName_local S.kind (S.par _ (List.mem_of_getElem? hself)) hnm hma ?_
  obtain ⟨oD, hD1, hD2⟩ : ∃ oD, h1.get? C = some oD ∧ oD.data = .cls { name := nm, bases := bs, mro := .ref C :: bm, ns := N', qualname := q, hasDict := true, slotNames := sn, subclasses := sub, abstract := ab, collection := col, hasDel := false } := ⟨_, KX1 _ _ hC, rfl⟩
  refine PySem.ks_wpAny_isType_cls hD1 hD2 ⟨rfl, ?_⟩
  refine PySem.ks_wpAny_call_super hD1 hD2 ho rfl (fun c e => nomatch e) (PySem.W.looks_mroIn KX1 T.self) (fun h2 eso kk => ?_)
  -- the super object stands; its method
  have I2 := I.kept (t' := s.toks + (N.zip us).length) kk
  have KX2 : K.In h2 := KX1.keeps kk
  have ho2 := kk _ _ ho
  have It : PySem.W.InstAt h2 a { cls := .ref C, dict := none, data := .fields #[.ref t1, .none, .none, .none, .bool false, .none] } C none := ⟨ho2, rfl, rfl, trivial⟩
  refine PySem.W.kxs_getMethod PySem.W.kxs_ValueError eso (PySem.W.looks_opaque KX2 T.tp) (l₀ := .ref C :: bm) (fun A Q E s k q => wpAny_bind ((PySem.W.looks_clsIn KX2 hcl) A _ E s k (wpAny_pure q))) rfl KX2 hal (It.type.andThen (PySem.W.looks_subIn KX2 T.isVE)) (PySem.W.ks_ne KX2 It hcl) (by decide) ?_
  have I3 := I2.kept (t' := s.toks + (N.zip us).length + 1) (h' := h2.push (PySem.W.kxs_mw "ValueError.__init__" a)) fun b o e => Heap.get?_push_of_some _ e
  have hu : (h2.push (PySem.W.kxs_mw "ValueError.__init__" a)).get? h2.objs.size = some (PySem.W.kxs_mw "ValueError.__init__" a) := Heap.get?_push_at rfl rfl
  have I4 := I3.pins_of (pins' := [(h2.objs.size, PySem.W.kxs_mw "ValueError.__init__" a)]) (fun p hp => by
    obtain rfl := List.mem_singleton.mp hp
    exact ⟨hu, I2.hok.fresh (Nat.le_refl _), Nat.ne_of_gt I2.lt, I2.nofs (Nat.le_refl _), fun v z => nomatch z⟩)
  show wpAny _ _ (callWith p3 (.ref h2.objs.size) [] (backTo p3 (starEach [e] (sEnv qual scope s.heap.objs.size f (.ref cda) cc))) []) _ _ _
  have pa : PA (supCx CX P w K mg base N qual scope f (.ref cda) cc A outer s H E) [e] (tCons te tNil) := pa_cons pe pa_nil (hst _)
  have ru := pa.run p3 _ _ (vs.map some) H (fun ws H1 => match ws with | [v] => (∃ z, v = .str z) ∧ ∃ a, (vs.map some)[0]? = some (some (.ref a)) ∧ H1 a = some (exo a C none) ∧ t { nx := fun _ H' => Q .non H', rt := Q } (vs.map some) H1 | _ => False) I4 hq
  have ehs : starEach [e] (supCx CX P w K mg base N qual scope f (.ref cda) cc A outer s H E).env = [(false, eval e (sEnv qual scope s.heap.objs.size f (.ref cda) cc))] := hst _
  rw [ehs] at ru
  rw [hst]
  refine PySem.W.kxs_callWith (i := "ValueError.__init__") (x := a) rfl (Calls.evalArgs_plain (thn ru fun ws s5 hw => ?_))
  obtain ⟨vs5, H5, I5, r5, q5⟩ := hw
  have hu5 : s5.heap.get? h2.objs.size = some (PySem.W.kxs_mw "ValueError.__init__" a) := (I5.pin (h2.objs.size, PySem.W.kxs_mw "ValueError.__init__" a) (List.mem_append.mpr (.inr (List.mem_singleton.mpr rfl)))).1
  refine ⟨hu5, ?_⟩
  cases r5 with
  | nil => exact q5.elim
  | @cons v5 u5 vr ur rv rr =>
    cases rr with
    | cons _ _ => exact q5.elim
    | nil =>
      obtain ⟨_, a', ea', hH5, q5⟩ := q5
      have ea : a' = a := by
        have z := ea'.symm.trans e0'
        cases z
        rfl
      subst ea
      refine bw_ok (X := supCx CX P w K mg base N qual scope f (.ref cda) cc A outer s H E) T.oex I5 hH5 hu5 (by show 1 ≤ sizeLine; rw [sizeLine_eq]; decide) fun s6 I6 => ?_
      have I7 : L2.Inv (supCx CX P w K mg base N qual scope f (.ref cda) cc A outer s H E) [] (vs.map some) H5 s6 := I6.unpinned (pins := []) (pl := [(h2.objs.size, PySem.W.kxs_mw "ValueError.__init__" a')])
      show PySem.wpAt _ _ _ (execs rest _) _ _ _
      refine PySem.wpAt_of_wpAny (wpAny_mono (pss.run [] s6 (vs.map some) H5 _ I7 q5) (fun fl s' hs => ?_) fun _ _ x => x)
      cases fl with
      | ret u =>
        obtain ⟨v, σ', H', J, rv, q⟩ := hs
        exact fin J rv q
      | next =>
        obtain ⟨σ', H', J, q⟩ := hs
        exact fin (v := V.non) (u := Value.none) J rfl q
      | brk =>
        obtain ⟨_, _, _, q⟩ := hs
        exact False.elim q
      | cont =>
        obtain ⟨_, _, _, q⟩ := hs
        exact False.elim q
end
end Kw

set_option Elab.async false
set_option linter.all false
set_option maxRecDepth 100000
set_option maxHeartbeats 4000000
/-! More operators: `in` by an own `__contains__`, `==` by an own `__eq__`, enumerate(tuple), `in` over a tuple of data, list.count of bools. -/
namespace Kw
open PySem PySem.Spec PyProof.Rows L2
section
variable {X : Cx} {CX : CXT} {C f : Addr} {fd : FuncData} {k : Nat} {ps : List Str} {sp : Sp} {E : XK}
/-- x in o, o an object of C whose __contains__ keeps sp and gives a bool -/
def rInOwn (C : Addr) (sp : Sp) (E : XK) : R2 := fun x y H Q => ∃ b dx fs, y = .ref b ∧ H b = some (.ins C dx fs) ∧ sp [y, x] H (fun v H' => ∃ k, v = .bl k ∧ Q (.bl k) H') E
def rNotInOwn (C : Addr) (sp : Sp) (E : XK) : R2 := fun x y H Q => ∃ b dx fs, y = .ref b ∧ H b = some (.ins C dx fs) ∧ sp [y, x] H (fun v H' => ∃ k, v = .bl k ∧ Q (.bl (!k)) H') E
theorem op_inOwn (F : FnOk X.prog X.w X.K X.mg X.base CX k f fd ps sp) (hs : PySem.W.findIn X.K (.ref C) "__contains__" = some (some (.ref f))) (hf : PySem.W.isFn X.K (.ref f) = true) (hr : Room k X.A) (hb : Binds X.K fd ps []) (hx : Passes CX X E) :
    OpR X (compareOp .In) (rInOwn C sp E) := by
  intro pins s σ H x y v u Q I rx ry h
  obtain ⟨b, dx, fs, rfl, hH, hsp⟩ := h
  cases ry
  obtain ⟨mA, J, _⟩ := ins_get I.hok hH
  obtain ⟨od, J, _⟩ := J.look
  obtain ⟨m, hF⟩ := I.fr
  refine PySem.W.in_K hF I.ok.mod.kin J hs hf ?_
  refine thn (run_fn (vs := [.ref b, x]) (dvs := []) F hr hb .nil hx I (.cons rfl (.cons rx .nil)) hsp) fun w s1 hw => ?_
  obtain ⟨z, H1, I1, rz, kk, ez, q⟩ := hw
  subst ez
  obtain rfl : w = Value.bool kk := rz
  exact wpAny_truthy_bool ⟨V.bl _, H1, I1, rfl, q⟩
theorem op_notInOwn (F : FnOk X.prog X.w X.K X.mg X.base CX k f fd ps sp) (hs : PySem.W.findIn X.K (.ref C) "__contains__" = some (some (.ref f))) (hf : PySem.W.isFn X.K (.ref f) = true) (hr : Room k X.A) (hb : Binds X.K fd ps []) (hx : Passes CX X E) :
    OpR X (compareOp .NotIn) (rNotInOwn C sp E) := by
  intro pins s σ H x y v u Q I rx ry h
  obtain ⟨b, dx, fs, rfl, hH, hsp⟩ := h
  cases ry
  obtain ⟨mA, J, _⟩ := ins_get I.hok hH
  obtain ⟨od, J, _⟩ := J.look
  obtain ⟨m, hF⟩ := I.fr
  refine PySem.W.notIn_K hF I.ok.mod.kin J hs hf ?_
  refine thn (run_fn (vs := [.ref b, x]) (dvs := []) F hr hb .nil hx I (.cons rfl (.cons rx .nil)) hsp) fun w s1 hw => ?_
  obtain ⟨z, H1, I1, rz, kk, ez, q⟩ := hw
  subst ez
  obtain rfl : w = Value.bool kk := rz
  exact wpAny_truthy_bool ⟨V.bl _, H1, I1, rfl, q⟩
/-- o == p, o and p instances of C whose __eq__ keeps sp and gives a bool -/
def rEqOwn (C : Addr) (sp : Sp) (E : XK) : R2 := fun x y H Q => ∃ a b dx fs dy gs, x = .ref a ∧ y = .ref b ∧ H a = some (.ins C dx fs) ∧ H b = some (.ins C dy gs) ∧ sp [x, y] H (fun v H' => ∃ k, v = .bl k ∧ Q (.bl k) H') E
theorem op_eqOwn (F : FnOk X.prog X.w X.K X.mg X.base CX k f fd ps sp) (hs : PySem.W.findIn X.K (.ref C) "__eq__" = some (some (.ref f))) (hf : PySem.W.isFn X.K (.ref f) = true) (hr : Room k X.A) (hb : Binds X.K fd ps []) (hx : Passes CX X E) :
    OpR X (compareOp .Eq) (rEqOwn C sp E) := by
  intro pins s σ H x y v u Q I rx ry h
  obtain ⟨a, b, dx, fs, dy, gs, rfl, rfl, ha, hb', hsp⟩ := h
  cases rx
  cases ry
  obtain ⟨mA, J, _⟩ := ins_get I.hok ha
  obtain ⟨mB, J', _⟩ := ins_get I.hok hb'
  obtain ⟨od, J, _⟩ := J.look
  obtain ⟨od', J', _⟩ := J'.look
  obtain ⟨m, hF⟩ := I.fr
  show wpAny _ _ (richCompare .Eq (.ref a) (.ref b)) _ _ _
  refine PySem.W.cmp_K (op := .Eq) (tb := .ref C) hr.units0 hF I.ok.mod.kin J J'.type (by simp [PySem.W.notFirst]) hs hf ?_
  refine thn (run_fn (vs := [.ref a, .ref b]) (dvs := []) F hr hb .nil hx I (.cons rfl (.cons rfl .nil)) hsp) fun w s1 hw => ?_
  obtain ⟨z, H1, I1, rz, kk, ez, q⟩ := hw
  subst ez
  obtain rfl : w = Value.bool kk := rz
  exact ⟨V.bl _, H1, I1, rfl, q⟩
end

/-! ### enumerate(tuple) -/
theorem meets_enumerate_newT (l : Addr) (items : Array Value) :
    Meets (Builtin.«enumerate.__new__» ⟨[.type "enumerate", .ref l], []⟩) (fun _ R s => s.heap.IsTuple l items ∧
      R (.ok (.ret (.ref (s.heap.push { cls := .type "tuple_iterator", data := .fields #[.ref l, .int 0 0] }).objs.size)))
        { s with heap := (s.heap.push { cls := .type "tuple_iterator", data := .fields #[.ref l, .int 0 0] }).push { cls := .type "enumerate", data := .fields #[.none, .bool false, .ref s.heap.objs.size, rawInt 0, .none, .none] } }) :=
  .of_wp fun prog w A R s h => by
    obtain ⟨hp, g, d, tk, os⟩ := s; obtain ⟨hL, h⟩ := h
    have hsub := sub_enumerate
    have q1 : ∀ {A' : Around} {E : Value → Shared → Prop} {Q : Value → Shared → Prop}, Q (.ref hp.objs.size) ⟨hp.push { cls := .type "tuple_iterator", data := .fields #[.ref l, .int 0 0] }, g, d, tk, os⟩ → wpAny (model prog w) A' (pyIter (.ref l)) Q E ⟨hp, g, d, tk, os⟩ :=
      fun q => wpAny_pyIter_tuple hL q
    wp_walk using q1
    refine wpAny_stack_any fun st => wpAny_pure ?_
    split
    · rename_i c _ _ _ _ _
      cases (c == Value.type "enumerate")
      · wp_walk using q1
        exact ⟨_, rfl, h⟩
      · wp_walk using q1
        exact ⟨_, rfl, h⟩
    · wp_walk using q1
      exact ⟨_, rfl, h⟩
theorem call_enumerate_tuple {prog : Program} {w : World} {A : Around} {E : Value → Shared → Prop} {s : Shared} {l : Addr} {items : Array Value} {Q : Value → Shared → Prop} (hL : s.heap.IsTuple l items)
    (h : ∀ h', IsEnum h' (s.heap.objs.size + 1) s.heap.objs.size 0 .none → h'.IsTupleIter s.heap.objs.size l 0 → h'.objs.size = s.heap.objs.size + 2 →
      (∀ b o, s.heap.get? b = some o → h'.get? b = some o) → Q (.ref (s.heap.objs.size + 1)) { s with heap := h' }) :
    wpAny (model prog w) A (call (.type "enumerate") [.ref l]) Q E s := by
  refine callType_new F.called_enumerate (by decide) (F.typeCall_enumerate_1 _) (F.newCall_enumerate_1 _) (fun obj => F.args_object_init_2 obj _) F.entry_enumerate_new
    (meets_enumerate_newT l items) ⟨hL, ?_⟩
  have hz : (s.heap.push { cls := .type "tuple_iterator", data := .fields #[.ref l, .int 0 0] }).objs.size = s.heap.objs.size + 1 := Heap.size_push ..
  show _ ∧ _
  rw [hz]
  have he : IsEnum ((s.heap.push { cls := .type "tuple_iterator", data := .fields #[.ref l, .int 0 0] }).push
      { cls := .type "enumerate", data := .fields #[.none, .bool false, .ref s.heap.objs.size, rawInt 0, .none, .none] }) (s.heap.objs.size + 1) s.heap.objs.size 0 .none := by
    have := Heap.get?_push_size (s.heap.push { cls := .type "tuple_iterator", data := .fields #[.ref l, .int 0 0] })
      (o := { cls := .type "enumerate", data := .fields #[.none, .bool false, .ref s.heap.objs.size, rawInt 0, .none, .none] }) rfl
    rw [hz] at this; exact this
  refine ⟨⟨_, he, rfl⟩, h _ he ⟨_, Heap.get?_push_of_some _ (Heap.get?_push_size _ rfl), rfl, rfl⟩ (by rw [Heap.size_push, hz]) fun b o x => Heap.get?_push_of_some _ (Heap.get?_push_of_some _ x)⟩
/-- the tuple at a, each item in a new pair -/
def Itet (K : PySem.W.Frag) (a : Addr) : It :=
  ⟨fun i H => ∃ (xs : List V) (x : V), SqT K H a xs ∧ xs[i]? = some x, fun i H v H' => ∃ T x, v = .ref T ∧ H T = none ∧ H' = upd H T (.tup [.int (i : Nat), x]) ∧ ∀ xs, SqT K H a xs → xs[i]? = some x, fun i H => ∃ xs : List V, SqT K H a xs ∧ xs.length ≤ i⟩
theorem turn_enumT {P : Program} {w : World} {K : PySem.W.Frag} {elts : List Expr} {kk : Nat} {tpos : Pos} (a e it : Addr) :
    Turn P w K (.Tuple elts kk tpos) (Itet K a) [e, it] e (fun i h => (∃ old, IsEnum h e it ((i : Nat) : Int) old) ∧ h.IsTupleIter it a i ∧ e ≠ it) where
  mem := by simp
  obj := fun i h st b hb => by
    obtain ⟨⟨old, he⟩, ⟨o, ho, hc, hd⟩, _⟩ := st
    have e' : b = e ∨ b = it := by simpa using hb
    rcases e' with z | z
    · rw [z]; exact ⟨_, he, fun v q => nomatch q⟩
    · rw [z]; exact ⟨o, ho, fun v q => by rw [hd] at q; cases q⟩
  keep := fun i h h' st k => let ⟨⟨old, he⟩, hi, hne⟩ := st; ⟨⟨old, k e (by simp) _ he⟩, hi.at fun o q => k it (by simp) o q, hne⟩
  item := by
    intro X hP hw hK hc i pins s σ H E I hf st hg
    subst hP hw hK
    obtain ⟨⟨old, he⟩, hit, hne⟩ := st
    obtain ⟨xs, x, hq, hx⟩ := hg
    obtain ⟨its, rv, p, hz⟩ := I.tuple hq
    obtain ⟨u, hu, ru⟩ := rv.get hx
    have hel : e < s.heap.objs.size := Heap.lt_size he
    have hil : it < s.heap.objs.size := by obtain ⟨_, q, _⟩ := hit; exact Heap.lt_size q
    have hat : a ≠ it := fun z => by
      obtain ⟨o1, q1, c1, _⟩ := p
      obtain ⟨o2, q2, c2, _⟩ := hit
      rw [z, q2] at q1
      have q3 := Option.some.inj q1
      subst q3
      rw [c2] at c1
      have c3 : Value.type "tuple_iterator" = Value.type "tuple" := c1
      revert c3
      decide
    have hea : e ≠ a := fun z => by
      obtain ⟨o1, q1, c1, _⟩ := p
      rw [← z] at q1
      have q2 := Option.some.inj (he.symm.trans q1)
      subst q2
      have c3 : Value.type "enumerate" = Value.type "tuple" := c1
      revert c3
      decide
    have hlt : i < its.toArray.size := by
      have z := (List.getElem?_eq_some_iff.mp hu).1
      simpa using z
    refine wpAny_pyNext_enum_itemD (Draws.tuple (prog := X.prog) (w := X.w) (A := X.A.in1) (show X.A.in1.handled = none from I.ok.hd hc) it a hat its.toArray) he ⟨hit, p⟩ hlt hne (by simp [hne, hea]) fun x' h' tk hP ho hst' hT hsz hk => ?_
    have ex : x' = u := by
      have z : its[i]? = some x' := by simpa using hP
      rw [hu] at z
      exact (Option.some.inj z).symm
    subst ex
    refine ⟨_, rfl, wpAny_letOwnedTupleGo_enum (s := { s with heap := h', toks := tk + 1 }) ho fun h'' he' sb => ?_⟩
    have hT2 : h''.get? s.heap.objs.size = some { cls := .type "tuple", data := .seq #[.int i tk, x'] } := (sb.2 _ (Nat.ne_of_gt hel)).trans hT
    have new : ObjOk X.prog X.w (upd H s.heap.objs.size (.tup [.int (i : Nat), x])) h'' s.heap.objs.size (.tup [.int (i : Nat), x]) :=
      ⟨by show 2 ≤ sizeLine; decide, [.int i tk, x'], .cons ⟨_, rfl⟩ (.cons ru .nil), ⟨_, hT2, rfl, _, rfl⟩⟩
    have I1 : L2.Inv X pins σ (upd H s.heap.objs.size (.tup [.int (i : Nat), x])) { s with heap := h'', toks := tk + 1 } :=
      I.turnedNew (ch := [e, it]) (fun b ob hb q => (sb.2 b (fun z => hb (by simp [z]))).trans (hk b ob (fun z => hb (by simp [z])) (fun z => hb (by simp [z])) q)) hf (Nat.le_refl _) new
    refine ⟨.ref s.heap.objs.size, _, I1, rfl, ⟨_, x, rfl, I.hok.fresh (Nat.le_refl _), rfl, fun ys hy => by rw [I.tuple_inj hy hq]; exact hx⟩, ⟨⟨x', ?_⟩, hst'.1.at fun o q => (sb.2 it (Ne.symm hne)).trans q, hne⟩, fun b hb => ?_⟩
    · have e1 : ((i + 1 : Nat) : Int) = (i : Int) + 1 := by omega
      rw [e1]; exact he'
    · have hb' : b < s.heap.objs.size := by
        have e' : b = e ∨ b = it := by simpa using hb
        rcases e' with z | z
        · rw [z]; exact hel
        · rw [z]; exact hil
      rw [upd_ne (Nat.ne_of_lt hb')]
      exact (hf b hb).1
  done := by
    intro X hP hw hK hc i pins s σ H E I hf st hg
    subst hP hw hK
    obtain ⟨⟨old, he⟩, hit, hne⟩ := st
    obtain ⟨xs, hq, hx⟩ := hg
    obtain ⟨its, rv, p, hz⟩ := I.tuple hq
    have hat : a ≠ it := fun z => by
      obtain ⟨o1, q1, c1, _⟩ := p
      obtain ⟨o2, q2, c2, _⟩ := hit
      rw [z, q2] at q1
      have q3 := Option.some.inj q1
      subst q3
      rw [c2] at c1
      have c3 : Value.type "tuple_iterator" = Value.type "tuple" := c1
      revert c3
      decide
    obtain ⟨f0, f1, f2, f3, f4, f5⟩ := hf it (by simp)
    have hl := rv.length
    have hT : s.TypeIs (.ref e) "enumerate" := ⟨_, he, rfl⟩
    unfold pyNext
    refine wpAny_bind (wpAny_attempt (wpAny_callSpecial?_slot (name := Str.ofString "__next__") hT F.slot_enumerate_next
      (wpAny_call_entry F.slot_enumerate_next hT F.entry_enumerate_next ?_ (F.args_enumerate_next_1 _))))
    show wpAny _ _ (field (.ref e) 2 >>= _) _ _ _
    refine wpAny_bind (wpAny_field he rfl (x := .ref it) rfl ?_)
    refine wpAny_bind (wpAny_nextOf_tuple_end (show X.A.in1.handled = none from I.ok.hd hc) hit p (by simp; omega) fun h' x he' hx' => ?_)
    obtain ⟨o, ho, hcx⟩ := hx'
    refine wpAny_bind (wpAny_isInstance (T := "StopIteration") (b := true) ⟨o, ho, hcx⟩ isSubtype_stop ?_)
    exact wpAny_pure ⟨rfl, I.turned (t' := s.toks) (fun b o hb q => he' b o hb q) f0 f1 f3 f4 f5⟩
  self := fun A i s Q E st h => let ⟨⟨_, he⟩, _⟩ := st; wpAny_pyIter_enum he h

def iEnumT (K : PySem.W.Frag) (ta : TA) : TI := fun σ H R => ta σ H fun vs H1 => ∃ a xs, vs = [.ref a] ∧ SqT K H1 a xs ∧ R (Itet K a) H1
theorem pi_enumT {X : Cx} {e : Expr} {ta : TA} {p pos tpos : Pos} {elts : List Expr} {kk : Nat} (hg : Gl X "enumerate") (hm : X.mg "enumerate" = none) (ha : PA X [e] ta) (hs : starEach [e] X.env = [(false, eval e X.env)] := by rfl) :
    PI X (.Tuple elts kk tpos) (.Call (.Name "enumerate" p) [e] [] pos) (iEnumT X.K ta) := by
  refine ⟨fun pins s σ H R I h => ?_⟩
  refine Call_ (ld_blt I hg hm boot_enumerate (PyProof.Rows.callWith_type1 (thn (ha.run pos pins s σ H _ I h) fun us s1 ⟨vs, H1, I1, r1, q1⟩ => ?_) hs rfl))
  obtain ⟨a, xs, ex, hq, q⟩ := q1
  subst ex
  cases r1 with
  | cons r rr =>
    cases rr
    cases r
    obtain ⟨its, rv, p', hz⟩ := I1.tuple hq
    refine call_enumerate_tuple p' fun h' he hit hsz hk => wpAny_pyIter_enum he ?_
    have I2 : L2.Inv X pins σ H1 { s1 with heap := h' } := I1.kept (t' := s1.toks) hk
    refine ⟨s1.heap.objs.size + 1, [s1.heap.objs.size + 1, s1.heap.objs.size], _, _, H1, rfl, I2, turn_enumT a (s1.heap.objs.size + 1) s1.heap.objs.size, ⟨⟨.none, he⟩, hit, Nat.succ_ne_self _⟩, fun b hb => ?_, q⟩
    have e' : b = s1.heap.objs.size + 1 ∨ b = s1.heap.objs.size := by simpa using hb
    have hle : s1.heap.objs.size ≤ b := by
      rcases e' with z | z
      · rw [z]; exact Nat.le_add_right _ _
      · rw [z]; exact Nat.le_refl _
    exact I1.fpOk hle (I1.hok.fresh hle)
/-- a for over enumerate(tuple), the invariant Pv by the turn -/
theorem for_enumT {K : PySem.W.Frag} {a : Addr} {xs : List V} {g : TG} {tb : TS} {D : Ends} {σ : L2.St} {H : Hp} (Pv : Nat → L2.St → Hp → Prop) (h0 : Pv 0 σ H) (hl : ∀ i σ H, i ≤ xs.length → Pv i σ H → SqT K H a xs)
    (hs : ∀ i x σ H T, xs[i]? = some x → Pv i σ H → H T = none → g (.ref T) σ (upd H T (.tup [.int (i : Nat), x])) fun σ2 H2 => tb { D with nx := Pv (i + 1), ct := Pv (i + 1), bk := D.nx } σ2 H2)
    (hd : ∀ σ H, Pv xs.length σ H → D.nx σ H) :
    ∃ W : Nat → Nat → L2.St → Hp → Prop, (∃ m, W 0 m σ H) ∧ ∀ i m σ H, W i m σ H →
      ((Itet K a).stop i H ∧ D.nx σ H) ∨ ((Itet K a).go i H ∧ ∃ N : L2.St → Hp → Prop, (∀ σ' H', N σ' H' → ∃ m', m' < m ∧ W (i + 1) m' σ' H') ∧ ∀ x H', (Itet K a).yld i H x H' → g x σ H' fun σ2 H2 => tb { D with nx := N, ct := N, bk := D.nx } σ2 H2) := by
  refine ⟨fun i m σ H => m = xs.length - i ∧ i ≤ xs.length ∧ Pv i σ H, ⟨xs.length, by simp, Nat.zero_le _, h0⟩, ?_⟩
  rintro i m σ H ⟨rfl, hi, p⟩
  have q := hl i σ H hi p
  by_cases hlt : i < xs.length
  · refine .inr ⟨⟨xs, xs[i], q, by simp [hlt]⟩, Pv (i + 1), fun σ' H' p' => ⟨xs.length - (i + 1), by omega, rfl, hlt, p'⟩, fun x H' y => ?_⟩
    obtain ⟨T, x', ev, hT, eH, hx⟩ := y
    subst ev eH
    exact hs i x' σ H T (hx xs q) p hT
  · have e : i = xs.length := by omega
    subst e
    exact .inl ⟨⟨xs, q, Nat.le_refl _⟩, hd σ H p⟩
end Kw

set_option Elab.async false
set_option linter.all false
set_option maxRecDepth 100000
set_option maxHeartbeats 4000000
namespace Kw
open PySem PySem.Spec PyProof.Rows L2
section
variable {X : Cx}
/-- x in t, t a tuple of data of any depth -/
def rInDT (K : PySem.W.Frag) (neg : Bool) : R2 := fun x y H Q => ∃ d ds, Dp K H x d ∧ Dp K H y (.tuple ds) ∧ SeqAt.shaped d = true ∧ SeqAt.shaped (.tuple ds) = true ∧ Q (.bl (if neg then !(ds.any fun z => PyData.eqv z d) else ds.any fun z => PyData.eqv z d)) H
theorem op_inDT (hu : X.A.units + 65 < cLine) : OpR X (compareOp .In) (rInDT X.K false) := by
  intro pins s σ H x y v u Q I rx ry h
  obtain ⟨d, ds, hd, he, sd, se, q⟩ := h
  obtain ⟨as, r1⟩ := Dp.reads I d x v hd rx
  obtain ⟨bs, r2⟩ := Dp.reads I (.tuple ds) y u he ry
  exact SeqAt.in_tuple_reads r2 r1 (SeqAt.canLay_of_shaped se) (SeqAt.canLay_of_shaped sd) (room_in_shaped sd hu) ⟨.bl _, H, I, rfl, q⟩
theorem op_notInDT (hu : X.A.units + 65 < cLine) : OpR X (compareOp .NotIn) (rInDT X.K true) := by
  intro pins s σ H x y v u Q I rx ry h
  obtain ⟨d, ds, hd, he, sd, se, q⟩ := h
  obtain ⟨as, r1⟩ := Dp.reads I d x v hd rx
  obtain ⟨bs, r2⟩ := Dp.reads I (.tuple ds) y u he ry
  exact SeqAt.notIn_tuple_reads r2 r1 (SeqAt.canLay_of_shaped se) (SeqAt.canLay_of_shaped sd) (room_in_shaped sd hu) ⟨.bl _, H, I, rfl, q⟩
/-- xs.count(b), xs a list of bools -/
def rCntB (K : PySem.W.Frag) : V → List V → Hp → VK → Prop := fun x xs H Q => ∃ (p : Addr) (bs : List Bool) (b : Bool), x = .ref p ∧ xs = [.bl b] ∧ SqL K H p (bs.map V.bl) ∧ Q (.int (bs.count b : Nat)) H
def eqb (b : Bool) (v : Value) : Bool := match v with
  | .bool c => c == b
  | _ => false
theorem mt_countB : MtR X "list.count" (rCntB X.K) := by
  intro pins s σ H x xs v us Q I rx rxs h
  obtain ⟨p, bs, b, rfl, rfl, hs, q⟩ := h
  cases rx
  obtain ⟨u, rfl, ru⟩ := rxs.one
  obtain rfl : u = Value.bool b := ru
  obtain ⟨its, rv, ⟨⟨cls, dd, data, sl⟩, n, ho, hc, hdn, hd⟩, hlen⟩ := I.list hs
  simp only at hc hd
  subst hc hd
  have hi : its = bs.map Value.bool := rv.bls
  refine call_meets PySem.F.slot_list_count ⟨_, ho, rfl⟩ PySem.F.entry_list_count (PySem.F.args_list_count_2 _ _)
    (SeqAt.list_countAt p its.toArray n dd sl (.bool b) (eqb b)) ⟨ho, fun y hy => ?_, ?_⟩
  · have hy' : y ∈ its := by simpa using hy
    rw [hi] at hy'
    obtain ⟨c, _, rfl⟩ := List.mem_map.mp hy'
    have g := eqAt_V (A := X.A.in1) (s := s) (y := V.bl c) (x := V.bl b) (u := Value.bool c) (v := Value.bool b) rfl rfl rfl rfl
    have e : eqV (V.bl c) (V.bl b) = eqb b (Value.bool c) := by cases b <;> cases c <;> rfl
    rw [← e]
    exact g
  · have ec : its.toArray.toList.countP (eqb b) = bs.count b := by
      rw [hi]
      show (bs.map Value.bool).countP (eqb b) = bs.count b
      rw [List.countP_map]
      rfl
    refine ⟨.int (bs.count b : Nat), H, I.tok _, ⟨s.toks, ?_⟩, q⟩
    show Value.int ((its.toArray.toList.countP (eqb b) : Nat) : Int) s.toks = Value.int ((bs.count b : Nat) : Int) s.toks
    rw [ec]
end

/-! ### isinstance of a caught error of an own class, with a dict of its own or without -/
section
open PySem.W
variable {prog : Program} {w : World} {A : Around} {E : Value → Shared → Prop} {s : Shared} {K : Frag} {x D : Addr} {ox : Obj}
theorem findObj_dataO {C : Addr} {name : Str} {a g : Value} {od : Option Obj} (hc : (clsIn K C).isSome = true) (ha : findIn K (.ref C) name = some (some a)) (hg : specialIn K a "__get__" = some (some g)) (ht : takesIn K a = some true) : findObj K C od name = some (.bind g a) := by
  obtain ⟨cd, hc⟩ := Option.isSome_iff_exists.mp hc
  unfold findObj
  rw [hc, Option.bind_some, ha, Option.bind_some]
  simp [hg, ht]
theorem kin_classO {od : Option Obj} {Q : Option Value → Shared → Prop} (hga : findIn K (.ref D) "__getattribute__" = some (some (.builtin "BaseException.__getattribute__"))) (hgt : findIn K (.ref D) "__getattr__" = some none) (hsub : subIn K (.ref D) (.type "BaseException") = some true)
    (hdct : hasDictIn K D = true) (ha : findIn K (.ref D) "__class__" = some (some (.builtin "object.__class__")))
    (hn : specialIn K (.builtin "object.__class__") "__get__" = some (some (.builtin "getset_descriptor.__get__"))) (htk : takesIn K (.builtin "object.__class__") = some true) (hm : mroIn K D (.type "object") = some true)
    (X : K.In s.heap) (I : InstAt s.heap x ox D od) (h : Q (some (.ref D)) { s with toks := s.toks + 1 }) : wpAny (model prog w) A (getAttr? (.ref x) "__class__") Q E s := by
  have hf : findObj K D od "__class__" = some (.bind (.builtin "getset_descriptor.__get__") (.builtin "object.__class__")) := findObj_dataO (by obtain ⟨cd, hc, _⟩ := any_some hdct; rw [hc]; rfl) ha hn htk
  obtain ⟨hp, g, d, t, os⟩ := s
  have L0 := I.type (M := model prog w)
  have L1 := looks_findIn (M := model prog w) X hga
  have L2' := looks_findIn (M := model prog w) X hgt
  have L3 := looks_find (M := model prog w) X I hf
  have sub : Looks (model prog w) hp (isInstance (.ref x) (.type "BaseException")) true := L0.andThen (looks_subIn X hsub)
  have hx0 : (false && onTheHeap (Value.builtin "BaseException.__getattribute__")) = false := rfl
  have hx2 : (Value.builtin "BaseException.__getattribute__" == Value.builtin "object.__getattribute__") = false := by decide +kernel
  have hx1 : (onTheHeap (Value.ref D) && Value.builtin "BaseException.__getattribute__" == Value.builtin "object.__getattribute__") = false := by rw [hx2]; rfl
  unfold getAttr? getAttrBy? getAttrBy
  refine wpAny_bind (wpAny_mkText (wpAny_bind (wpAny_attempt (wpAny_holding (wpAny_bind (L0.at (wpAny_bind (L1.at ?_))))))))
  show wpAny _ _ (if (onTheHeap (Value.ref D) && Value.builtin "BaseException.__getattribute__" == Value.builtin "object.__getattribute__") = true then _ else _) _ _ _
  rw [hx1, if_neg Bool.false_ne_true]
  unfold getAttrByItsOwn hookBefore
  refine wpAny_bind ?_
  rw [if_pos (show onTheHeap (Value.ref D) = true from rfl)]
  refine L2'.at ?_
  refine wpAny_bind (wpAny_attempt (wpAny_holding ?_))
  unfold callGetattribute
  rw [hx0, if_neg Bool.false_ne_true]
  unfold boundAndCalled
  rw [PySem.F.excAttr_ValueError.ga.bind (.ref x)]
  refine wpAny_bind (wpAny_pure ?_)
  show wpAny _ _ (call (.builtin "BaseException.__getattribute__") [.ref x, .str "__class__" t]) _ _ _
  refine wpAny_call (PySem.codeAny_call_builtin PySem.F.excAttr_ValueError.ga.plain PySem.F.entry_bexc_ga ?_)
  refine @check_slot (model prog w) _ _ ⟨hp, g, d, t + 1, os⟩ "BaseException.__getattribute__" "BaseException" "__getattribute__" (.ref x) [.str "__class__" t] [] _ (by decide +kernel) (by decide +kernel) sub (PySem.F.args_bexc_ga (.ref x) (.str "__class__" t)) ?_
  unfold Builtin.«object.__getattribute__»
  refine wpAny_bind (wpAny_of_eq (a := ((Value.ref x : Value), [Value.str "__class__" t])) (by first | rfl | (simp only [slotArgs]; rfl)) ?_)
  refine wpAny_bind (wpAny_pure (wpAny_bind (L0.at (wpAny_bind (L3.at ?_)))))
  show wpAny _ _ (holding [Value.builtin "object.__class__"] (call (.builtin "getset_descriptor.__get__") [.builtin "object.__class__", .ref x, .ref D]) >>= ret) _ _ _
  refine wpAny_bind (wpAny_holding (wpAny_call (class_get (s := ⟨hp, g, d, t + 1, os⟩) (ox := ox) (od := od) X I hm ?_)))
  refine wpAny_pure ?_
  show wpAny _ _ (handedOut (.ref D)) _ _ _
  rw [handedOut_of (v := .ref D) rfl]
  first
    | exact wpAny_pure (wpAny_pure h)
    | exact wpAny_pure h
    | exact wpAny_pure (wpAny_bind (wpAny_pure (wpAny_pure h)))
theorem kitx_excO (hga : findIn K (.ref D) "__getattribute__" = some (some (.builtin "BaseException.__getattribute__"))) (hgt : findIn K (.ref D) "__getattr__" = some none) (hsub : subIn K (.ref D) (.type "BaseException") = some true) (hdct : hasDictIn K D = true) (ha : findIn K (.ref D) "__class__" = some (some (.builtin "object.__class__")))
    (hn : specialIn K (.builtin "object.__class__") "__get__" = some (some (.builtin "getset_descriptor.__get__"))) (htk : takesIn K (.builtin "object.__class__") = some true) (hm : mroIn K D (.type "object") = some true) :
    KitX K (.ref x) (.ref D) (fun h => ∃ od, InstAt h x ox D od) where
  ty := fun _ _ _ ⟨_, I⟩ => I.type
  it := fun _ _ X _ => by
    obtain ⟨cdD, hcD, _⟩ := any_some hdct
    unfold clsIn at hcD
    split at hcD
    · rename_i c' d' cd' sl' ho
      intro A' Q' E' s' k q
      unfold isType loadHead
      exact wpAny_bind (wpAny_loadPart (k _ _ (X _ _ ho)) (wpAny_pure q))
    · cases hcD
  ne := fun h tp dd its n sl X htp => by
    obtain ⟨cdD, hcD, _⟩ := any_some hdct
    refine Bool.eq_false_iff.mpr fun q => ?_
    have e : D = tp := Value.ref.inj (beq_iff_eq.mp q)
    subst e
    unfold clsIn at hcD
    split at hcD
    · rename_i c' d' cd' sl' ho
      have z := (X _ _ ho).symm.trans htp
      cases z
    · cases hcD
  ca := fun X ⟨_, I⟩ k => kin_classO hga hgt hsub hdct ha hn htk hm X I k
end
/-- the suite's error stands at a: its class D, its dict none or an error's dict -/
theorem call_isO {X : Cx} {a D : Addr} {dd : Option Addr} {oe : Obj} {pn : List (Addr × Obj)} (C : ExcC X.K D) (hz : Zc (.ref D) dd oe) (hf : ∃ vs, oe.data = .fields vs) :
    CallR (X.suite a ((a, oe) :: pn)) (.builtin "isinstance") (fun xs H Q => (∀ d, dd = some d → ∃ fs, H d = some (.xd fs)) ∧ rIsE X.K D a xs H Q) := by
  intro pins s σ H xs us Q I r h
  obtain ⟨hd, c, cv, b, rfl, hcv, e, q⟩ := h
  cases r with
  | cons rx rr =>
    cases rr with
    | cons rt rr =>
      cases rr
      cases rx
      have ec := hcv _ rt
      subst ec
      obtain ⟨hget, _⟩ := I.pin (a, oe) (List.mem_append.mpr (.inl List.mem_cons_self))
      obtain ⟨vs, hv⟩ := hf
      have J : ∃ od, PySem.W.InstAt s.heap a oe D od := by
        obtain ⟨h1, h2⟩ := hz
        have hn : PySem.W.notCls oe = true := by unfold PySem.W.notCls; rw [hv] <;> rfl
        cases dd with
        | none => exact ⟨none, hget, h1, hn, by rw [show oe.dict = none from h2]; trivial⟩
        | some d =>
          obtain ⟨fs, hfs⟩ := hd d rfl
          obtain ⟨mA, ⟨o, es, ep, ho, hr⟩, _⟩ := (show ObjOk X.prog X.w H s.heap d (.xd fs) from I.hok d _ hfs)
          exact ⟨some o, hget, h1, hn, by rw [h2]; exact ho⟩
      exact PySem.W.kia_one (kitx_excO C.hg C.hk C.hs C.hd C.ha C.hn C.ht C.hm) I.kIn J e (fun z => nomatch z) fun tk => ⟨.bl b, H, I.kept (t' := tk) fun _ _ z => z, rfl, q⟩
end Kw

set_option Elab.async false
set_option linter.all false
set_option maxRecDepth 100000
set_option maxHeartbeats 4000000
/-! Data on the heap and what stays. -/
namespace Kw
open PySem PySem.Spec PyProof.Rows L2

/-- all stays but the lists at b and l, and the tables -/
structure Kp (b l : Addr) (H H' : Hp) : Prop where
  nl : ∀ a o, H a = some o → (∀ xs, o ≠ .lst xs) → (∀ ps, o ≠ .tbl ps) → H' a = some o
  ls : ∀ a xs, H a = some (.lst xs) → a ≠ b → a ≠ l → H' a = some (.lst xs)
theorem Kp.refl (b l : Addr) (H : Hp) : Kp b l H H := ⟨fun _ _ h _ _ => h, fun _ _ h _ _ => h⟩
theorem Kp.trans {b l : Addr} {H H1 H2 : Hp} (x : Kp b l H H1) (y : Kp b l H1 H2) : Kp b l H H2 :=
  ⟨fun a o h n t => y.nl a o (x.nl a o h n t) n t, fun a xs h n t => y.ls a xs (x.ls a xs h n t) n t⟩
theorem Kp.same {b l : Addr} {H H' : Hp} (e : Same H H') : Kp b l H H' := ⟨fun a o h _ _ => e a o h, fun a xs h _ _ => e a _ h⟩
theorem same_upd {H : Hp} {p : Addr} {o : HO} (h : H p = none) : Same H (upd H p o) := fun a u e => by
  rw [upd_ne (ne_of_none e h)]
  exact e
theorem Same.upd2 {H H' : Hp} {p : Addr} {o : HO} (e : Same H H') (h : H' p = none) : Same H (upd H' p o) := e.trans (same_upd h)
theorem free_kp {b l : Addr} {H H' : Hp} (k : Kp b l H H') {p : Addr} (h : H' p = none) (hb : ∃ xs, H' b = some (.lst xs)) (hl : ∃ xs, H' l = some (.lst xs)) (ht : ∀ a ps, H a = some (.tbl ps) → ∃ ps', H' a = some (.tbl ps')) : H p = none := by
  cases q : H p with
  | none => rfl
  | some o =>
    have nb : p ≠ b := fun z => by
      obtain ⟨xs, e⟩ := hb
      rw [z, e] at h
      cases h
    have nl : p ≠ l := fun z => by
      obtain ⟨xs, e⟩ := hl
      rw [z, e] at h
      cases h
    by_cases hls : ∃ xs, o = .lst xs
    · obtain ⟨xs, rfl⟩ := hls
      rw [k.ls p xs q nb nl] at h
      cases h
    · by_cases htb : ∃ ps, o = .tbl ps
      · obtain ⟨ps, rfl⟩ := htb
        obtain ⟨ps', e⟩ := ht p ps q
        rw [e] at h
        cases h
      · rw [k.nl p o q (fun xs z => hls ⟨xs, z⟩) (fun ps z => htb ⟨ps, z⟩)] at h
        cases h

/-! data without lists -/
mutual
def noL : PyData → Bool
  | .none => true
  | .bool _ => true
  | .int _ => true
  | .str _ => true
  | .tuple ds => noLs ds
  | .list _ => false
  | .dict _ => false
def noLs : List PyData → Bool
  | [] => true
  | d :: ds => noL d && noLs ds
end
/-- what is not a list or a table stays -/
def Nl (H H' : Hp) : Prop := ∀ a o, H a = some o → (∀ xs, o ≠ .lst xs) → (∀ ps, o ≠ .tbl ps) → H' a = some o
theorem SqT.nl {K : PySem.W.Frag} {H H' : Hp} {a : Addr} {xs : List V} (k : Nl H H') (h : SqT K H a xs) : SqT K H' a xs := by
  rcases h with (h | ⟨o, h⟩) | h
  · exact .inl (.inl (k _ _ h (fun _ z => nomatch z) fun _ z => nomatch z))
  · exact .inl (.inr ⟨o, k _ _ h (fun _ z => nomatch z) fun _ z => nomatch z⟩)
  · exact .inr h
theorem SqT.same {K : PySem.W.Frag} {H H' : Hp} {a : Addr} {xs : List V} (k : Same H H') (h : SqT K H a xs) : SqT K H' a xs := SqT.nl (fun a o e _ _ => k a o e) h
mutual
theorem Dp.nl {K : PySem.W.Frag} {H H' : Hp} (k : Nl H H') : ∀ (d : PyData) (v : V), noL d = true → Dp K H v d → Dp K H' v d
  | .none, _, _, h => by cases h; exact .non
  | .bool b, _, _, h => by cases h; exact .bl b
  | .int i, _, _, h => by cases h; exact .int i
  | .str x, _, _, h => by cases h; exact .str x
  | .list ds, _, n, _ => by simp [noL] at n
  | .tuple ds, _, n, h => by
    cases h with
    | tup hs ha => exact .tup (SqT.nl k hs) (Dp.nls k ds _ (by simpa [noL] using n) ha)
  | .dict _, _, n, _ => by simp [noL] at n
theorem Dp.nls {K : PySem.W.Frag} {H H' : Hp} (k : Nl H H') : ∀ (ds : List PyData) (vs : List V), noLs ds = true → DpAll K H vs ds → DpAll K H' vs ds
  | [], _, _, h => by cases h; exact .nil
  | d :: ds, _, n, h => by
    cases h with
    | cons h1 h2 =>
      have n' : noL d = true ∧ noLs ds = true := by simpa [noLs] using n
      exact .cons (Dp.nl k d _ n'.1 h1) (Dp.nls k ds _ n'.2 h2)
end
/-- tuples that are read stay -/
def Tp (H H' : Hp) : Prop := ∀ a xs, Rd H a (.tup xs) → Rd H' a (.tup xs)
mutual
theorem Dp.tp {K : PySem.W.Frag} {H H' : Hp} (k : Tp H H') : ∀ (d : PyData) (v : V), noL d = true → Dp K H v d → Dp K H' v d
  | .none, _, _, h => by cases h; exact .non
  | .bool b, _, _, h => by cases h; exact .bl b
  | .int i, _, _, h => by cases h; exact .int i
  | .str x, _, _, h => by cases h; exact .str x
  | .list ds, _, n, _ => by simp [noL] at n
  | .tuple ds, _, n, h => by
    cases h with
    | tup hs ha => exact .tup (hs.elim (fun r => .inl (k _ _ r)) .inr) (Dp.tps k ds _ (by simpa [noL] using n) ha)
  | .dict _, _, n, _ => by simp [noL] at n
theorem Dp.tps {K : PySem.W.Frag} {H H' : Hp} (k : Tp H H') : ∀ (ds : List PyData) (vs : List V), noLs ds = true → DpAll K H vs ds → DpAll K H' vs ds
  | [], _, _, h => by cases h; exact .nil
  | d :: ds, _, n, h => by
    cases h with
    | cons h1 h2 =>
      have n' : noL d = true ∧ noLs ds = true := by simpa [noLs] using n
      exact .cons (Dp.tp k d _ n'.1 h1) (Dp.tps k ds _ n'.2 h2)
end
mutual
theorem Dp.same {K : PySem.W.Frag} {H H' : Hp} (k : Same H H') : ∀ (d : PyData) (v : V), Dp K H v d → Dp K H' v d
  | .none, _, h => by cases h; exact .non
  | .bool b, _, h => by cases h; exact .bl b
  | .int i, _, h => by cases h; exact .int i
  | .str x, _, h => by cases h; exact .str x
  | .list ds, _, h => by
    cases h with
    | lst hs ha => exact .lst (k.seq hs) (Dp.sames k ds _ ha)
  | .tuple ds, _, h => by
    cases h with
    | tup hs ha => exact .tup (SqT.same k hs) (Dp.sames k ds _ ha)
  | .dict _, _, h => by cases h
theorem Dp.sames {K : PySem.W.Frag} {H H' : Hp} (k : Same H H') : ∀ (ds : List PyData) (vs : List V), DpAll K H vs ds → DpAll K H' vs ds
  | [], _, h => by cases h; exact .nil
  | d :: ds, _, h => by
    cases h with
    | cons h1 h2 => exact .cons (Dp.same k d _ h1) (Dp.sames k ds _ h2)
end
theorem DpAll.len {K : PySem.W.Frag} {H : Hp} : ∀ {vs : List V} {ds : List PyData}, DpAll K H vs ds → vs.length = ds.length
  | _, _, .nil => rfl
  | _, _, .cons _ h => by simp [DpAll.len h]
theorem DpAll.get {K : PySem.W.Frag} {H : Hp} : ∀ {vs : List V} {ds : List PyData} {i : Nat} {x : V}, DpAll K H vs ds → vs[i]? = some x → ∃ d, ds[i]? = some d ∧ Dp K H x d
  | _, _, _, _, .nil, e => by simp at e
  | _, _, 0, _, .cons h _, e => by
    simp at e
    subst e
    exact ⟨_, rfl, h⟩
  | _, _, i + 1, x, .cons _ t, e => by
    obtain ⟨d, h1, h2⟩ := DpAll.get (i := i) (x := x) t (by simpa using e)
    exact ⟨d, by simpa using h1, h2⟩
theorem DpAll.app {K : PySem.W.Frag} {H : Hp} : ∀ {vs ws : List V} {ds es : List PyData}, DpAll K H vs ds → DpAll K H ws es → DpAll K H (vs ++ ws) (ds ++ es)
  | _, _, _, _, .nil, h => h
  | _, _, _, _, .cons h t, k => .cons h (DpAll.app t k)
theorem DpAll.take {K : PySem.W.Frag} {H : Hp} : ∀ {vs : List V} {ds : List PyData} (n : Nat), DpAll K H vs ds → DpAll K H (vs.take n) (ds.take n)
  | _, _, 0, _ => .nil
  | _, _, _ + 1, .nil => .nil
  | _, _, n + 1, .cons h t => .cons h (DpAll.take n t)
theorem noLs_map {α : Type} (f : α → PyData) (h : ∀ a, noL (f a) = true) : ∀ l : List α, noLs (l.map f) = true
  | [] => rfl
  | a :: l => by simp [noLs, h a, noLs_map f h l]

/-! ### places -/
inductive Wd where
  | hand | box | gone
  deriving DecidableEq
def Wd.str : Wd → Str
  | .hand => "hand"
  | .box => "box"
  | .gone => "gone"
abbrev Pl := Wd × Int
def plD (p : Pl) : PyData := .tuple [.str p.1.str, .int p.2]
def plsD (ps : List Pl) : PyData := .tuple (ps.map plD)
theorem wd_ok (w : Wd) : PyData.strOk w.str = true := by cases w <;> decide +kernel
theorem wd_inj {u v : Wd} (h : u.str = v.str) : u = v := by cases u <;> cases v <;> first | rfl | (revert h; decide +kernel)
theorem noL_pl (p : Pl) : noL (plD p) = true := rfl
theorem noL_pls (ps : List Pl) : noL (plsD ps) = true := noLs_map plD noL_pl ps
theorem lay_pl (p : Pl) : PyData.canLay0 (plD p) = true := by simp [plD, PyData.canLay0, PyData.canLayAll0, wd_ok]
theorem lay_pls : ∀ ps : List Pl, PyData.canLayAll0 (ps.map plD) = true
  | [] => rfl
  | p :: ps => by simp [PyData.canLayAll0, lay_pl p, lay_pls ps]
theorem depth_pl (p : Pl) : PyData.depth (plD p) = 1 := by simp [plD, PyData.depth, PyData.depthAll]
theorem depth_pls : ∀ ps : List Pl, PyData.depthAll (ps.map plD) ≤ 1
  | [] => by simp [PyData.depthAll]
  | p :: ps => by
    have := depth_pls ps
    have := depth_pl p
    simp [PyData.depthAll]
    omega
theorem shaped_pl (p : Pl) : SeqAt.shaped (plD p) = true := by simp [SeqAt.shaped, lay_pl, depth_pl]
theorem shaped_pls (ps : List Pl) : SeqAt.shaped (plsD ps) = true := by
  have h1 := lay_pls ps
  have h2 := depth_pls ps
  simp [SeqAt.shaped, plsD, PyData.canLay0, PyData.depth, h1]
  omega
theorem eqv_pl (p q : Pl) : PyData.eqv (plD p) (plD q) = decide (p = q) := by
  obtain ⟨u, i⟩ := p
  obtain ⟨v, j⟩ := q
  by_cases h1 : u = v
  · subst h1
    by_cases h2 : i = j
    · subst h2
      simp [plD, PyData.eqv, PyData.eqvAll]
    · simp [plD, PyData.eqv, PyData.eqvAll, h2]
  · have h3 : ¬ u.str = v.str := fun z => h1 (wd_inj z)
    simp [plD, PyData.eqv, PyData.eqvAll, h1, h3]
theorem pl_at {K : PySem.W.Frag} {H : Hp} {x : V} {p : Pl} (h : Dp K H x (plD p)) : ∃ a, x = .ref a ∧ SqT K H a [.str p.1.str, .int p.2] := by
  cases h with
  | tup hs ha =>
    cases ha with
    | cons h1 h2 =>
      cases h1
      cases h2 with
      | cons h3 h4 =>
        cases h3
        cases h4
        exact ⟨_, rfl, hs⟩
theorem pls_at {K : PySem.W.Frag} {H : Hp} {x : V} {ps : List Pl} (h : Dp K H x (plsD ps)) : ∃ a xs, x = .ref a ∧ SqT K H a xs ∧ DpAll K H xs (ps.map plD) ∧ xs.length = ps.length := by
  cases h with
  | tup hs ha => exact ⟨_, _, rfl, hs, ha, by rw [DpAll.len ha, List.length_map]⟩
theorem pls_get {K : PySem.W.Frag} {H : Hp} {xs : List V} {ps : List Pl} {i : Nat} {x : V} (h : DpAll K H xs (ps.map plD)) (e : xs[i]? = some x) : ∃ p, ps[i]? = some p ∧ Dp K H x (plD p) := by
  obtain ⟨d, h1, h2⟩ := DpAll.get h e
  rw [List.getElem?_map] at h1
  cases q : ps[i]? with
  | none =>
    rw [q] at h1
    cases h1
  | some p =>
    rw [q] at h1
    cases h1
    exact ⟨p, rfl, h2⟩
end Kw

set_option Elab.async false
set_option linter.all false
set_option maxRecDepth 100000
set_option maxHeartbeats 4000000
namespace Kw
open PySem PySem.Spec PyProof.Rows L2

def top (i : Nat) : Stmt := PySem.Challenge.pw_sealwatch_k01_houses_validated.main.body.getD i (.Pass ⟨0, 0, 0, 0⟩)
abbrev sIH : Stmt := inClass (top 2) 0
abbrev sNum : Stmt := top 18
abbrev sMany : Stmt := top 19
abbrev sInit : Stmt := inClass (top 25) 0
abbrev sItems : Stmt := inClass (top 25) 1
abbrev sHas : Stmt := inClass (top 25) 2
abbrev sEqH : Stmt := inClass (top 25) 3
abbrev sNeed : Stmt := top 26
abbrev sBoxes : Stmt := top 27
abbrev sIsPl : Stmt := top 28

/-! ### the built-in names that the module leaves alone -/
structure Bt (mg : Str → Option Value) : Prop where
  isi : mg "isinstance" = none
  int : mg "int" = none
  bool : mg "bool" = none
  len : mg "len" = none
  enu : mg "enumerate" = none
  tup : mg "tuple" = none
  lst : mg "list" = none
  rng : mg "range" = none
  str : mg "str" = none

section
variable {P : Program} {w : World} {K : PySem.W.Frag} {mg : Str → Option Value} {base : Heap}
/-! ### is_number -/
def numOk (n l : Int) : Bool := decide (0 ≤ n) && decide (n < l)
def spNum : Sp := fun vs H Q _ => ∃ n l : Int, vs = [.int n, .int l] ∧ Q (.bl (numOk n l)) H
theorem scNum : FnScope ["value", "limit"] ["value", "limit"] (defScope sNum) := ⟨rfl, rfl, rfl, by decide +kernel, rfl, by decide +kernel, by decide +kernel⟩
theorem ok_num {f : Addr} {fd : FuncData} (F : Fun K "is_number" "is_number" sNum f fd) (B : Bt mg) : FnOk P w K mg base CX0 1 f fd ["value", "limit"] spNum := by
  refine F.ok scNum (fun vs H Q E h => ?_) (fun cdv A outer s H vs Q E hr h => ?_)
  · obtain ⟨n, l, rfl, _⟩ := h
    rfl
  · obtain ⟨n, l, rfl, k⟩ := h
    refine ⟨_, pss_one (ps_ret (pe_and (pe_callB call_isi (by rfl) B.isi (by decide +kernel) (pa_cons (pv 0) (pa_cons (pe_bltn (v := .ty "int") (by rfl) B.int (by decide +kernel) rfl) pa_nil)))
      (pe_and (pe_not (pe_callB call_isi (by rfl) B.isi (by decide +kernel) (pa_cons (pv 0) (pa_cons (pe_bltn (v := .ty "bool") (by rfl) B.bool (by decide +kernel) rfl) pa_nil))))
        (pe_one (pe_chain op_le op_lt pe_int (pv 0) (pv 1)))))), ?_⟩
    refine ⟨_, rfl, _, _, _, _, true, rfl, .ty "int", .base (.int n), kit_ty (by decide +kernel), _, rfl, iteT ?_⟩
    refine ⟨_, rfl, _, _, _, _, false, rfl, .ty "bool", .base (.int n), kit_ty (by decide +kernel), _, rfl, _, rfl, iteT ?_⟩
    refine ⟨_, rfl, _, _, rfl, rfl, _, rfl, ?_⟩
    unfold numOk at k
    by_cases c : (0 : Int) ≤ n
    · rw [decide_eq_true c] at k ⊢
      refine iteT ⟨_, rfl, _, _, rfl, rfl, ?_⟩
      exact k
    · rw [decide_eq_false c] at k ⊢
      exact iteF k

/-! ### houses -/
structure Hs where
  hands : Int
  bs : List Pl
  ts : List Pl
  ss : List Pl
def stD (d : Hs) : PyData := .tuple [plsD d.bs, plsD d.ts, plsD d.ss]
def hsFs (n : Int) (vb vt vs vst : V) : List (Str × V) := putF "state" vst (putF "seals" vs (putF "things" vt (putF "boxes" vb (putF "hands" (.int n) []))))
theorem fs_hands (n : Int) (vb vt vs vst : V) : (hsFs n vb vt vs vst).lookup ("hands" : Str) = some (.int n) := by
  unfold hsFs
  rw [lookup_putF, if_neg (by decide +kernel), lookup_putF, if_neg (by decide +kernel), lookup_putF, if_neg (by decide +kernel), lookup_putF, if_neg (by decide +kernel), lookup_putF, if_pos rfl]
theorem fs_boxes (n : Int) (vb vt vs vst : V) : (hsFs n vb vt vs vst).lookup ("boxes" : Str) = some vb := by
  unfold hsFs
  rw [lookup_putF, if_neg (by decide +kernel), lookup_putF, if_neg (by decide +kernel), lookup_putF, if_neg (by decide +kernel), lookup_putF, if_pos rfl]
theorem fs_things (n : Int) (vb vt vs vst : V) : (hsFs n vb vt vs vst).lookup ("things" : Str) = some vt := by
  unfold hsFs
  rw [lookup_putF, if_neg (by decide +kernel), lookup_putF, if_neg (by decide +kernel), lookup_putF, if_pos rfl]
theorem fs_seals (n : Int) (vb vt vs vst : V) : (hsFs n vb vt vs vst).lookup ("seals" : Str) = some vs := by
  unfold hsFs
  rw [lookup_putF, if_neg (by decide +kernel), lookup_putF, if_pos rfl]
theorem fs_state (n : Int) (vb vt vs vst : V) : (hsFs n vb vt vs vst).lookup ("state" : Str) = some vst := by
  unfold hsFs
  rw [lookup_putF, if_pos rfl]
structure HouseAt (K : PySem.W.Frag) (C : Addr) (H : Hp) (h : Addr) (d : Hs) : Prop where
  ex : ∃ dx vb vt vs vst, H h = some (.ins C dx (hsFs d.hands vb vt vs vst)) ∧ Dp K H vb (plsD d.bs) ∧ Dp K H vt (plsD d.ts) ∧ Dp K H vs (plsD d.ss) ∧ Dp K H vst (stD d)
theorem noL_st (d : Hs) : noL (stD d) = true := by simp [stD, noL, noLs, noL_pls]
theorem HouseAt.nl {K : PySem.W.Frag} {C : Addr} {H H' : Hp} {h : Addr} {d : Hs} (k : Nl H H') (x : HouseAt K C H h d) : HouseAt K C H' h d := by
  obtain ⟨dx, vb, vt, vs, vst, h0, h1, h2, h3, h4⟩ := x.ex
  exact ⟨dx, vb, vt, vs, vst, k _ _ h0 (fun _ z => nomatch z) (fun _ z => nomatch z), Dp.nl k _ _ (noL_pls _) h1, Dp.nl k _ _ (noL_pls _) h2, Dp.nl k _ _ (noL_pls _) h3, Dp.nl k _ _ (noL_st _) h4⟩
/-- what the class House must say -/
structure HouseC (K : PySem.W.Frag) (C : Addr) : Prop where
  cl : Cls K C
  nH : NoAttr K C "hands"
  nB : NoAttr K C "boxes"
  nT : NoAttr K C "things"
  nS : NoAttr K C "seals"
  nSt : NoAttr K C "state"
/-! ### how_many -/
def manyOf (d : Hs) (w : Str) : Nat := if w = "box" then d.bs.length else if w = "seal" then d.ss.length else if w = "thing" then d.ts.length else 0
def spMany (K : PySem.W.Frag) (C : Addr) : Sp := fun vs H Q _ => ∃ (h : Addr) (d : Hs) (w : Str), vs = [.ref h, .str w] ∧ HouseAt K C H h d ∧ Q (.int (manyOf d w)) H
theorem scMany : FnScope ["house", "word"] ["house", "word"] (defScope sMany) := ⟨rfl, rfl, rfl, by decide +kernel, rfl, by decide +kernel, by decide +kernel⟩
theorem ok_many {f C : Addr} {fd : FuncData} (F : Fun K "how_many" "how_many" sMany f fd) (B : Bt mg) (T : HouseC K C) : FnOk P w K mg base CX0 1 f fd ["house", "word"] (spMany K C) := by
  refine F.ok scMany (fun vs H Q E h => ?_) (fun cdv A outer s H vs Q E hr h => ?_)
  · obtain ⟨h, d, w, rfl, _⟩ := h
    rfl
  · obtain ⟨h, d, w, rfl, hd, k⟩ := h
    obtain ⟨dx, vb, vt, vs, vst, h0, h1, h2, h3, h4⟩ := hd.ex
    obtain ⟨ab, xb, eb, qb, db, lb⟩ := pls_at h1
    obtain ⟨at', xt, et, qt, dt, lt⟩ := pls_at h2
    obtain ⟨as, xs, es, qs, ds, ls⟩ := pls_at h3
    subst eb et es
    refine ⟨_, pss_cons (ps_if (pt_cmpR op_eq (pv 1) pe_str (nomark _)) (pss_one (ps_ret (pe_callB call_len_seq (by rfl) B.len PySem.boot_len (pa_cons (pe_fld (pv 0) rfl) pa_nil)))) pss_nil)
      (pss_cons (ps_if (pt_cmpR op_eq (pv 1) pe_str (nomark _)) (pss_one (ps_ret (pe_callB call_len_seq (by rfl) B.len PySem.boot_len (pa_cons (pe_fld (pv 0) rfl) pa_nil)))) pss_nil)
      (pss_cons (ps_if (pt_cmpR op_eq (pv 1) pe_str (nomark _)) (pss_one (ps_ret (pe_callB call_len_seq (by rfl) B.len PySem.boot_len (pa_cons (pe_fld (pv 0) rfl) pa_nil)))) pss_nil)
      (pss_one (ps_ret pe_int)))), ?_⟩
    have e0 : ∀ (z : Str), decide ((V.str w) = V.str z) = decide (w = z) := fun z => by
      by_cases c : w = z
      · rw [decide_eq_true c, c]; exact decide_eq_true rfl
      · rw [decide_eq_false c]; exact decide_eq_false fun q => c (V.str.inj q)
    refine ⟨_, rfl, rfl, _, rfl, ?_⟩
    rw [e0]
    unfold manyOf at k
    refine ite2 (fun c => ?_) (fun c => ?_)
    · have c' := of_decide_eq_true c
      rw [if_pos c', ← lb] at k
      exact ⟨_, rfl, h, C, dx, _, _, rfl, h0, T.cl, T.nB, fs_boxes _ _ _ _ _, _, _, rfl, .inr qb, k⟩
    have c' : ¬ w = "box" := fun z => c (decide_eq_true z)
    rw [if_neg c'] at k
    refine ⟨_, rfl, rfl, _, rfl, ?_⟩
    rw [e0]
    refine ite2 (fun c => ?_) (fun c => ?_)
    · have c' := of_decide_eq_true c
      rw [if_pos c', ← ls] at k
      exact ⟨_, rfl, h, C, dx, _, _, rfl, h0, T.cl, T.nS, fs_seals _ _ _ _ _, _, _, rfl, .inr qs, k⟩
    have c' : ¬ w = "seal" := fun z => c (decide_eq_true z)
    rw [if_neg c'] at k
    refine ⟨_, rfl, rfl, _, rfl, ?_⟩
    rw [e0]
    refine ite2 (fun c => ?_) (fun c => ?_)
    · have c' := of_decide_eq_true c
      rw [if_pos c', ← lt] at k
      exact ⟨_, rfl, h, C, dx, _, _, rfl, h0, T.cl, T.nT, fs_things _ _ _ _ _, _, _, rfl, .inr qt, k⟩
    have c' : ¬ w = "thing" := fun z => c (decide_eq_true z)
    rw [if_neg c'] at k
    exact k
/-! ### is_place -/
def plOk (p : Pl) (hands boxes : Int) : Bool := if p.1 = .hand then numOk p.2 hands else decide (p.1 = .box) && numOk p.2 boxes
def spIsPl (K : PySem.W.Frag) : Sp := fun vs H Q _ => ∃ (x : V) (p : Pl) (n m : Int), vs = [x, .int n, .int m] ∧ Dp K H x (plD p) ∧ Q (.bl (plOk p n m)) H
theorem scIsPl : FnScope ["place", "hands", "boxes", "word", "number"] ["place", "hands", "boxes"] (defScope sIsPl) := ⟨rfl, rfl, rfl, by decide +kernel, rfl, by decide +kernel, by decide +kernel⟩
theorem decS (a b : Str) : decide ((V.str a) = V.str b) = decide (a = b) := by
  by_cases c : a = b
  · rw [decide_eq_true c, c]; exact decide_eq_true rfl
  · rw [decide_eq_false c]; exact decide_eq_false fun q => c (V.str.inj q)
theorem ok_ispl {f g : Addr} {fd fdg : FuncData} (F : Fun K "is_place" "is_place" sIsPl f fd) (FG : Fun K "is_number" "is_number" sNum g fdg) (B : Bt mg) (mG : mg "is_number" = some (.ref g)) (bG : Binds K fdg ["value", "limit"] []) : FnOk P w K mg base CX0 2 f fd ["place", "hands", "boxes"] (spIsPl K) := by
  have G : FnOk P w K mg base CX0 1 g fdg ["value", "limit"] spNum := ok_num FG B
  refine F.ok scIsPl (fun vs H Q E h => ?_) (fun cdv A outer s H vs Q E hr h => ?_)
  · obtain ⟨x, p, n, m, rfl, _⟩ := h
    rfl
  · obtain ⟨x, p, n, m, rfl, hp, k⟩ := h
    obtain ⟨a, rfl, q⟩ := pl_at hp
    refine ⟨_, pss_cons (ps_asg (pv 0) (pg_tup (by rfl) (pgs_cons (pg_name (i := 3) scIsPl.nd rfl (.inl rfl)) (pgs_cons (pg_name (i := 4) scIsPl.nd rfl (.inl rfl)) pgs_nil))))
      (pss_cons (ps_if (pt_cmpR op_eq (pv 3) pe_str (nomark _)) (pss_one (ps_ret (pe_call G hr rfl mG FG.kp bG .nil pass0 (pa_cons (pv 4) (pa_cons (pv 1) pa_nil))))) pss_nil)
      (pss_one (ps_ret (pe_and (pe_cmpR op_eq (pv 3) pe_str (nomark _)) (pe_one (pe_call G hr rfl mG FG.kp bG .nil pass0 (pa_cons (pv 4) (pa_cons (pv 2) pa_nil)))))))), ?_⟩
    refine ⟨_, rfl, a, _, rfl, q, rfl, _, _, rfl, _, _, rfl, rfl, ?_⟩
    refine ⟨_, rfl, rfl, _, rfl, ?_⟩
    rw [decS]
    unfold plOk at k
    obtain ⟨u, i⟩ := p
    cases u with
    | hand =>
      rw [if_pos rfl] at k
      refine iteT ⟨_, rfl, _, rfl, i, n, rfl, k⟩
    | box =>
      rw [if_neg (show ¬ Wd.box = Wd.hand by decide)] at k
      refine iteF ⟨_, rfl, rfl, true, rfl, iteT ⟨_, rfl, _, rfl, i, m, rfl, k⟩⟩
    | gone =>
      rw [if_neg (show ¬ Wd.gone = Wd.hand by decide)] at k
      exact iteF ⟨_, rfl, rfl, false, rfl, iteF k⟩

/-! ### InvalidHouse(part, index) -/
theorem onlyFree_by {sc : Scope} (h : (sc.names.all fun p => !decide (p.2 = .free) || decide (p.1 = ("__class__" : Str))) = true) : ∀ y, sc.names.lookup y = some .free → y = ("__class__" : Str) := fun y hy => by
  have m := PySem.mem_of_lookup hy
  have q := List.all_eq_true.mp h _ m
  simpa using q
/-- what the written part says of such a class, its __init__ (the text st, bound under qual), the method's cell -/
structure ExcI (P : Program) (K : PySem.W.Frag) (mg : Str → Option Value) (x qual : Str) (st : Stmt) (C f : Addr) (fd : FuncData) : Prop where
  sup : SupC P K mg C
  at_ : PySem.W.findIn K (.ref C) "__init__" = some (some (.ref f))
  ty : PySem.W.typeIn K (.ref f) = some (.type "function")
  mgC : mg x = some (.ref C)
  ex : ∃ (oc : Value) (od : Option Addr) (kV doc pm : Value) (an : Option Addr) (ct : Value) (osl : Array (Option Value)) (cc cda : Addr), fd = PySem.W.ksFn "__init__" qual (defArgs st) (defBody st) (defScope st) .none kV doc pm an (.ref cda) ct cc ∧
    K.lookup f = some ⟨oc, od, .func fd, osl⟩ ∧ PySem.W.codeIn K (.ref cda) qual = true ∧
    (∃ ccl cdd vsC ccs fileS tf, K.lookup cda = some ⟨ccl, cdd, .fields vsC, ccs⟩ ∧ vsC[2]? = some (.str fileS tf) ∧ ((P.main.file : Str) == fileS) = true) ∧
    (∃ cl cld csl, K.lookup cc = some ⟨cl, cld, .cell (some (.ref C)), csl⟩)
  bind : Binds K fd (["self", "part", "index"] : List Str) []
def ihFs (z : Str) (i : Int) : List (Str × V) := [("index", .int i), ("part", .str z)]
def spIH (C : Addr) : Sp := fun vs H Q _ => ∃ (a : Addr) (z : Str) (i : Int), vs = [.ref a, .str z, .int i] ∧ H a = some (exo a C none) ∧ z.length ≤ 1000 ∧ 0 ≤ i ∧ i ≤ 1000 ∧
  ∀ dx, H dx = none → dx ≠ a → Q .non (upd (upd (upd H dx (exd dx [("part", .str z)])) a (exo a C (some dx))) dx (exd dx (ihFs z i)))
theorem scIH : SupScope ["self", "part", "index"] (defScope sIH) :=
  ⟨rfl, rfl, rfl, by decide +kernel, by decide +kernel, by decide +kernel, onlyFree_by (by decide +kernel), by decide +kernel, by decide +kernel⟩
theorem log2_small {i : Int} (h0 : 0 ≤ i) (h1 : i ≤ 1000) : i.natAbs.log2 < 1920 := by
  have h2 : i.natAbs ≤ 1000 := by omega
  by_cases h3 : i.natAbs = 0
  · rw [h3]; decide
  · have := (Nat.log2_lt h3 (k := 10)).mpr (by omega)
    omega
theorem digits_small {i : Int} (h0 : 0 ≤ i) (h1 : i ≤ 1000) : (toString i : Str).length ≤ 4 := toString_length_le h0 (k := 4) (by decide) (by omega)
theorem ok_ih {CX : CXT} {C f : Addr} {fd : FuncData} (T : ExcI P K mg "InvalidHouse" "InvalidHouse.__init__" sIH C f fd) (nP : PySem.W.findIn K (.ref C) "part" = some none) (nI : PySem.W.findIn K (.ref C) "index" = some none) :
    FnOk P w K mg base CX 1 f fd ["self", "part", "index"] (spIH C) := by
  obtain ⟨oc, od, kV, doc, pm, an, ct, osl, cc, cda, rfl, lk, hcd, ⟨ccl, cdd, vsC, ccs, fileS, tf, hcode, hvs, hfile⟩, ⟨cl, cld, csl, hcell⟩⟩ := T.ex
  refine fn_super (pl := fun _ => _) T.sup lk hcd rfl rfl hcode hvs hfile hcell scIH (fun vs H Q E h => ?_) (fun _ => rfl) (fun _ => rfl) (fun _ => rfl) (fun A outer s H vs Q E hr h => ?_)
  · obtain ⟨a, z, i, rfl, _⟩ := h
    rfl
  · obtain ⟨a, z, i, rfl, ha, hz, hi0, hi1, k⟩ := h
    refine ⟨_, _, pe_joined (.cons (pe_fmt (pv 1)) (.cons pe_str (.cons (pe_fmt (pv 2)) .nil))), pss_cons (ps_ost (pv 0) (pv 1)) (pss_one (ps_ost (pv 0) (pv 2))), ⟨a, rfl, ha⟩, ?_⟩
    have l1 : (Str.empty : Str).length = 0 := rfl
    have l2 : (": wrong at index " : Str).length = 17 := by decide +kernel
    have l3 := digits_small hi0 hi1
    have l4 : ∀ a b : Str, (a ++ b).length = a.length + b.length := Str.length_append
    have l5 := sizeLine_eq
    have hs : H a ≠ none := by rw [ha]; intro q; cases q
    refine ⟨_, rfl, .inl ⟨z, rfl, by omega, z, rfl, by rw [l4]; omega, _, rfl, by rw [l4, l4]; omega, _, rfl, .inr ⟨i, rfl, log2_small hi0 hi1, _, rfl, by rw [l4, l4, l4]; omega, ⟨_, rfl⟩, a, rfl, ha, ?_⟩⟩⟩
    refine ⟨_, rfl, _, rfl, a, C, rfl, T.sup.oex, nP, .inl ⟨ha, fun dx hd ne => ?_⟩⟩
    refine ⟨_, rfl, _, rfl, a, C, rfl, T.sup.oex, nI, .inr ⟨dx, [("part", .str z)], upd_same, by rw [upd_ne ne, upd_same], (by show 1 ≤ 900; decide), ?_⟩⟩
    exact k dx hd ne

/-! ### what is raised -/
/-- InvalidHouse(part, i) is let out -/
def Ri (C : Addr) (z : Str) (i : Nat) (H : Hp) (E : XK) : Prop := ∀ dd H', Same H H' → H' dd = some (.xd (ihFs z i)) → E (.ref C) (some dd) H'
theorem Ri.same {C : Addr} {z : Str} {i : Nat} {H H' : Hp} {E : XK} (e : Same H H') (r : Ri C z i H E) : Ri C z i H' E := fun dd H2 e2 h => r dd H2 (e.trans e2) h
/-- the reading of InvalidHouse(z, i), told by Ri -/
theorem ih_made {C : Addr} {H : Hp} {E : XK} {z : Str} {i : Nat} (hz : z.length ≤ 1000) (hi : i ≤ 1000) (r : Ri C z i H E) :
    ∀ a, H a = none → spIH C (.ref a :: ([.str z, .int i] ++ [])) (upd H a (exo a C none))
      (fun v H2 => v = .non ∧ ∃ (d : Addr) (fs : List (Str × V)), H2 a = some (exo a C (some d)) ∧ H2 d = some (exd d fs) ∧ H d = none ∧ E (.ref C) (some d) (upd (del H2 a) d (.xd fs))) (fun _ _ _ => False) := fun a ha => by
  refine ⟨a, z, i, rfl, upd_same, hz, by omega, by omega, fun dx hd ne => ⟨rfl, dx, _, by rw [upd_ne ne.symm, upd_same], upd_same, by rw [upd_ne ne] at hd; exact hd, ?_⟩⟩
  have hdx : H dx = none := by rw [upd_ne ne] at hd; exact hd
  refine r dx _ (fun b o e => ?_) upd_same
  have n1 : b ≠ dx := ne_of_none e hdx
  have n2 : b ≠ a := ne_of_none e ha
  rw [upd_ne n1, del_ne n2, upd_ne n1, upd_ne n2, upd_ne n1, upd_ne n2]
  exact e
def firstBad (f : Nat → Pl → Bool) : Nat → List Pl → Option Nat
  | _, [] => none
  | i, p :: r => if f i p = true then some i else firstBad f (i + 1) r
/-- the search, seen from turn i on -/
theorem bad_at {f : Nat → Pl → Bool} {ps : List Pl} {i : Nat} {p : Pl} (h : ps[i]? = some p) : firstBad f i (ps.drop i) = if f i p = true then some i else firstBad f (i + 1) (ps.drop (i + 1)) := by
  obtain ⟨hl, he⟩ := List.getElem?_eq_some_iff.mp h
  rw [List.drop_eq_getElem_cons hl, he]
  rfl
theorem bad_end {f : Nat → Pl → Bool} {ps : List Pl} : firstBad f ps.length (ps.drop ps.length) = none := by
  rw [List.drop_length]
  rfl
def badB (n : Int) (i : Nat) (p : Pl) : Bool := decide (i = 3) || !plOk p n i
def badBoxes (n : Int) (bs : List Pl) : Option Nat := if bs.length = 0 then some 0 else firstBad (badB n) 0 bs
def spBoxes (K : PySem.W.Frag) (C : Addr) : Sp := fun vs H Q E => ∃ (n : Int) (x : V) (bs : List Pl), vs = [.int n, x] ∧ Dp K H x (plsD bs) ∧ bs.length ≤ 100 ∧
  (∀ i, badBoxes n bs = some i → Ri C "boxes" i H E) ∧ (badBoxes n bs = none → ∀ H', Same H H' → Q .non H')
/-- the module's constants -/
structure Cs (mg : Str → Option Value) : Prop where
  h : ∃ t, mg "MOST_HANDS" = some (.int 4 t)
  b : ∃ t, mg "MOST_BOXES" = some (.int 3 t)
  t : ∃ t, mg "MOST_THINGS" = some (.int 4 t)
  s : ∃ t, mg "MOST_SEALS" = some (.int 3 t)
theorem scBoxes : FnScope ["hands", "boxes", "index", "place"] ["hands", "boxes"] (defScope sBoxes) := ⟨rfl, rfl, rfl, by decide +kernel, rfl, by decide +kernel, by decide +kernel⟩
theorem ok_boxes {f g C fI : Addr} {fd fdg fdI : FuncData} (F : Fun K "need_boxes" "need_boxes" sBoxes f fd) (B : Bt mg) (Z : Cs mg) (G : FnOk P w K mg base CX0 2 g fdg ["place", "hands", "boxes"] (spIsPl K)) (mG : mg "is_place" = some (.ref g)) (kG : PySem.W.keepIn K (.ref g) = true) (bG : Binds K fdg ["place", "hands", "boxes"] [])
    (T : ExcI P K mg "InvalidHouse" "InvalidHouse.__init__" sIH C fI fdI) (GI : FnOk P w K mg base CX0 1 fI fdI ["self", "part", "index"] (spIH C)) : FnOk P w K mg base (L2.CX P w) 3 f fd ["hands", "boxes"] (spBoxes K C) := by
  obtain ⟨tb, mB⟩ := Z.b
  refine F.okX scBoxes (fun vs H Q E h => ?_) (fun cdv A outer s H vs Q E hr h => ?_)
  · obtain ⟨n, x, bs, rfl, _⟩ := h
    rfl
  · obtain ⟨n, x, bs, rfl, hx, hl, kE, kQ⟩ := h
    obtain ⟨ab, xb, rfl, qb, db, lb⟩ := pls_at hx
    have tk : Takes (cxOf (L2.CX P w) P w K mg base ["hands", "boxes", "index", "place"] "need_boxes" (defScope sBoxes) f cdv A outer s H E) (fun cls d _ H => E cls d H) := takes_of rfl rfl rfl rfl
    refine ⟨_, pss_cons (ps_if (pt_cmpR op_eq (pe_callB call_len_seq (by rfl) B.len PySem.boot_len (pa_cons (pv 1) pa_nil)) pe_int (nomark _)) (pss_one (ps_raise rfl tk (pmk_oex T.sup.oex T.at_ T.ty GI hr T.bind .nil pass0 rfl T.mgC (pa_cons pe_str (pa_cons pe_int pa_nil))))) pss_nil)
      (pss_one (ps_for (passes_of rfl) rfl (pi_enumT (by rfl) B.enu (pa_cons (pv 1) pa_nil)) (pg_tup (by rfl) (pgs_cons (pg_name (i := 2) scBoxes.nd rfl (.inl rfl)) (pgs_cons (pg_name (i := 3) scBoxes.nd rfl (.inl rfl)) pgs_nil)))
        (pss_one (ps_if (PW.pt (pw_or (pt_cmpR op_eq (pv 2) (pe_glob (v := .int 3) rfl mB ⟨_, rfl⟩) (nomark _)) (pw_or1 (pt_not (pt_val (pe_call G hr rfl mG kG bG .nil pass0 (pa_cons (pv 3) (pa_cons (pv 0) (pa_cons (pv 2) pa_nil)))))))))
          (pss_one (ps_raise rfl tk (pmk_oex T.sup.oex T.at_ T.ty GI hr T.bind .nil pass0 rfl T.mgC (pa_cons pe_str (pa_cons (pv 2) pa_nil))))) pss_nil)))), ?_⟩
    refine ⟨_, rfl, _, _, rfl, .inr qb, rfl, _, rfl, ?_⟩
    rw [lb]
    unfold badBoxes at kE kQ
    have i0 : decide ((V.int (bs.length : Nat)) = V.int 0) = decide (bs.length = 0) := by
      by_cases c : bs.length = 0
      · rw [decide_eq_true c, c]; rfl
      · rw [decide_eq_false c]; exact decide_eq_false fun q => c (by have := V.int.inj q; omega)
    rw [i0]
    refine ite2 (fun c => ?_) (fun c => ?_)
    · have c' := of_decide_eq_true c
      rw [if_pos c'] at kE
      exact ⟨(by show 2 ≤ 1000; decide), ih_made (by decide +kernel) (by decide) (kE 0 rfl)⟩
    have c' : ¬ bs.length = 0 := fun z => c (decide_eq_true z)
    rw [if_neg c'] at kE kQ
    refine ⟨_, rfl, ab, xb, rfl, qb, for_enumT (K := K) (a := ab) (xs := xb) (fun i σ H2 => ∃ v1 v2 : Option V, σ = [some (.int n), some (.ref ab), v1, v2] ∧ Same H H2 ∧ firstBad (badB n) 0 bs = firstBad (badB n) i (bs.drop i))
      ⟨none, none, rfl, Same.refl H, by rw [List.drop_zero]⟩ (fun i σ H2 _ ⟨_, _, _, e, _⟩ => SqT.same e qb) ?_ ?_⟩
    · rintro i y σ H2 T' hi ⟨v1, v2, rfl, e, hb⟩ hT
      obtain ⟨p, hp, hy⟩ := pls_get db hi
      have e2 : Same H (upd H2 T' (.tup [.int (i : Nat), y])) := Same.upd2 e hT
      refine ⟨T', _, rfl, SqT.of upd_same, rfl, _, _, rfl, _, _, rfl, rfl, ?_⟩
      have hi100 : i < bs.length := (List.getElem?_eq_some_iff.mp hp).1
      rw [bad_at hp] at hb
      refine ⟨_, rfl, rfl, _, rfl, ?_⟩
      have i3 : decide ((V.int (i : Nat)) = V.int 3) = decide (i = 3) := by
        by_cases c : i = 3
        · rw [decide_eq_true c, c]; rfl
        · rw [decide_eq_false c]; exact decide_eq_false fun q => c (by have := V.int.inj q; omega)
      rw [i3]
      have raised : badB n i p = true → ∀ Q', (∀ cls d H', E cls d H' → Q' cls d H') → Ri C "boxes" i (upd H2 T' (.tup [.int (i : Nat), y])) Q' := fun hbad Q' hQ' => by
        rw [if_pos hbad] at hb
        exact fun dd H' e' hdd => hQ' _ _ _ (kE i hb dd H' (e2.trans e') hdd)
      unfold badB at raised hb
      by_cases c3 : i = 3
      · rw [decide_eq_true c3] at raised ⊢
        refine iteT (iteT ?_)
        exact ⟨_, rfl, (by show 2 ≤ 1000; decide), ih_made (by decide +kernel) (by omega) (raised rfl _ fun _ _ _ h => h)⟩
      · rw [decide_eq_false c3] at raised hb ⊢
        refine iteF ⟨_, rfl, _, rfl, _, rfl, _, p, n, i, rfl, Dp.nl (fun a o h _ _ => e2 a o h) _ _ (noL_pl p) hy, _, rfl, ?_⟩
        cases cp : plOk p n i with
        | false =>
          rw [cp] at raised
          refine iteT ?_
          exact ⟨_, rfl, (by show 2 ≤ 1000; decide), ih_made (by decide +kernel) (by omega) (raised rfl _ fun _ _ _ h => h)⟩
        | true =>
          rw [cp] at hb
          refine iteF ?_
          exact ⟨_, _, rfl, e2, hb⟩
    · rintro σ H2 ⟨v1, v2, rfl, e, hb⟩
      rw [lb, bad_end] at hb
      exact kQ hb H2 e

/-! ### need_house -/
def badT (n m : Int) (i : Nat) (p : Pl) : Bool := decide (i = 4) || !plOk p n m
def badS (n m : Int) (ss : List Pl) (i : Nat) (p : Pl) : Bool := (decide (i = 3) || !plOk p n m) || (decide (p.1 = .box) && (ss.take i).any fun q => decide (q = p))
def errOf (n : Int) (bs ts ss : List Pl) : Option (Str × Nat) :=
  if (!numOk n 5 || decide (n = 0)) = true then some ("hands", 0) else
  match badBoxes n bs with
  | some i => some ("boxes", i)
  | none =>
    match firstBad (badT n bs.length) 0 ts with
    | some i => some ("things", i)
    | none =>
      match firstBad (badS n bs.length ss) 0 ss with
      | some i => some ("seals", i)
      | none => none
def spNeed (K : PySem.W.Frag) (C : Addr) : Sp := fun vs H Q E => ∃ (n : Int) (x y z : V) (bs ts ss : List Pl), vs = [.int n, x, y, z] ∧ Dp K H x (plsD bs) ∧ Dp K H y (plsD ts) ∧ Dp K H z (plsD ss) ∧ bs.length ≤ 100 ∧ ts.length ≤ 100 ∧ ss.length ≤ 100 ∧
  (∀ z i, errOf n bs ts ss = some (z, i) → Ri C z i H E) ∧ (errOf n bs ts ss = none → ∀ H', Same H H' → Q .non H')
theorem decI (i j : Nat) : decide ((V.int (i : Int)) = V.int (j : Int)) = decide (i = j) := by
  by_cases c : i = j
  · rw [decide_eq_true c, c]; exact decide_eq_true rfl
  · rw [decide_eq_false c]; exact decide_eq_false fun q => c (by have := V.int.inj q; omega)
theorem decZ (i j : Int) : decide ((V.int i) = V.int j) = decide (i = j) := by
  by_cases c : i = j
  · rw [decide_eq_true c, c]; exact decide_eq_true rfl
  · rw [decide_eq_false c]; exact decide_eq_false fun q => c (V.int.inj q)
theorem any_pl (p : Pl) : ∀ l : List Pl, ((l.map plD).any fun z => PyData.eqv z (plD p)) = l.any fun q => decide (q = p)
  | [] => rfl
  | a :: l => by
    rw [List.map_cons, List.any_cons, List.any_cons, any_pl p l, eqv_pl]
theorem same_nl {H H' : Hp} (e : Same H H') : Nl H H' := fun a o h _ _ => e a o h
theorem scNeed : FnScope ["hands", "boxes", "things", "seals", "index", "place"] ["hands", "boxes", "things", "seals"] (defScope sNeed) := ⟨rfl, rfl, rfl, by decide +kernel, rfl, by decide +kernel, by decide +kernel⟩
theorem ok_need {f g gb gn C fI : Addr} {fd fdg fdb fdn fdI : FuncData} (F : Fun K "need_house" "need_house" sNeed f fd) (B : Bt mg) (Z : Cs mg)
    (G : FnOk P w K mg base CX0 2 g fdg ["place", "hands", "boxes"] (spIsPl K)) (mG : mg "is_place" = some (.ref g)) (kG : PySem.W.keepIn K (.ref g) = true) (bG : Binds K fdg ["place", "hands", "boxes"] [])
    (GN : FnOk P w K mg base CX0 1 gn fdn ["value", "limit"] spNum) (mN : mg "is_number" = some (.ref gn)) (kN : PySem.W.keepIn K (.ref gn) = true) (bN : Binds K fdn ["value", "limit"] [])
    (GB : FnOk P w K mg base (L2.CX P w) 3 gb fdb ["hands", "boxes"] (spBoxes K C)) (mB : mg "need_boxes" = some (.ref gb)) (kB : PySem.W.keepIn K (.ref gb) = true) (bB : Binds K fdb ["hands", "boxes"] [])
    (T : ExcI P K mg "InvalidHouse" "InvalidHouse.__init__" sIH C fI fdI) (GI : FnOk P w K mg base CX0 1 fI fdI ["self", "part", "index"] (spIH C)) : FnOk P w K mg base (L2.CX P w) 4 f fd ["hands", "boxes", "things", "seals"] (spNeed K C) := by
  obtain ⟨th, mH⟩ := Z.h
  obtain ⟨tt, mT⟩ := Z.t
  obtain ⟨ts', mS⟩ := Z.s
  refine F.okX scNeed (fun vs H Q E h => ?_) (fun cdv A outer s H vs Q E hr h => ?_)
  · obtain ⟨n, x, y, z, bs, ts, ss, rfl, _⟩ := h
    rfl
  · obtain ⟨n, x, y, z, bs, ts, ss, rfl, hx, hy, hz, hl1, hl2, hl3, kE, kQ⟩ := h
    obtain ⟨ab, xb, rfl, qb, db, lb⟩ := pls_at hx
    obtain ⟨at', xt, rfl, qt, dt, lt⟩ := pls_at hy
    obtain ⟨as, xs, rfl, qs, ds, ls⟩ := pls_at hz
    have hr2 : Room 2 _ := hr.mono (by decide)
    have hr1 : Room 1 _ := hr.mono (by decide)
    have hu65 : (cxOf (L2.CX P w) P w K mg base ["hands", "boxes", "things", "seals", "index", "place"] "need_house" (defScope sNeed) f cdv A outer s H E).A.units + 65 < cLine := by have := hr.un; show (A.deeper _).units + 65 < cLine; omega
    have tk : Takes (cxOf (L2.CX P w) P w K mg base ["hands", "boxes", "things", "seals", "index", "place"] "need_house" (defScope sNeed) f cdv A outer s H E) (fun cls d _ H => E cls d H) := takes_of rfl rfl rfl rfl
    refine ⟨_, pss_cons (ps_if (PW.pt (pw_or (pt_not (pt_val (pe_call GN hr1 rfl mN kN bN .nil pass0 (pa_cons (pv 0) (pa_cons (pe_op op_add (pe_glob (v := .int 4) rfl mH ⟨_, rfl⟩) pe_int) pa_nil))))) (pw_or1 (pt_cmpR op_eq (pv 0) pe_int (nomark _)))))
        (pss_one (ps_raise rfl tk (pmk_oex T.sup.oex T.at_ T.ty GI hr2 T.bind .nil pass0 rfl T.mgC (pa_cons pe_str (pa_cons pe_int pa_nil))))) pss_nil)
      (pss_cons (ps_expr (pe_call GB hr rfl mB kB bB .nil (passes_call tk (fun _ _ _ _ h => h)) (pa_cons (pv 0) (pa_cons (pv 1) pa_nil))))
      (pss_cons (ps_for (passes_of rfl) rfl (pi_enumT (by rfl) B.enu (pa_cons (pv 2) pa_nil)) (pg_tup (by rfl) (pgs_cons (pg_name (i := 4) scNeed.nd rfl (.inl rfl)) (pgs_cons (pg_name (i := 5) scNeed.nd rfl (.inl rfl)) pgs_nil)))
        (pss_one (ps_if (PW.pt (pw_or (pt_cmpR op_eq (pv 4) (pe_glob (v := .int 4) rfl mT ⟨_, rfl⟩) (nomark _)) (pw_or1 (pt_not (pt_val (pe_call G hr2 rfl mG kG bG .nil pass0 (pa_cons (pv 5) (pa_cons (pv 0) (pa_cons (pe_callB call_len_seq (by rfl) B.len PySem.boot_len (pa_cons (pv 1) pa_nil)) pa_nil)))))))))
          (pss_one (ps_raise rfl tk (pmk_oex T.sup.oex T.at_ T.ty GI hr2 T.bind .nil pass0 rfl T.mgC (pa_cons pe_str (pa_cons (pv 4) pa_nil))))) pss_nil)))
      (pss_one (ps_for (passes_of rfl) rfl (pi_enumT (by rfl) B.enu (pa_cons (pv 3) pa_nil)) (pg_tup (by rfl) (pgs_cons (pg_name (i := 4) scNeed.nd rfl (.inl rfl)) (pgs_cons (pg_name (i := 5) scNeed.nd rfl (.inl rfl)) pgs_nil)))
        (pss_cons (ps_if (PW.pt (pw_or (pt_cmpR op_eq (pv 4) (pe_glob (v := .int 3) rfl mS ⟨_, rfl⟩) (nomark _)) (pw_or1 (pt_not (pt_val (pe_call G hr2 rfl mG kG bG .nil pass0 (pa_cons (pv 5) (pa_cons (pv 0) (pa_cons (pe_callB call_len_seq (by rfl) B.len PySem.boot_len (pa_cons (pv 1) pa_nil)) pa_nil)))))))))
          (pss_one (ps_raise rfl tk (pmk_oex T.sup.oex T.at_ T.ty GI hr2 T.bind .nil pass0 rfl T.mgC (pa_cons pe_str (pa_cons (pv 4) pa_nil))))) pss_nil)
        (pss_one (ps_if (PW.pt (pw_and (pt_cmpR op_eq (pe_ix ix_tup (pv 5) pe_int (fun _ _ => rfl)) pe_str (nomark _)) (pw_and1 (pt_cmpR (op_inDT hu65) (pv 5) (pe_slice sl_tupA (pv 3) po_none (po_some (pv 4))) (by rfl)))))
          (pss_one (ps_raise rfl tk (pmk_oex T.sup.oex T.at_ T.ty GI hr2 T.bind .nil pass0 rfl T.mgC (pa_cons pe_str (pa_cons (pv 4) pa_nil))))) pss_nil))))))), ?_⟩
    refine ⟨_, rfl, _, _, rfl, rfl, n, 5, rfl, _, rfl, ?_⟩
    unfold errOf at kE kQ
    by_cases c0 : (!numOk n 5 || decide (n = 0)) = true
    · rw [if_pos c0] at kE
      have rz : tMkO C (spIH C) [] (tCons (tC (.str "hands")) (tCons (tC (.int 0)) tNil)) (start ["hands", "boxes", "things", "seals", "index", "place"] [.int n, .ref ab, .ref at', .ref as]) H (fun cls d H' => E cls d H') :=
        ⟨(by show 2 ≤ 1000; decide), ih_made (by decide +kernel) (by decide) (kE _ 0 rfl)⟩
      cases c1 : numOk n 5 with
      | false => exact iteT (iteT rz)
      | true =>
        refine iteF ⟨_, rfl, rfl, _, rfl, ?_⟩
        rw [decZ]
        rw [c1] at c0
        have c2 : decide (n = 0) = true := c0
        rw [c2]
        exact iteT rz
    rw [if_neg c0] at kE kQ
    have c1 : numOk n 5 = true := by
      cases c : numOk n 5 with
      | true => rfl
      | false => rw [c] at c0; exact absurd rfl c0
    have c2 : decide (n = 0) = false := by
      cases c : decide (n = 0) with
      | false => rfl
      | true => rw [c1, c] at c0; exact absurd rfl c0
    rw [c1]
    refine iteF ⟨_, rfl, rfl, _, rfl, ?_⟩
    rw [decZ, c2]
    refine iteF ?_
    -- need_boxes(hands, boxes)
    refine ⟨_, rfl, _, rfl, n, .ref ab, bs, rfl, hx, hl1, fun i hi => ?_, fun hb H1 e1 => ?_⟩
    · rw [hi] at kE
      exact kE _ i rfl
    rw [hb] at kE kQ
    have eqH : ∀ (m : Nat), decide ((V.int (m : Nat)) = V.int 4) = decide (m = 4) := fun m => decI m 4
    have eqH3 : ∀ (m : Nat), decide ((V.int (m : Nat)) = V.int 3) = decide (m = 3) := fun m => decI m 3
    -- for index, place in enumerate(things)
    refine ⟨_, rfl, at', xt, rfl, SqT.same e1 qt, for_enumT (K := K) (a := at') (xs := xt) (fun i σ H2 => ∃ v1 v2 : Option V, σ = [some (.int n), some (.ref ab), some (.ref at'), some (.ref as), v1, v2] ∧ Same H H2 ∧ firstBad (badT n bs.length) 0 ts = firstBad (badT n bs.length) i (ts.drop i))
      ⟨none, none, rfl, e1, by rw [List.drop_zero]⟩ (fun i σ H2 _ ⟨_, _, _, e, _⟩ => SqT.same e qt) ?_ ?_⟩
    · rintro i y σ H2 T' hi ⟨v1, v2, rfl, e, hb2⟩ hT
      obtain ⟨p, hp, hy2⟩ := pls_get dt hi
      have e2 : Same H (upd H2 T' (.tup [.int (i : Nat), y])) := Same.upd2 e hT
      refine ⟨T', _, rfl, SqT.of upd_same, rfl, _, _, rfl, _, _, rfl, rfl, ?_⟩
      have hi100 : i < ts.length := (List.getElem?_eq_some_iff.mp hp).1
      rw [bad_at hp] at hb2
      refine ⟨_, rfl, rfl, _, rfl, ?_⟩
      rw [eqH]
      have raised : badT n bs.length i p = true → Ri C "things" i (upd H2 T' (.tup [.int (i : Nat), y])) E := fun hbad => by
        rw [if_pos hbad] at hb2
        rw [hb2] at kE
        exact fun dd H' e' hdd => kE _ i rfl dd H' (e2.trans e') hdd
      unfold badT at raised hb2
      by_cases c3 : i = 4
      · rw [decide_eq_true c3] at raised ⊢
        refine iteT (iteT ?_)
        exact ⟨_, rfl, (by show 2 ≤ 1000; decide), ih_made (by decide +kernel) (by omega) (raised rfl)⟩
      · rw [decide_eq_false c3] at raised hb2 ⊢
        refine iteF ⟨_, rfl, _, rfl, _, rfl, ab, xb, rfl, .inr (SqT.same e2 qb), _, p, n, xb.length, rfl, Dp.nl (same_nl e2) _ _ (noL_pl p) hy2, _, rfl, ?_⟩
        rw [lb]
        cases cp : plOk p n bs.length with
        | false =>
          rw [cp] at raised
          refine iteT ?_
          exact ⟨_, rfl, (by show 2 ≤ 1000; decide), ih_made (by decide +kernel) (by omega) (raised rfl)⟩
        | true =>
          rw [cp] at hb2
          exact iteF ⟨_, _, rfl, e2, hb2⟩
    rintro σ H2 ⟨v1, v2, rfl, e, hb2⟩
    rw [lt, bad_end] at hb2
    rw [hb2] at kE kQ
    -- for index, place in enumerate(seals)
    refine ⟨_, rfl, as, xs, rfl, SqT.same e qs, for_enumT (K := K) (a := as) (xs := xs) (fun i σ H2 => ∃ v1 v2 : Option V, σ = [some (.int n), some (.ref ab), some (.ref at'), some (.ref as), v1, v2] ∧ Same H H2 ∧ firstBad (badS n bs.length ss) 0 ss = firstBad (badS n bs.length ss) i (ss.drop i))
      ⟨_, _, rfl, e, by rw [List.drop_zero]⟩ (fun i σ H2 _ ⟨_, _, _, e, _⟩ => SqT.same e qs) ?_ ?_⟩
    · rintro i y σ H3 T' hi ⟨v1, v2, rfl, e, hb2⟩ hT
      obtain ⟨p, hp, hy2⟩ := pls_get ds hi
      have e2 : Same H (upd H3 T' (.tup [.int (i : Nat), y])) := Same.upd2 e hT
      refine ⟨T', _, rfl, SqT.of upd_same, rfl, _, _, rfl, _, _, rfl, rfl, ?_⟩
      have hi100 : i < ss.length := (List.getElem?_eq_some_iff.mp hp).1
      rw [bad_at hp] at hb2
      refine ⟨_, rfl, rfl, _, rfl, ?_⟩
      rw [eqH3]
      have raised : badS n bs.length ss i p = true → ∀ H', Same H H' → Ri C "seals" i H' E := fun hbad H' eh => by
        rw [if_pos hbad] at hb2
        rw [hb2] at kE
        exact fun dd H'' e' hdd => kE _ i rfl dd H'' (eh.trans e') hdd
      unfold badS at raised hb2
      by_cases c3 : i = 3
      · rw [decide_eq_true c3] at raised ⊢
        refine iteT (iteT ?_)
        exact ⟨_, rfl, (by show 2 ≤ 1000; decide), ih_made (by decide +kernel) (by omega) (raised rfl _ e2)⟩
      · rw [decide_eq_false c3] at raised hb2 ⊢
        refine iteF ⟨_, rfl, _, rfl, _, rfl, ab, xb, rfl, .inr (SqT.same e2 qb), _, p, n, xb.length, rfl, Dp.nl (same_nl e2) _ _ (noL_pl p) hy2, _, rfl, ?_⟩
        rw [lb]
        cases cp : plOk p n bs.length with
        | false =>
          rw [cp] at raised
          refine iteT ?_
          exact ⟨_, rfl, (by show 2 ≤ 1000; decide), ih_made (by decide +kernel) (by omega) (raised rfl _ e2)⟩
        | true =>
          rw [cp] at raised hb2
          refine iteF ?_
          -- if place[0] == 'box' and place in seals[:index]
          obtain ⟨ap, rfl, qp⟩ := pl_at (Dp.nl (same_nl e2) _ _ (noL_pl p) hy2)
          refine ⟨_, rfl, ap, _, 0, _, rfl, rfl, qp, rfl, rfl, _, rfl, ?_⟩
          rw [decS]
          cases cw : p.1 with
          | hand =>
            rw [cw] at hb2
            exact iteF (iteF ⟨_, _, rfl, e2, hb2⟩)
          | gone =>
            rw [cw] at hb2
            exact iteF (iteF ⟨_, _, rfl, e2, hb2⟩)
          | box =>
            rw [cw] at raised hb2
            have hxl : i < xs.length := by omega
            refine iteT ⟨_, rfl, _, rfl, _, rfl, _, rfl, as, xs, rfl, SqT.same e2 qs, fun hw => ?_, fun hw T2 hT2 => ?_⟩
            · exfalso
              have h1 := hw.2
              rw [HT.sIx_nat] at h1
              omega
            · have e3 : Same H (upd (upd H3 T' (.tup [.int (i : Nat), .ref ap])) T2 (.tup (cutV xs none (some (i : Int))))) := Same.upd2 e2 hT2
              have ecut : cutV xs none (some (i : Int)) = xs.take i := by
                unfold cutV
                rw [HT.sIx_none, HT.sIx_nat, List.drop_zero, Nat.sub_zero, Nat.min_eq_left (by omega)]
              rw [ecut] at e3 ⊢
              refine ⟨plD p, (ss.take i).map plD, Dp.nl (same_nl e3) _ _ (noL_pl p) hy2, .tup (SqT.of upd_same) ?_, shaped_pl p, shaped_pls (ss.take i), _, rfl, ?_⟩
              · rw [List.map_take]
                exact DpAll.take i (Dp.sames e3 _ _ ds)
              · rw [any_pl]
                cases ca : (ss.take i).any fun q => decide (q = p) with
                | true =>
                  rw [ca] at raised
                  refine iteT ?_
                  exact ⟨_, rfl, (by show 2 ≤ 1000; decide), ih_made (by decide +kernel) (by omega) (raised rfl _ e3)⟩
                | false =>
                  rw [ca] at hb2
                  exact iteF ⟨_, _, rfl, e3, hb2⟩
    rintro σ H3 ⟨v1, v2, rfl, e, hb3⟩
    rw [ls, bad_end] at hb3
    rw [hb3] at kQ
    exact kQ rfl H3 e
end
end Kw

set_option Elab.async false
set_option linter.all false
set_option maxRecDepth 100000
set_option maxHeartbeats 4000000
namespace Kw
open PySem PySem.Spec PyProof.Rows L2
section
variable {P : Program} {w : World} {K : PySem.W.Frag} {mg : Str → Option Value} {base : Heap}
/-! ### House(hands, boxes, things, seals) -/
/-- all but what stands at h -/
def But (h : Addr) (H H' : Hp) : Prop := ∀ a o, H a = some o → a ≠ h → H' a = some o
def spHouse (K : PySem.W.Frag) (C CE : Addr) : Sp := fun vs H Q E => ∃ (h dx : Addr) (n : Int) (x y z : V) (bs ts ss : List Pl), vs = [.ref h, .int n, x, y, z] ∧ H h = some (.ins C dx []) ∧ Dp K H x (plsD bs) ∧ Dp K H y (plsD ts) ∧ Dp K H z (plsD ss) ∧ bs.length ≤ 100 ∧ ts.length ≤ 100 ∧ ss.length ≤ 100 ∧
  (∀ z i, errOf n bs ts ss = some (z, i) → Ri CE z i H E) ∧ (errOf n bs ts ss = none → ∀ H', But h H H' → HouseAt K C H' h ⟨n, bs, ts, ss⟩ → Q .non H')
theorem scInit : FnScope ["self", "hands", "boxes", "things", "seals"] ["self", "hands", "boxes", "things", "seals"] (defScope sInit) := ⟨rfl, rfl, rfl, by decide +kernel, rfl, by decide +kernel, by decide +kernel⟩
theorem ok_house {f g C CE : Addr} {fd fdg : FuncData} (F : Fun K "__init__" "House.__init__" sInit f fd) (B : Bt mg) (T : HouseC K C)
    (G : FnOk P w K mg base (L2.CX P w) 4 g fdg ["hands", "boxes", "things", "seals"] (spNeed K CE)) (mG : mg "need_house" = some (.ref g)) (kG : PySem.W.keepIn K (.ref g) = true) (bG : Binds K fdg ["hands", "boxes", "things", "seals"] []) :
    FnOk P w K mg base (L2.CX P w) 5 f fd ["self", "hands", "boxes", "things", "seals"] (spHouse K C CE) := by
  refine F.okX scInit (fun vs H Q E h => ?_) (fun cdv A outer s H vs Q E hr h => ?_)
  · obtain ⟨h, dx, n, x, y, z, bs, ts, ss, rfl, _⟩ := h
    rfl
  · obtain ⟨h, dx, n, x, y, z, bs, ts, ss, rfl, hh, hx, hy, hz, hl1, hl2, hl3, kE, kQ⟩ := h
    obtain ⟨ab, xb, rfl, qb, db, lb⟩ := pls_at hx
    obtain ⟨at', xt, rfl, qt, dt, lt⟩ := pls_at hy
    obtain ⟨as, xs, rfl, qs, ds, ls⟩ := pls_at hz
    have tk : Takes (cxOf (L2.CX P w) P w K mg base ["self", "hands", "boxes", "things", "seals"] "House.__init__" (defScope sInit) f cdv A outer s H E) (fun cls d _ H => E cls d H) := takes_of rfl rfl rfl rfl
    refine ⟨_, pss_cons (ps_expr (pe_call G hr rfl mG kG bG .nil (passes_call tk (fun _ _ _ _ h => h)) (pa_cons (pv 1) (pa_cons (pv 2) (pa_cons (pv 3) (pa_cons (pv 4) pa_nil))))))
      (pss_cons (ps_fld (pv 0) (pv 1) rfl)
      (pss_cons (ps_fld (pv 0) (pe_callTy call_tuple_of (by rfl) B.tup (by decide +kernel) (pa_cons (pv 2) pa_nil)) rfl)
      (pss_cons (ps_fld (pv 0) (pe_callTy call_tuple_of (by rfl) B.tup (by decide +kernel) (pa_cons (pv 3) pa_nil)) rfl)
      (pss_cons (ps_fld (pv 0) (pe_callTy call_tuple_of (by rfl) B.tup (by decide +kernel) (pa_cons (pv 4) pa_nil)) rfl)
      (pss_one (ps_fld (pv 0) (pe_tup (pa_cons (pe_fld (pv 0) rfl) (pa_cons (pe_fld (pv 0) rfl) (pa_cons (pe_fld (pv 0) rfl) pa_nil)))) rfl)))))), ?_⟩
    refine ⟨_, rfl, _, rfl, _, rfl, _, rfl, n, .ref ab, .ref at', .ref as, bs, ts, ss, rfl, hx, hy, hz, hl1, hl2, hl3, kE, fun he H1 e1 => ?_⟩
    have h1 := e1 _ _ hh
    have tu : ∀ {a : Addr} {us : List V} {o : HO}, SqT K H a us → SqT K (upd H1 h o) a us := fun {a us o} q => by
      rcases SqT.same e1 q with (q | ⟨ob, q⟩) | q
      · exact .inl (.inl (by rw [upd_ne (ne_of q h1 (by intro z; cases z))]; exact q))
      · exact .inl (.inr ⟨ob, by rw [upd_ne (ne_of q h1 (by intro z; cases z))]; exact q⟩)
      · exact .inr q
    refine ⟨_, rfl, _, rfl, h, C, dx, _, rfl, h1, T.cl, T.nH, (by show 0 < 1000; decide), ?_⟩
    refine ⟨_, rfl, ab, xb, rfl, .inr ⟨tu qb, _, rfl, h, C, dx, _, rfl, upd_same, T.cl, T.nB, (by show 1 < 1000; decide), ?_⟩⟩
    rw [upd_upd]
    refine ⟨_, rfl, at', xt, rfl, .inr ⟨tu qt, _, rfl, h, C, dx, _, rfl, upd_same, T.cl, T.nT, ?_, ?_⟩⟩
    · have a3 := length_putF "boxes" (.ref ab) (putF "hands" (.int n) [])
      have a4 := length_putF "hands" (.int n) []
      have a5 : ([] : List (Str × V)).length = 0 := rfl
      omega
    rw [upd_upd]
    refine ⟨_, rfl, as, xs, rfl, .inr ⟨tu qs, _, rfl, h, C, dx, _, rfl, upd_same, T.cl, T.nS, ?_, ?_⟩⟩
    · have a2 := length_putF "things" (.ref at') (putF "boxes" (.ref ab) (putF "hands" (.int n) []))
      have a3 := length_putF "boxes" (.ref ab) (putF "hands" (.int n) [])
      have a4 := length_putF "hands" (.int n) []
      have a5 : ([] : List (Str × V)).length = 0 := rfl
      omega
    rw [upd_upd]
    have lk1 : (putF "seals" (.ref as) (putF "things" (.ref at') (putF "boxes" (.ref ab) (putF "hands" (.int n) [])))).lookup ("boxes" : Str) = some (V.ref ab) := by
      rw [lookup_putF, if_neg (by decide +kernel), lookup_putF, if_neg (by decide +kernel), lookup_putF, if_pos rfl]
    have lk2 : (putF "seals" (.ref as) (putF "things" (.ref at') (putF "boxes" (.ref ab) (putF "hands" (.int n) [])))).lookup ("things" : Str) = some (V.ref at') := by
      rw [lookup_putF, if_neg (by decide +kernel), lookup_putF, if_pos rfl]
    have lk3 : (putF "seals" (.ref as) (putF "things" (.ref at') (putF "boxes" (.ref ab) (putF "hands" (.int n) [])))).lookup ("seals" : Str) = some (V.ref as) := by
      rw [lookup_putF, if_pos rfl]
    refine ⟨_, rfl, h, C, dx, _, .ref ab, rfl, upd_same, T.cl, T.nB, lk1, _, rfl, h, C, dx, _, .ref at', rfl, upd_same, T.cl, T.nT, lk2, _, rfl, h, C, dx, _, .ref as, rfl, upd_same, T.cl, T.nS, lk3, (by show 3 ≤ sizeLine; decide), fun p hp => ?_⟩
    have nph : p ≠ h := fun e => by
      rw [e, upd_same] at hp
      cases hp
    refine ⟨_, rfl, h, C, dx, _, rfl, by rw [upd_ne nph.symm, upd_same], T.cl, T.nSt, ?_, ?_⟩
    · have a1 := length_putF "seals" (.ref as) (putF "things" (.ref at') (putF "boxes" (.ref ab) (putF "hands" (.int n) [])))
      have a2 := length_putF "things" (.ref at') (putF "boxes" (.ref ab) (putF "hands" (.int n) []))
      have a3 := length_putF "boxes" (.ref ab) (putF "hands" (.int n) [])
      have a4 := length_putF "hands" (.int n) []
      have a5 : ([] : List (Str × V)).length = 0 := rfl
      omega
    have hpH : H1 p = none := by rw [upd_ne nph] at hp; exact hp
    have key : ∀ b o, H b = some o → b ≠ h → (upd (upd (upd H1 h (.ins C dx (putF "seals" (.ref as) (putF "things" (.ref at') (putF "boxes" (.ref ab) (putF "hands" (.int n) [])))))) p (.tup [.ref ab, .ref at', .ref as])) h (.ins C dx (hsFs n (.ref ab) (.ref at') (.ref as) (.ref p)))) b = some o := fun b o e ne => by
      rw [upd_ne ne, upd_ne (ne_of_none (e1 b o e) hpH), upd_ne ne]
      exact e1 b o e
    have dps : ∀ (v : V) (ps : List Pl), Dp K H v (plsD ps) → Dp K (upd (upd (upd H1 h (.ins C dx (putF "seals" (.ref as) (putF "things" (.ref at') (putF "boxes" (.ref ab) (putF "hands" (.int n) [])))))) p (.tup [.ref ab, .ref at', .ref as])) h (.ins C dx (hsFs n (.ref ab) (.ref at') (.ref as) (.ref p)))) v (plsD ps) := fun v ps q =>
      Dp.tp (fun b xs e => by
        rcases e with e | ⟨o, e⟩
        · exact .inl (key b _ e (ne_of e hh (by intro z; cases z)))
        · exact .inr ⟨o, key b _ e (ne_of e hh (by intro z; cases z))⟩) _ _ (noL_pls ps) q
    refine kQ he _ key ⟨dx, _, _, _, _, upd_same, dps _ _ hx, dps _ _ hy, dps _ _ hz, ?_⟩
    exact .tup (SqT.of (by rw [upd_ne nph, upd_same])) (.cons (dps _ _ hx) (.cons (dps _ _ hy) (.cons (dps _ _ hz) .nil)))

/-! ### items -/
def itD (k : Str) (i : Nat) : PyData := .tuple [.str k, .int i]
def kindD (k : Str) (n : Nat) : List PyData := (List.range n).map (itD k)
theorem wipe_one (σ : L2.St) (j : Nat) (x : Option V) : wipe ((wipe σ [j]).set j x) [j] = wipe σ [j] := by
  show (((σ.set j none).set j x).set j none) = σ.set j none
  rw [List.set_set, List.set_set]
theorem yes_lc {A B : Hp → Prop} {σ : L2.St} {H : Hp} (h : A H) : tYes σ H (fun b H3 => if b = true then A H3 else B H3) := by
  show (if true = true then A H else B H)
  rw [if_pos rfl]
  exact h
/-- [(k, number) for number in range(n)], the number's slot j -/
theorem lc_kind {K : PySem.W.Frag} {σ : L2.St} {H1 : Hp} {Dl : Addr} {Qd : Hp → Prop} (k : Str) (n j : Nat) (hj : j < σ.length) (hn : n ≤ 1000) (hD : H1 Dl = none)
    (hd : ∀ H xs, Same H1 H → H Dl = some (.lst xs) → DpAll K H xs (kindD k n) → Qd H) :
    ∃ W : Nat → Nat → Hp → Prop, (∃ m, W 0 m (upd H1 Dl (.lst []))) ∧ ∀ i m H, W i m H →
      ((Itr 0 n).stop i H ∧ Qd H) ∨ ((Itr 0 n).go i H ∧ ∃ Nx : Hp → Prop, (∀ H', Nx H' → ∃ m', m' < m ∧ W (i + 1) m' H') ∧ ∀ x H', (Itr 0 n).yld i H x H' → gName j x (wipe σ [j]) H' fun σ2 H2 => wipe σ2 [j] = wipe σ [j] ∧ tYes σ2 H2 fun b H3 =>
        if b = true then tTup (tCons (tC (.str k)) (tCons (tVar j) tNil)) σ2 H3 fun y H4 => ∃ acc, H4 Dl = some (.lst acc) ∧ acc.length < sizeLine ∧ Nx (upd H4 Dl (.lst (acc ++ [y]))) else Nx H3) := by
  refine lc_range (lo := 0) (n := n) (fun i H => Same H1 H ∧ ∃ xs, H Dl = some (.lst xs) ∧ DpAll K H xs (kindD k i) ∧ xs.length = i) ⟨same_upd hD, [], upd_same, .nil, rfl⟩ ?_ ?_
  · rintro i H hi ⟨e, xs, hx, dx, lx⟩
    refine ⟨wipe_one σ j _, ?_⟩
    refine yes_lc ?_
    refine ⟨_, List.getElem?_set_self (by rw [wipe_length]; exact hj), (by show 2 ≤ sizeLine; decide), fun p hp => ?_⟩
    have np : Dl ≠ p := ne_of_none hx hp
    refine ⟨xs, by rw [upd_ne np]; exact hx, by rw [lx, sizeLine_eq]; omega, ?_⟩
    have e2 : Same H1 (upd (upd H p (.tup [.str k, .int (0 + (i : Int))])) Dl (.lst (xs ++ [.ref p]))) := fun b o q => by
      rw [upd_ne (ne_of_none q hD), upd_ne (ne_of_none (e b o q) hp)]
      exact e b o q
    refine ⟨e2, xs ++ [.ref p], upd_same, ?_, by rw [List.length_append, lx]; rfl⟩
    have ek : kindD k (i + 1) = kindD k i ++ [itD k i] := by
      unfold kindD
      rw [List.range_succ, List.map_append]
      rfl
    rw [ek]
    have tp : Tp H (upd (upd H p (.tup [.str k, .int (0 + (i : Int))])) Dl (.lst (xs ++ [.ref p]))) := fun b us r => by
      rcases r with r | ⟨o, r⟩
      · exact .inl (by rw [upd_ne (ne_of r hx (by intro z; cases z)), upd_ne (ne_of_none r hp)]; exact r)
      · exact .inr ⟨o, by rw [upd_ne (ne_of r hx (by intro z; cases z)), upd_ne (ne_of_none r hp)]; exact r⟩
    refine DpAll.app (Dp.tps tp _ _ (noLs_map _ (fun _ => rfl) _) dx) (.cons (.tup (SqT.of (xs := [.str k, .int (0 + (i : Int))]) (by rw [upd_ne np.symm, upd_same])) (.cons (.str k) (.cons ?_ .nil))) .nil)
    rw [Int.zero_add]
    exact .int _
  · rintro H ⟨e, xs, hx, dx, lx⟩
    exact hd H xs e hx dx
def itemsD (d : Hs) : PyData := .list (kindD "box" d.bs.length ++ kindD "seal" d.ss.length ++ kindD "thing" d.ts.length)
def spItems (K : PySem.W.Frag) (C : Addr) : Sp := fun vs H Q _ => ∃ (h : Addr) (d : Hs), vs = [.ref h] ∧ HouseAt K C H h d ∧ d.bs.length ≤ 100 ∧ d.ts.length ≤ 100 ∧ d.ss.length ≤ 100 ∧ ∀ p H' xs, Same H H' → H p = none → H' p = some (.lst xs) → Dp K H' (.ref p) (itemsD d) → Q (.ref p) H'
theorem scItems : FnScope ["self", "boxes", "seals", "things", "number"] ["self"] (defScope sItems) := ⟨rfl, rfl, rfl, by decide +kernel, rfl, by decide +kernel, by decide +kernel⟩
theorem ok_items {f C : Addr} {fd : FuncData} (F : Fun K "all_items" "House.all_items" sItems f fd) (B : Bt mg) (T : HouseC K C) : FnOk P w K mg base CX0 1 f fd ["self"] (spItems K C) := by
  refine F.ok scItems (fun vs H Q E h => ?_) (fun cdv A outer s H vs Q E hr h => ?_)
  · obtain ⟨h, d, rfl, _⟩ := h
    rfl
  · obtain ⟨h, d, rfl, hh, l1, l2, l3, k⟩ := h
    refine ⟨_, pss_cons (ps_setLc (i := 1) (own := [("number", 4)]) (g := gName 4) (tt := tYes) (te := tTup (tCons (tC (.str "box")) (tCons (tVar 4) tNil))) rfl scItems.nd rfl rfl (sw_true rfl rfl rfl (by decide +kernel)) (pi_range1 rfl B.rng (pa_cons (pe_callB call_len_seq (by rfl) B.len PySem.boot_len (pa_cons (pe_fld (pv 0) rfl) pa_nil)) pa_nil))
        (blkOk_by (own := [("number", 4)]) (N := ["self", "boxes", "seals", "things", "number"]) (sc := defScope sItems) (by decide +kernel)) (fun _ _ _ _ _ => pg_name (i := 4) scItems.nd rfl (.inl rfl)) (fun _ _ _ _ _ => pts_nil) (fun _ _ _ _ _ => pe_tup (pa_cons pe_str (pa_cons (pv 4) pa_nil))))
      (pss_cons (ps_setLc (i := 2) (own := [("number", 4)]) (g := gName 4) (tt := tYes) (te := tTup (tCons (tC (.str "seal")) (tCons (tVar 4) tNil))) rfl scItems.nd rfl rfl (sw_true rfl rfl rfl (by decide +kernel)) (pi_range1 rfl B.rng (pa_cons (pe_callB call_len_seq (by rfl) B.len PySem.boot_len (pa_cons (pe_fld (pv 0) rfl) pa_nil)) pa_nil))
        (blkOk_by (own := [("number", 4)]) (N := ["self", "boxes", "seals", "things", "number"]) (sc := defScope sItems) (by decide +kernel)) (fun _ _ _ _ _ => pg_name (i := 4) scItems.nd rfl (.inl rfl)) (fun _ _ _ _ _ => pts_nil) (fun _ _ _ _ _ => pe_tup (pa_cons pe_str (pa_cons (pv 4) pa_nil))))
      (pss_cons (ps_setLc (i := 3) (own := [("number", 4)]) (g := gName 4) (tt := tYes) (te := tTup (tCons (tC (.str "thing")) (tCons (tVar 4) tNil))) rfl scItems.nd rfl rfl (sw_true rfl rfl rfl (by decide +kernel)) (pi_range1 rfl B.rng (pa_cons (pe_callB call_len_seq (by rfl) B.len PySem.boot_len (pa_cons (pe_fld (pv 0) rfl) pa_nil)) pa_nil))
        (blkOk_by (own := [("number", 4)]) (N := ["self", "boxes", "seals", "things", "number"]) (sc := defScope sItems) (by decide +kernel)) (fun _ _ _ _ _ => pg_name (i := 4) scItems.nd rfl (.inl rfl)) (fun _ _ _ _ _ => pts_nil) (fun _ _ _ _ _ => pe_tup (pa_cons pe_str (pa_cons (pv 4) pa_nil))))
      (pss_one (ps_ret (pe_op op_cat (pe_op op_cat (pv 1) (pv 2)) (pv 3)))))), ?_⟩
    obtain ⟨dx, vb, vt, vs, vst, h0, h1, h2, h3, h4⟩ := hh.ex
    obtain ⟨ab, xb, rfl, qb, db, lb⟩ := pls_at h1
    obtain ⟨at', xt, rfl, qt, dt, lt⟩ := pls_at h2
    obtain ⟨as, xs, rfl, qs, ds, ls⟩ := pls_at h3
    have nn : ∀ n : Nat, ((n : Nat) : Int).toNat = n := fun n => by omega
    refine ⟨_, rfl, h, C, dx, _, .ref ab, rfl, h0, T.cl, T.nB, fs_boxes _ _ _ _ _, _, _, rfl, .inr qb, _, rfl, by omega, by omega, fun D1 hD1 => ?_⟩
    rw [nn]
    refine lc_kind (K := K) "box" xb.length 4 (show 4 < 5 by decide) (by omega) hD1 fun Ha ys1 e1 hy1 dy1 => ?_
    refine ⟨_, rfl, h, C, dx, _, .ref as, rfl, e1 _ _ h0, T.cl, T.nS, fs_seals _ _ _ _ _, _, _, rfl, .inr (SqT.same e1 qs), _, rfl, by omega, by omega, fun D2 hD2 => ?_⟩
    rw [nn]
    refine lc_kind (K := K) "seal" xs.length 4 (show 4 < 5 by decide) (by omega) hD2 fun Hb ys2 e2 hy2 dy2 => ?_
    refine ⟨_, rfl, h, C, dx, _, .ref at', rfl, e2 _ _ (e1 _ _ h0), T.cl, T.nT, fs_things _ _ _ _ _, _, _, rfl, .inr (SqT.same (e1.trans e2) qt), _, rfl, by omega, by omega, fun D3 hD3 => ?_⟩
    rw [nn]
    refine lc_kind (K := K) "thing" xt.length 4 (show 4 < 5 by decide) (by omega) hD3 fun Hc ys3 e3 hy3 dy3 => ?_
    have y1 := e3 _ _ (e2 _ _ hy1)
    have y2 := e3 _ _ hy2
    have b1 : ys1.length = xb.length := by rw [DpAll.len dy1]; simp [kindD]
    have b2 : ys2.length = xs.length := by rw [DpAll.len dy2]; simp [kindD]
    have b3 : ys3.length = xt.length := by rw [DpAll.len dy3]; simp [kindD]
    refine ⟨_, rfl, _, rfl, D1, D2, ys1, ys2, rfl, rfl, y1, y2, by rw [sizeLine_eq]; omega, fun p hp => ?_⟩
    have e4 : Same Hc (upd Hc p (.lst (ys1 ++ ys2))) := same_upd hp
    refine ⟨_, rfl, p, D3, _, ys3, rfl, rfl, upd_same, e4 _ _ hy3, by rw [List.length_append, sizeLine_eq]; omega, fun q hq => ?_⟩
    have e5 : Same Hc (upd (upd Hc p (.lst (ys1 ++ ys2))) q (.lst (ys1 ++ ys2 ++ ys3))) := Same.upd2 e4 hq
    have e6 := ((e1.trans e2).trans e3).trans e5
    have eq : itemsD d = .list ((kindD "box" xb.length ++ kindD "seal" xs.length) ++ kindD "thing" xt.length) := by
      unfold itemsD
      rw [lb, ls, lt]
    refine k q _ _ e6 ((((e1.trans e2).trans e3).trans e4).free hq) upd_same ?_
    rw [eq]
    refine .lst (SqL.of upd_same) (DpAll.app (DpAll.app ?_ ?_) ?_)
    · exact Dp.sames (e2.trans (e3.trans e5)) _ _ dy1
    · exact Dp.sames (e3.trans e5) _ _ dy2
    · exact Dp.sames e5 _ _ dy3

/-! ### item in house -/
def spHas (K : PySem.W.Frag) (C : Addr) : Sp := fun vs H Q _ => ∃ (h a : Addr) (d : Hs) (k : Str) (i : Int), vs = [.ref h, .ref a] ∧ HouseAt K C H h d ∧ H a = some (.tup [.str k, .int i]) ∧ Q (.bl (numOk i (manyOf d k))) H
theorem scHas : FnScope ["self", "item"] ["self", "item"] (defScope sHas) := ⟨rfl, rfl, rfl, by decide +kernel, rfl, by decide +kernel, by decide +kernel⟩
theorem ok_has {f gm gn C : Addr} {fd fdm fdn : FuncData} (F : Fun K "__contains__" "House.__contains__" sHas f fd) (B : Bt mg)
    (GM : FnOk P w K mg base CX0 1 gm fdm ["house", "word"] (spMany K C)) (mM : mg "how_many" = some (.ref gm)) (kM : PySem.W.keepIn K (.ref gm) = true) (bM : Binds K fdm ["house", "word"] [])
    (GN : FnOk P w K mg base CX0 1 gn fdn ["value", "limit"] spNum) (mN : mg "is_number" = some (.ref gn)) (kN : PySem.W.keepIn K (.ref gn) = true) (bN : Binds K fdn ["value", "limit"] []) :
    FnOk P w K mg base CX0 2 f fd ["self", "item"] (spHas K C) := by
  refine F.ok scHas (fun vs H Q E h => ?_) (fun cdv A outer s H vs Q E hr h => ?_)
  · obtain ⟨h, a, d, k, i, rfl, _⟩ := h
    rfl
  · obtain ⟨h, a, d, k, i, rfl, hh, ha, kq⟩ := h
    refine ⟨_, pss_one (ps_ret (pe_and (pe_callB call_isi (by rfl) B.isi (by decide +kernel) (pa_cons (pv 1) (pa_cons (pe_bltn (v := .ty "tuple") (by rfl) B.tup (by decide +kernel) rfl) pa_nil)))
      (pe_and (pe_cmpR op_eq (pe_callB call_len_seq (by rfl) B.len PySem.boot_len (pa_cons (pv 1) pa_nil)) pe_int (nomark _))
        (pe_one (pe_call GN hr rfl mN kN bN .nil pass0 (pa_cons (pe_ix ix_tup (pv 1) pe_int (fun _ _ => rfl)) (pa_cons (pe_call GM hr rfl mM kM bM .nil pass0 (pa_cons (pv 0) (pa_cons (pe_ix ix_tup (pv 1) pe_int (fun _ _ => rfl)) pa_nil))) pa_nil))))))), ?_⟩
    refine ⟨_, rfl, _, _, _, _, true, rfl, .ty "tuple", .base (.tup ha), kit_ty (by decide +kernel), _, rfl, iteT ?_⟩
    refine ⟨_, rfl, _, _, rfl, .inr (SqT.of ha), rfl, true, rfl, iteT ?_⟩
    refine ⟨_, rfl, a, _, 1, _, rfl, rfl, SqT.of ha, rfl, _, rfl, _, rfl, a, _, 0, _, rfl, rfl, SqT.of ha, rfl, h, d, k, rfl, hh, i, _, rfl, ?_⟩
    exact kq
/-! ### house == other -/
theorem lay_st (d : Hs) : PyData.canLay0 (stD d) = true := by
  have h1 := SeqAt.canLay_of_shaped (shaped_pls d.bs)
  have h2 := SeqAt.canLay_of_shaped (shaped_pls d.ts)
  have h3 := SeqAt.canLay_of_shaped (shaped_pls d.ss)
  simp [stD, PyData.canLay0, PyData.canLayAll0, h1, h2, h3]
theorem depth_plsD (ps : List Pl) : PyData.depth (plsD ps) ≤ 2 := by
  have := depth_pls ps
  simp [plsD, PyData.depth]
  omega
theorem shaped_st (d : Hs) : SeqAt.shaped (stD d) = true := by
  have h1 := depth_plsD d.bs
  have h2 := depth_plsD d.ts
  have h3 := depth_plsD d.ss
  simp [SeqAt.shaped, lay_st]
  simp [stD, PyData.depth, PyData.depthAll]
  omega
def spEqH (K : PySem.W.Frag) (C : Addr) : Sp := fun vs H Q _ => ∃ (a b : Addr) (d e : Hs), vs = [.ref a, .ref b] ∧ HouseAt K C H a d ∧ HouseAt K C H b e ∧ Q (.bl (decide (d.hands = e.hands) && PyData.eqv (stD d) (stD e))) H
/-- what the class says of isinstance -/
structure HouseI (K : PySem.W.Frag) (C : Addr) : Prop where
  ha : PySem.W.findIn K (.ref C) "__class__" = some (some (.builtin "object.__class__"))
  hn : PySem.W.specialIn K (.builtin "object.__class__") "__get__" = some (some (.builtin "getset_descriptor.__get__"))
  htk : PySem.W.takesIn K (.builtin "object.__class__") = some true
  hm : PySem.W.mroIn K C (.type "object") = some true
  kit : PySem.W.kitOne K (.ref C) (.ref C) = some true
theorem scEqH : FnScope ["self", "other"] ["self", "other"] (defScope sEqH) := ⟨rfl, rfl, rfl, by decide +kernel, rfl, by decide +kernel, by decide +kernel⟩
theorem ok_eqh {f C : Addr} {fd : FuncData} (F : Fun K "__eq__" "House.__eq__" sEqH f fd) (B : Bt mg) (T : HouseC K C) (I : HouseI K C) (mC : mg "House" = some (.ref C)) : FnOk P w K mg base CX0 1 f fd ["self", "other"] (spEqH K C) := by
  refine F.ok scEqH (fun vs H Q E h => ?_) (fun cdv A outer s H vs Q E hr h => ?_)
  · obtain ⟨a, b, d, e, rfl, _⟩ := h
    rfl
  · obtain ⟨a, b, d, e, rfl, hd, he, k⟩ := h
    obtain ⟨dx, vb, vt, vs, vst, h0, h1, h2, h3, h4⟩ := hd.ex
    obtain ⟨dy, wb, wt, ws, wst, g0, g1, g2, g3, g4⟩ := he.ex
    have hu : (cxOf CX0 P w K mg base ["self", "other"] "House.__eq__" (defScope sEqH) f cdv A outer s H E).nox.A.units + 64 < cLine := hr.units
    refine ⟨_, pss_one (ps_ret (pe_and (pe_callB call_isi (by rfl) B.isi (by decide +kernel) (pa_cons (pv 1) (pa_cons (pe_glob (v := .ref C) rfl mC rfl) pa_nil)))
      (pe_and (pe_cmpR op_eq (pe_fld (pv 0) rfl) (pe_fld (pv 1) rfl) (nomark _)) (pe_one (pe_cmpR (op_eqD hu) (pe_fld (pv 0) rfl) (pe_fld (pv 1) rfl) (nomark _)))))), ?_⟩
    refine ⟨_, rfl, _, _, _, _, true, rfl, .own C, .base (.ins g0 T.cl I.ha I.hn I.htk I.hm), I.kit, _, rfl, iteT ?_⟩
    refine ⟨_, rfl, a, C, dx, _, _, rfl, h0, T.cl, T.nH, fs_hands _ _ _ _ _, _, rfl, b, C, dy, _, _, rfl, g0, T.cl, T.nH, fs_hands _ _ _ _ _, rfl, _, rfl, ?_⟩
    rw [decZ]
    cases c : decide (d.hands = e.hands) with
    | false =>
      rw [c] at k
      exact iteF k
    | true =>
      rw [c] at k
      refine iteT ?_
      exact ⟨_, rfl, a, C, dx, _, vst, rfl, h0, T.cl, T.nSt, fs_state _ _ _ _ _, _, rfl, b, C, dy, _, wst, rfl, g0, T.cl, T.nSt, fs_state _ _ _ _ _, stD d, stD e, h4, g4, shaped_st d, shaped_st e, k⟩
end
end Kw

set_option Elab.async false
set_option linter.all false
set_option maxRecDepth 100000
set_option maxHeartbeats 4000000
namespace Kw
open PySem PySem.Spec PyProof.Rows L2
abbrev sBegun : Stmt := top 30
abbrev sTake : Stmt := top 31
abbrev sAlike : Stmt := top 32
abbrev sPlaces : Stmt := top 33
abbrev sHouse : Stmt := top 34
abbrev sErr : Stmt := top 35
abbrev sLIsPl : Stmt := top 36
abbrev sDue : Stmt := top 37
abbrev sRows : Stmt := top 38
abbrev sLaw : Stmt := top 39
/-! ### the law's box of draws -/
def BoxAt (H : Hp) (b l : Addr) : Prop := ∃ (ns : List Int) (m : Int), H b = some (.lst [.ref l, .int m]) ∧ H l = some (.lst (ns.map V.int)) ∧ ns.length ≤ 63
def Tbs (H H' : Hp) : Prop := ∀ a ps, H a = some (.tbl ps) → H' a = some (.tbl ps)
/-- a draw: the box is changed, nothing else -/
structure Kb (b l : Addr) (H H' : Hp) : Prop where
  kp : Kp b l H H'
  tb : Tbs H H'
theorem Kb.refl (b l : Addr) (H : Hp) : Kb b l H H := ⟨Kp.refl b l H, fun _ _ h => h⟩
theorem Kb.trans {b l : Addr} {H H1 H2 : Hp} (x : Kb b l H H1) (y : Kb b l H1 H2) : Kb b l H H2 := ⟨x.kp.trans y.kp, fun a ps h => y.tb a ps (x.tb a ps h)⟩
theorem Kb.same {b l : Addr} {H H' : Hp} (e : Same H H') : Kb b l H H' := ⟨Kp.same e, fun a ps h => e a _ h⟩
theorem Kb.nl {b l : Addr} {H H' : Hp} (x : Kb b l H H') : Nl H H' := x.kp.nl
theorem BoxAt.same {H H' : Hp} {b l : Addr} (e : Same H H') (x : BoxAt H b l) : BoxAt H' b l := by
  obtain ⟨ns, m, h1, h2, h3⟩ := x
  exact ⟨ns, m, e _ _ h1, e _ _ h2, h3⟩
theorem BoxAt.ne {H : Hp} {b l : Addr} (x : BoxAt H b l) : b ≠ l := by
  obtain ⟨ns, m, h1, h2, _⟩ := x
  refine ne_of h1 h2 fun z => ?_
  have z' : [V.ref l, V.int m] = ns.map V.int := HO.lst.inj z
  cases ns with
  | nil => cases z'
  | cons n r => cases z'
section
variable {P : Program} {w : World} {K : PySem.W.Frag} {mg : Str → Option Value} {base : Heap}
/-! ### _law_begun -/
def spBegun (K : PySem.W.Frag) : Sp := fun vs H Q _ => ∃ (a : Addr) (ns : List Int), vs = [.ref a] ∧ SqL K H a (ns.map V.int) ∧ ns.length ≤ 63 ∧ ∀ b l H', Same H H' → BoxAt H' b l → Q (.ref b) H'
theorem scBegun : FnScope ["_law_script", "_law_stirred", "_law_cell"] ["_law_script"] (defScope sBegun) := ⟨rfl, rfl, rfl, by decide +kernel, rfl, by decide +kernel, by decide +kernel⟩
theorem ok_begun {f : Addr} {fd : FuncData} (F : Fun K "_law_begun" "_law_begun" sBegun f fd) (B : Bt mg) : FnOk P w K mg base CX0 1 f fd ["_law_script"] (spBegun K) := by
  refine F.ok scBegun (fun vs H Q E h => ?_) (fun cdv A outer s H vs Q E hr h => ?_)
  · obtain ⟨a, ns, rfl, _⟩ := h
    rfl
  · obtain ⟨a, ns, rfl, hs, hl, k⟩ := h
    refine ⟨_, pss_cons (ps_set (i := 1) scBegun.nd rfl (.inl rfl) pe_int)
      (pss_cons (ps_for PassesOwn.never rfl (pi_list (pv 0)) (pg_name (i := 2) scBegun.nd rfl (.inl rfl))
        (pss_one (ps_set (i := 1) scBegun.nd rfl (.inl rfl) (pe_op op_mod (pe_callTy call_int1 (by rfl) B.int (by decide +kernel) (pa_cons (pe_op op_add (pe_op op_add (pe_op op_mul (pv 1) pe_int) (pe_op op_mul (pv 2) pe_int)) pe_int) pa_nil)) pe_int))))
      (pss_one (ps_ret (pe_lst (pa_cons (pe_callTy call_list_of (by rfl) B.lst (by decide +kernel) (pa_cons (pv 0) pa_nil))
        (pa_cons (pe_op op_mul (pv 1) (pe_callTy call_int1 (by rfl) B.int (by decide +kernel) (pa_cons (pe_cmpR op_gt (pe_callB call_len_seq (by rfl) B.len PySem.boot_len (pa_cons (pv 0) pa_nil)) pe_int (nomark _)) pa_nil))) pa_nil)))))), ?_⟩
    refine ⟨_, rfl, a, rfl, ⟨_, hs⟩, for_list (K := K) (a := a) (xs := ns.map V.int) (fun i σ H2 => H2 = H ∧ ∃ (z : Int) (v : Option V), σ = [some (.ref a), some (.int z), v])
      ⟨rfl, 0, none, rfl⟩ (fun i σ H2 _ ⟨e, _⟩ => by rw [e]; exact hs) ?_ ?_⟩
    · rintro i y σ H2 hi ⟨rfl, z, v, rfl⟩
      obtain ⟨c, rfl⟩ : ∃ c, y = V.int c := by
        rw [List.getElem?_map] at hi
        cases e : ns[i]? with
        | none => rw [e] at hi; cases hi
        | some c => rw [e] at hi; exact ⟨c, (Option.some.inj hi).symm⟩
      refine ⟨_, rfl, _, _, rfl, rfl, .inr (by decide), _, rfl, _, _, rfl, rfl, .inr (by decide), _, _, rfl, rfl, _, _, rfl, rfl, .inl ⟨_, rfl, _, _, rfl, rfl, (show (0 : Int) < 2147483647 by decide), ?_⟩⟩
      exact ⟨rfl, _, _, rfl⟩
    · rintro σ H2 ⟨rfl, z, v, rfl⟩
      refine ⟨_, rfl, a, _, rfl, .inl hs, fun l hl' => ?_⟩
      refine ⟨_, rfl, _, rfl, a, _, rfl, .inl (Same.seq (same_upd hl') hs), _, _, rfl, rfl, .inr ⟨_, rfl, _, _, rfl, rfl, .inr ?_, ?_⟩⟩
      · split <;> decide
      refine ⟨(by show 2 ≤ sizeLine; decide), fun b hb => ?_⟩
      have e1 := same_upd (o := HO.lst (ns.map V.int)) hl'
      have e2 := Same.upd2 (o := HO.lst [V.ref l, .int (z * if decide ((2 : Int) < ((ns.map V.int).length : Nat)) = true then 1 else 0)]) e1 hb
      refine k b l _ e2 ⟨ns, _, upd_same, ?_, hl⟩
      rw [upd_ne (fun q => by rw [← q, upd_same] at hb; cases hb), upd_same]

/-! ### _law_take -/
theorem ints_all (K : PySem.W.Frag) (H : Hp) : ∀ ns : List Int, DpAll K H (ns.map V.int) (ns.map PyData.int)
  | [] => .nil
  | n :: ns => .cons (.int n) (ints_all K H ns)
theorem ints_lay : ∀ ns : List Int, PyData.canLayAll0 (ns.map PyData.int) = true
  | [] => rfl
  | n :: ns => by simp [PyData.canLayAll0, PyData.canLay0, ints_lay ns]
theorem ints_depth : ∀ ns : List Int, PyData.depthAll (ns.map PyData.int) = 0
  | [] => rfl
  | n :: ns => by simp [PyData.depthAll, PyData.depth, ints_depth ns]
theorem ints_shaped (ns : List Int) : SeqAt.shaped (.list (ns.map PyData.int)) = true := by
  simp [SeqAt.shaped, PyData.canLay0, PyData.depth, ints_lay, ints_depth]
theorem ints_empty (ns : List Int) : PyData.eqv (.list (ns.map PyData.int)) (.list []) = decide (ns = []) := by
  cases ns with
  | nil => simp [PyData.eqv, PyData.eqvAll]
  | cons n ns => simp [PyData.eqv, PyData.eqvAll]
def spTake : Sp := fun vs H Q _ => ∃ (b l : Addr) (m : Int), vs = [.ref b, .int m] ∧ 0 < m ∧ m ≤ 1000 ∧ BoxAt H b l ∧ ∀ r H', 0 ≤ r → r < m → BoxAt H' b l → Kb b l H H' → Q (.int r) H'
theorem scTake : FnScope ["_law_box", "_law_many", "_law_figure"] ["_law_box", "_law_many"] (defScope sTake) := ⟨rfl, rfl, rfl, by decide +kernel, rfl, by decide +kernel, by decide +kernel⟩
theorem ok_take {f : Addr} {fd : FuncData} (F : Fun K "_law_take" "_law_take" sTake f fd) (B : Bt mg) : FnOk P w K mg base CX0 1 f fd ["_law_box", "_law_many"] spTake := by
  refine F.ok scTake (fun vs H Q E h => ?_) (fun cdv A outer s H vs Q E hr h => ?_)
  · obtain ⟨b, l, m, rfl, _⟩ := h
    rfl
  · obtain ⟨b, l, m, rfl, m0, m1, hB, k⟩ := h
    have hu : (cxOf CX0 P w K mg base ["_law_box", "_law_many", "_law_figure"] "_law_take" (defScope sTake) f cdv A outer s H E).nox.A.units + 64 < cLine := hr.units
    have nbl := hB.ne
    obtain ⟨ns, z, hb, hl, hn⟩ := hB
    refine ⟨_, pss_cons (ps_if (pt_cmpR (op_eqD hu) (pe_ix ix_list (pv 0) pe_int (fun _ _ => rfl)) (pe_lst pa_nil) (nomark _))
        (pss_cons (ps_asg (pe_op op_mod (pe_callTy call_int1 (by rfl) B.int (by decide +kernel) (pa_cons (pe_op op_mul (pe_ix ix_list (pv 0) pe_int (fun _ _ => rfl)) pe_int) pa_nil)) pe_int) (pg_sub (pv 0) pe_int set_list))
          (pss_one (ps_ret (pe_op op_mod (pe_callTy call_int1 (by rfl) B.int (by decide +kernel) (pa_cons (pe_op op_fdiv (pe_ix ix_list (pv 0) pe_int (fun _ _ => rfl)) pe_int) pa_nil)) (pv 1))))) pss_nil)
      (pss_cons (ps_set (i := 2) scTake.nd rfl (.inl rfl) (pe_ix ix_list (pe_ix ix_list (pv 0) pe_int (fun _ _ => rfl)) pe_int (fun _ _ => rfl)))
      (pss_cons (ps_asg (pe_op op_fdiv (pv 2) (pv 1)) (pg_sub (pe_ix ix_list (pv 0) pe_int (fun _ _ => rfl)) pe_int set_list))
      (pss_cons (ps_if (PW.pt (pw_or (pt_cmpR op_eq (pe_ix ix_list (pe_ix ix_list (pv 0) pe_int (fun _ _ => rfl)) pe_int (fun _ _ => rfl)) pe_int (nomark _))
            (pw_or1 (pt_cmpR op_eq (pe_ix ix_list (pe_ix ix_list (pv 0) pe_int (fun _ _ => rfl)) pe_int (fun _ _ => rfl)) (pe_un un_neg pe_int) (nomark _)))))
          (pss_one (ps_expr (pe_bm PySem.F.plainAttrs_list PySem.F.slot_list_pop PySem.F.type_list_pop mt_popAt (pe_ix ix_list (pv 0) pe_int (fun _ _ => rfl)) (pa_cons pe_int pa_nil)))) pss_nil)
      (pss_one (ps_ret (pe_op op_mod (pv 2) (pv 1))))))), ?_⟩
    refine ⟨_, rfl, b, _, 0, _, rfl, rfl, SqL.of hb, rfl, (by show 0 ≤ sizeLine; decide), fun p hp => ?_⟩
    have e0 : Same H (upd H p (.lst [])) := same_upd hp
    have hb0 := e0 _ _ hb
    have hl0 := e0 _ _ hl
    refine ⟨.list (ns.map PyData.int), .list [], .lst (SqL.of hl0) (ints_all K _ ns), .lst (SqL.of upd_same) .nil, ints_shaped ns, by decide, _, rfl, ?_⟩
    rw [ints_empty]
    refine ite2 (fun c => ?_) (fun c => ?_)
    · have c' : ns = [] := of_decide_eq_true c
      subst c'
      refine ⟨_, rfl, b, _, 1, _, rfl, rfl, SqL.of hb0, rfl, _, _, rfl, rfl, .inr (by decide), .inl ⟨_, rfl, _, _, rfl, rfl, (show (0 : Int) < 2147483647 by decide), ?_⟩⟩
      refine ⟨_, rfl, b, _, 1, 1, rfl, rfl, hb0, rfl, ?_⟩
      refine ⟨_, rfl, b, _, 1, _, rfl, rfl, SqL.of upd_same, rfl, _, _, rfl, rfl, ⟨by decide, by decide⟩, .inl ⟨_, rfl, _, rfl, _, _, rfl, rfl, m0, ?_⟩⟩
      refine k _ _ (Int.emod_nonneg _ (by omega)) (Int.emod_lt_of_pos _ m0) ⟨[], _, upd_same, by rw [upd_ne nbl.symm]; exact hl0, Nat.zero_le _⟩ ?_
      refine (Kb.same e0).trans ⟨⟨fun a o h n1 n2 => ?_, fun a xs h n1 n2 => ?_⟩, fun a ps h => ?_⟩
      · rw [upd_ne (ne_of h hb0 (n1 _))]; exact h
      · rw [upd_ne n1]; exact h
      · rw [upd_ne (ne_of h hb0 (by intro q; cases q))]; exact h
    · have c' : ¬ ns = [] := fun q => c (decide_eq_true q)
      obtain ⟨n0, r, rfl⟩ : ∃ n0 r, ns = n0 :: r := by
        cases ns with
        | nil => exact absurd rfl c'
        | cons n0 r => exact ⟨n0, r, rfl⟩
      rw [List.map_cons] at hl0 hl
      have len0 : (V.int n0 :: r.map V.int).length = r.length + 1 := by simp
      have hr1 : r.length ≤ 62 := by simp at hn; omega
      refine ⟨_, rfl, b, _, 0, _, rfl, rfl, SqL.of hb0, rfl, l, _, 0, _, rfl, rfl, SqL.of hl0, atI_nat (j := 0) rfl, ?_⟩
      refine ⟨_, rfl, _, rfl, n0, m, rfl, rfl, ⟨m0, by omega⟩, _, rfl, b, _, 0, _, rfl, rfl, SqL.of hb0, rfl, l, _, 0, 0, rfl, rfl, hl0, ?_, ?_⟩
      · rw [len0]
        simp [ixN]
      rw [List.set_cons_zero]
      have hb1 : (upd (upd H p (.lst [])) l (.lst (V.int (n0 / m) :: r.map V.int))) b = some (.lst [.ref l, .int z]) := by rw [upd_ne nbl]; exact hb0
      have fin : ∀ (ns' : List Int), ns'.length ≤ 63 → ∀ H', H' b = some (.lst [.ref l, .int z]) → H' l = some (.lst (ns'.map V.int)) → (∀ a o, (upd H p (.lst [])) a = some o → a ≠ l → H' a = some o) →
          Q (.int (n0 % m)) H' := fun ns' hn' H' g1 g2 g3 => by
        refine k _ _ (Int.emod_nonneg _ (by omega)) (Int.emod_lt_of_pos _ m0) ⟨ns', z, g1, g2, hn'⟩ ((Kb.same e0).trans ⟨⟨fun a o h n1 n2 => ?_, fun a xs h n1 n2 => ?_⟩, fun a ps h => ?_⟩)
        · exact g3 a o h (ne_of h hl0 (n1 _))
        · exact g3 a _ h n2
        · exact g3 a _ h (ne_of h hl0 (by intro q; cases q))
      have popped : tDrop (tBM K "list" rPopAt (tOp (rIxL K) (tVar 0) (tC (.int 0))) (tCons (tC (.int 0)) tNil)) { nx := tRet (tOp (rI (fun _ j => 0 < j) fun i j => .int (i % j)) (tVar 2) (tVar 1)) { nx := fun _ H' => Q .non H', rt := Q }, rt := Q }
          [some (.ref b), some (.int m), some (.int n0)] (upd (upd H p (.lst [])) l (.lst (V.int (n0 / m) :: r.map V.int))) := by
        refine ⟨_, rfl, b, _, 0, _, rfl, rfl, SqL.of hb1, rfl, .inl ⟨rfl, _, SqL.of upd_same⟩, l, _, 0, 0, _, rfl, rfl, upd_same, by decide, by decide, ?_, rfl, ?_⟩
        · simp [seqIndex?]
        · rw [upd_upd]
          refine ⟨_, rfl, _, rfl, n0, m, rfl, rfl, m0, ?_⟩
          exact fin r (by omega) _ (by rw [upd_ne nbl]; exact hb0) upd_same fun a o h ne => by rw [upd_ne ne]; exact h
      have kept : tRet (tOp (rI (fun _ j => 0 < j) fun i j => .int (i % j)) (tVar 2) (tVar 1)) { nx := fun _ H' => Q .non H', rt := Q }
          [some (.ref b), some (.int m), some (.int n0)] (upd (upd H p (.lst [])) l (.lst (V.int (n0 / m) :: r.map V.int))) := by
        refine ⟨_, rfl, _, rfl, n0, m, rfl, rfl, m0, ?_⟩
        exact fin ((n0 / m) :: r) (by simp; omega) _ hb1 (by rw [upd_same]; rfl) fun a o h ne => by rw [upd_ne ne]; exact h
      refine ⟨_, rfl, b, _, 0, _, rfl, rfl, SqL.of hb1, rfl, l, _, 0, _, rfl, rfl, SqL.of upd_same, atI_nat (j := 0) rfl, rfl, _, rfl, ?_⟩
      refine ite2 (fun _ => iteT popped) (fun _ => ?_)
      refine ⟨_, rfl, b, _, 0, _, rfl, rfl, SqL.of hb1, rfl, l, _, 0, _, rfl, rfl, SqL.of upd_same, atI_nat (j := 0) rfl, _, rfl, rfl, _, rfl, ?_⟩
      exact ite2 (fun _ => popped) (fun _ => kept)

/-! ### _law_alike, asked of equal data -/
mutual
def okA : PyData → Bool
  | .int _ => true
  | .str _ => true
  | .tuple ds => okAs ds && decide (ds.length ≤ 1000)
  | .list ds => okAs ds && decide (ds.length ≤ 1000)
  | _ => false
def okAs : List PyData → Bool
  | [] => true
  | d :: ds => okA d && okAs ds
end
theorem okAs_get : ∀ {ds : List PyData} {i : Nat} {d : PyData}, okAs ds = true → ds[i]? = some d → okA d = true
  | [], _, _, _, e => by simp at e
  | d :: ds, 0, _, h, e => by
    simp at e
    subst e
    simp [okAs] at h
    exact h.1
  | d :: ds, i + 1, _, h, e => by
    simp [okAs] at h
    exact okAs_get h.2 (by simpa using e)
theorem depth_get : ∀ {ds : List PyData} {i : Nat} {d : PyData}, ds[i]? = some d → d.depth ≤ PyData.depthAll ds
  | [], _, _, e => by simp at e
  | d :: ds, 0, _, e => by
    simp at e
    subst e
    simp [PyData.depthAll]
    omega
  | d :: ds, i + 1, _, e => by
    have := depth_get (ds := ds) (i := i) (by simpa using e)
    simp [PyData.depthAll]
    omega
theorem DpAll.at2 {K : PySem.W.Frag} {H : Hp} : ∀ {vs : List V} {ds : List PyData} {i : Nat} {d : PyData}, DpAll K H vs ds → ds[i]? = some d → ∃ x, vs[i]? = some x ∧ Dp K H x d
  | _, _, _, _, .nil, e => by simp at e
  | _, _, 0, _, .cons h _, e => by
    simp at e
    subst e
    exact ⟨_, rfl, h⟩
  | _, _, i + 1, d, .cons _ t, e => by
    obtain ⟨x, h1, h2⟩ := DpAll.at2 (i := i) (d := d) t (by simpa using e)
    exact ⟨x, by simpa using h1, h2⟩
theorem ty_tup {K : PySem.W.Frag} {H : Hp} {a : Addr} {xs : List V} (h : SqT K H a xs) : TyX K H (.ref a) (.type "tuple") := by
  rcases h with (h | ⟨o, h⟩) | ⟨o, _, _, h, hc, _⟩
  · exact .base (.tup h)
  · exact .fTuple h
  · exact .kTuple h hc
theorem ty_lst {K : PySem.W.Frag} {H : Hp} {a : Addr} {xs : List V} (h : SqL K H a xs) : TyX K H (.ref a) (.type "list") := by
  rcases h with (h | ⟨o, h⟩) | ⟨o, _, _, h, hc, _⟩
  · exact .base (.lst h)
  · exact .base (.frz h)
  · exact .kList h hc
def spAlike (K : PySem.W.Frag) (n : Nat) : Sp := fun vs H Q _ => ∃ (x y : V) (d : PyData), vs = [x, y] ∧ Dp K H x d ∧ Dp K H y d ∧ okA d = true ∧ d.depth < n ∧ Q (.bl true) H
theorem scAlike : FnScope ["_law_found", "_law_due_here", "_law_k"] ["_law_found", "_law_due_here"] (defScope sAlike) := ⟨rfl, rfl, rfl, by decide +kernel, rfl, by decide +kernel, by decide +kernel⟩
theorem ok_alike {f : Addr} {fd : FuncData} (F : Fun K "_law_alike" "_law_alike" sAlike f fd) (B : Bt mg) (mF : mg "_law_alike" = some (.ref f)) (bF : Binds K fd ["_law_found", "_law_due_here"] []) : ∀ n : Nat, FnOk P w K mg base CX0 n f fd ["_law_found", "_law_due_here"] (spAlike K n) := by
  intro n
  induction n with
  | zero => exact ⟨fun vs H Q E h => by obtain ⟨_, _, _, _, _, _, _, h, _⟩ := h; omega, fun A outer s H args us vs Q E _ _ _ _ h => by obtain ⟨_, _, _, _, _, _, _, h, _⟩ := h; omega⟩
  | succ n G =>
  refine F.ok scAlike (fun vs H Q E h => ?_) (fun cdv A outer s H vs Q E hr h => ?_)
  · obtain ⟨x, y, d, rfl, _⟩ := h
    rfl
  · obtain ⟨x, y, d, rfl, hx, hy, ok, hd, k⟩ := h
    refine ⟨_, pss_cons (ps_if (pt_cmp (pc_isN (pv 1))) (pss_one (ps_ret (pe_cmp (pc_isN (pv 0))))) pss_nil)
      (pss_cons (ps_if (pt_val (pe_callB call_isi (by rfl) B.isi (by decide +kernel) (pa_cons (pv 1) (pa_cons (pe_bltn (v := .ty "bool") (by rfl) B.bool (by decide +kernel) rfl) pa_nil)))) (pss_one (ps_ret (pe_and (pe_callB call_isi (by rfl) B.isi (by decide +kernel) (pa_cons (pv 0) (pa_cons (pe_bltn (v := .ty "bool") (by rfl) B.bool (by decide +kernel) rfl) pa_nil))) (pe_one (pe_cmpR op_eq (pv 0) (pv 1) (nomark _)))))) pss_nil)
      (pss_cons (ps_if (pt_val (pe_callB call_isi (by rfl) B.isi (by decide +kernel) (pa_cons (pv 1) (pa_cons (pe_bltn (v := .ty "int") (by rfl) B.int (by decide +kernel) rfl) pa_nil)))) (pss_one (ps_ret (pe_and (pe_callB call_isi (by rfl) B.isi (by decide +kernel) (pa_cons (pv 0) (pa_cons (pe_bltn (v := .ty "int") (by rfl) B.int (by decide +kernel) rfl) pa_nil))) (pe_and (pe_not (pe_callB call_isi (by rfl) B.isi (by decide +kernel) (pa_cons (pv 0) (pa_cons (pe_bltn (v := .ty "bool") (by rfl) B.bool (by decide +kernel) rfl) pa_nil)))) (pe_one (pe_cmpR op_eq (pv 0) (pv 1) (nomark _))))))) pss_nil)
      (pss_cons (ps_if (pt_val (pe_callB call_isi (by rfl) B.isi (by decide +kernel) (pa_cons (pv 1) (pa_cons (pe_bltn (v := .ty "str") (by rfl) B.str (by decide +kernel) rfl) pa_nil)))) (pss_one (ps_ret (pe_and (pe_callB call_isi (by rfl) B.isi (by decide +kernel) (pa_cons (pv 0) (pa_cons (pe_bltn (v := .ty "str") (by rfl) B.str (by decide +kernel) rfl) pa_nil))) (pe_one (pe_cmpR op_eq (pv 0) (pv 1) (nomark _)))))) pss_nil)
      (pss_cons (ps_if (PW.pt (pw_or (pt_cmpR op_ne (pe_callB call_isi (by rfl) B.isi (by decide +kernel) (pa_cons (pv 1) (pa_cons (pe_bltn (v := .ty "tuple") (by rfl) B.tup (by decide +kernel) rfl) pa_nil))) (pe_callB call_isi (by rfl) B.isi (by decide +kernel) (pa_cons (pv 0) (pa_cons (pe_bltn (v := .ty "tuple") (by rfl) B.tup (by decide +kernel) rfl) pa_nil))) (nomark _)) (pw_or1 (pt_cmpR op_ne (pe_callB call_isi (by rfl) B.isi (by decide +kernel) (pa_cons (pv 1) (pa_cons (pe_bltn (v := .ty "list") (by rfl) B.lst (by decide +kernel) rfl) pa_nil))) (pe_callB call_isi (by rfl) B.isi (by decide +kernel) (pa_cons (pv 0) (pa_cons (pe_bltn (v := .ty "list") (by rfl) B.lst (by decide +kernel) rfl) pa_nil))) (nomark _))))) (pss_one (ps_ret pe_bl)) pss_nil)
      (pss_cons (ps_if (pt_cmpR op_ne (pe_callB call_len_seq (by rfl) B.len PySem.boot_len (pa_cons (pv 0) pa_nil)) (pe_callB call_len_seq (by rfl) B.len PySem.boot_len (pa_cons (pv 1) pa_nil)) (nomark _)) (pss_one (ps_ret pe_bl)) pss_nil)
      (pss_cons (ps_for PassesOwn.never rfl (pi_range1 rfl B.rng (pa_cons (pe_callB call_len_seq (by rfl) B.len PySem.boot_len (pa_cons (pv 1) pa_nil)) pa_nil)) (pg_name (i := 2) scAlike.nd rfl (.inl rfl))
        (pss_one (ps_if (pt_not (pt_val (pe_call G hr rfl mF F.kp bF .nil pass0 (pa_cons (pe_ix ix_seq (pv 0) (pv 2) (fun _ _ => rfl)) (pa_cons (pe_ix ix_seq (pv 1) (pv 2) (fun _ _ => rfl)) pa_nil))))) (pss_one (ps_ret pe_bl)) pss_nil)))
      (pss_one (ps_ret pe_bl)))))))), ?_⟩
    cases hx with
    | non => simp [okA] at ok
    | bl c => simp [okA] at ok
    | int i =>
      cases hy
      refine ⟨_, rfl, _, rfl, iteF ?_⟩
      refine ⟨_, rfl, _, _, _, _, false, rfl, .ty "bool", .base (.int i), kit_ty (by decide +kernel), _, rfl, iteF ?_⟩
      refine ⟨_, rfl, _, _, _, _, true, rfl, .ty "int", .base (.int i), kit_ty (by decide +kernel), _, rfl, iteT ?_⟩
      refine ⟨_, rfl, _, _, _, _, true, rfl, .ty "int", .base (.int i), kit_ty (by decide +kernel), _, rfl, iteT ?_⟩
      refine ⟨_, rfl, _, _, _, _, false, rfl, .ty "bool", .base (.int i), kit_ty (by decide +kernel), _, rfl, _, rfl, iteT ?_⟩
      refine ⟨_, rfl, _, rfl, rfl, ?_⟩
      rw [decide_eq_true rfl]
      exact k
    | str z =>
      cases hy
      refine ⟨_, rfl, _, rfl, iteF ?_⟩
      refine ⟨_, rfl, _, _, _, _, false, rfl, .ty "bool", .base (.str z), kit_ty (by decide +kernel), _, rfl, iteF ?_⟩
      refine ⟨_, rfl, _, _, _, _, false, rfl, .ty "int", .base (.str z), kit_ty (by decide +kernel), _, rfl, iteF ?_⟩
      refine ⟨_, rfl, _, _, _, _, true, rfl, .ty "str", .base (.str z), kit_ty (by decide +kernel), _, rfl, iteT ?_⟩
      refine ⟨_, rfl, _, _, _, _, true, rfl, .ty "str", .base (.str z), kit_ty (by decide +kernel), _, rfl, iteT ?_⟩
      refine ⟨_, rfl, _, rfl, rfl, ?_⟩
      rw [decide_eq_true rfl]
      exact k
    | @lst a xs ds hs ha =>
      cases hy with
      | @lst b ys _ hs2 ha2 =>
      have ok' : okAs ds = true ∧ ds.length ≤ 1000 := by simpa [okA] using ok
      have hdd : PyData.depthAll ds < n := by
        simp [PyData.depth] at hd
        omega
      have l1 := DpAll.len ha
      have l2 := DpAll.len ha2
      have t1 := ty_lst hs
      have t2 := ty_lst hs2
      refine ⟨_, rfl, _, rfl, iteF ?_⟩
      refine ⟨_, rfl, _, _, _, _, false, rfl, .ty "bool", t2, kit_ty (by decide +kernel), _, rfl, iteF ?_⟩
      refine ⟨_, rfl, _, _, _, _, false, rfl, .ty "int", t2, kit_ty (by decide +kernel), _, rfl, iteF ?_⟩
      refine ⟨_, rfl, _, _, _, _, false, rfl, .ty "str", t2, kit_ty (by decide +kernel), _, rfl, iteF ?_⟩
      refine ⟨_, rfl, _, _, _, _, false, rfl, .ty "tuple", t2, kit_ty (by decide +kernel), _, rfl, _, _, _, _, false, rfl, .ty "tuple", t1, kit_ty (by decide +kernel), rfl, _, rfl, iteF ?_⟩
      refine ⟨_, rfl, _, _, _, _, true, rfl, .ty "list", t2, kit_ty (by decide +kernel), _, rfl, _, _, _, _, true, rfl, .ty "list", t1, kit_ty (by decide +kernel), rfl, _, rfl, iteF ?_⟩
      refine ⟨_, rfl, a, xs, rfl, .inl hs, _, rfl, b, ys, rfl, .inl hs2, rfl, _, rfl, ?_⟩
      rw [decI, l1, l2, decide_eq_true rfl]
      refine iteF ?_
      refine ⟨_, rfl, b, ys, rfl, .inl hs2, _, rfl, by omega, by omega, ?_⟩
      rw [show ((ys.length : Nat) : Int).toNat = ys.length by omega]
      refine for_range (lo := 0) (n := ys.length) (fun i σ H2 => H2 = H ∧ ∃ v : Option V, σ = [some (.ref a), some (.ref b), v]) ⟨rfl, none, rfl⟩ ?_ ?_
      · rintro i σ H2 hi ⟨rfl, v, rfl⟩
        obtain ⟨d', hd'⟩ : ∃ d', ds[i]? = some d' := ⟨ds[i]'(by omega), List.getElem?_eq_getElem (by omega)⟩
        obtain ⟨xv, hxv, dxv⟩ := DpAll.at2 ha hd'
        obtain ⟨yv, hyv, dyv⟩ := DpAll.at2 ha2 hd'
        have ax : atI xs (0 + (i : Int)) = some xv := by rw [Int.zero_add]; exact atI_nat hxv
        have ay : atI ys (0 + (i : Int)) = some yv := by rw [Int.zero_add]; exact atI_nat hyv
        have dep := depth_get hd'
        refine ⟨_, rfl, _, rfl, .inl ⟨a, xs, _, xv, rfl, rfl, hs, ax, _, rfl, _, rfl, .inl ⟨b, ys, _, yv, rfl, rfl, hs2, ay, xv, yv, d', rfl, dxv, dyv, okAs_get ok'.1 hd', by omega, true, rfl, iteF ?_⟩⟩⟩
        exact ⟨rfl, _, rfl⟩
      · rintro σ H2 ⟨rfl, v, rfl⟩
        exact k
    | @tup a xs ds hs ha =>
      cases hy with
      | @tup b ys _ hs2 ha2 =>
      have ok' : okAs ds = true ∧ ds.length ≤ 1000 := by simpa [okA] using ok
      have hdd : PyData.depthAll ds < n := by
        simp [PyData.depth] at hd
        omega
      have l1 := DpAll.len ha
      have l2 := DpAll.len ha2
      have t1 := ty_tup hs
      have t2 := ty_tup hs2
      refine ⟨_, rfl, _, rfl, iteF ?_⟩
      refine ⟨_, rfl, _, _, _, _, false, rfl, .ty "bool", t2, kit_ty (by decide +kernel), _, rfl, iteF ?_⟩
      refine ⟨_, rfl, _, _, _, _, false, rfl, .ty "int", t2, kit_ty (by decide +kernel), _, rfl, iteF ?_⟩
      refine ⟨_, rfl, _, _, _, _, false, rfl, .ty "str", t2, kit_ty (by decide +kernel), _, rfl, iteF ?_⟩
      refine ⟨_, rfl, _, _, _, _, true, rfl, .ty "tuple", t2, kit_ty (by decide +kernel), _, rfl, _, _, _, _, true, rfl, .ty "tuple", t1, kit_ty (by decide +kernel), rfl, _, rfl, iteF ?_⟩
      refine ⟨_, rfl, _, _, _, _, false, rfl, .ty "list", t2, kit_ty (by decide +kernel), _, rfl, _, _, _, _, false, rfl, .ty "list", t1, kit_ty (by decide +kernel), rfl, _, rfl, iteF ?_⟩
      refine ⟨_, rfl, a, xs, rfl, .inr hs, _, rfl, b, ys, rfl, .inr hs2, rfl, _, rfl, ?_⟩
      rw [decI, l1, l2, decide_eq_true rfl]
      refine iteF ?_
      refine ⟨_, rfl, b, ys, rfl, .inr hs2, _, rfl, by omega, by omega, ?_⟩
      rw [show ((ys.length : Nat) : Int).toNat = ys.length by omega]
      refine for_range (lo := 0) (n := ys.length) (fun i σ H2 => H2 = H ∧ ∃ v : Option V, σ = [some (.ref a), some (.ref b), v]) ⟨rfl, none, rfl⟩ ?_ ?_
      · rintro i σ H2 hi ⟨rfl, v, rfl⟩
        obtain ⟨d', hd'⟩ : ∃ d', ds[i]? = some d' := ⟨ds[i]'(by omega), List.getElem?_eq_getElem (by omega)⟩
        obtain ⟨xv, hxv, dxv⟩ := DpAll.at2 ha hd'
        obtain ⟨yv, hyv, dyv⟩ := DpAll.at2 ha2 hd'
        have ax : atI xs (0 + (i : Int)) = some xv := by rw [Int.zero_add]; exact atI_nat hxv
        have ay : atI ys (0 + (i : Int)) = some yv := by rw [Int.zero_add]; exact atI_nat hyv
        have dep := depth_get hd'
        refine ⟨_, rfl, _, rfl, .inr (.inl ⟨a, xs, _, xv, rfl, rfl, hs, ax, _, rfl, _, rfl, .inr (.inl ⟨b, ys, _, yv, rfl, rfl, hs2, ay, xv, yv, d', rfl, dxv, dyv, okAs_get ok'.1 hd', by omega, true, rfl, iteF ?_⟩)⟩)⟩
        exact ⟨rfl, _, rfl⟩
      · rintro σ H2 ⟨rfl, v, rfl⟩
        exact k
end
end Kw

set_option Elab.async false
set_option linter.all false
set_option maxRecDepth 100000
set_option maxHeartbeats 4000000
namespace Kw
open PySem PySem.Spec PyProof.Rows L2
section
variable {P : Program} {w : World} {K : PySem.W.Frag} {mg : Str → Option Value} {base : Heap}
theorem BoxAt.upd {H : Hp} {b l p : Addr} {o : HO} (hp : H p = none) (x : BoxAt H b l) : BoxAt (L2.upd H p o) b l := BoxAt.same (same_upd hp) x
theorem numOk_of {r m : Int} (h0 : 0 ≤ r) (h1 : r < m) : numOk r m = true := by
  unfold numOk
  rw [decide_eq_true h0, decide_eq_true h1]
  rfl
theorem numOk_is {r m : Int} (h : numOk r m = true) : 0 ≤ r ∧ r < m := by
  unfold numOk at h
  have h' := Bool.and_eq_true_iff.mp h
  exact ⟨of_decide_eq_true h'.1, of_decide_eq_true h'.2⟩
/-! ### _law_places -/
def spPlaces (K : PySem.W.Frag) : Sp := fun vs H Q _ => ∃ (b l : Addr) (h m : Int), vs = [.ref b, .int h, .int m] ∧ 0 < h ∧ h ≤ 1000 ∧ 0 ≤ m ∧ m ≤ 1000 ∧ BoxAt H b l ∧ ∀ v q H', Dp K H' v (plD q) → plOk q h m = true → BoxAt H' b l → Kb b l H H' → Q v H'
theorem scPlaces : FnScope ["_law_box", "_law_hands", "_law_many"] ["_law_box", "_law_hands", "_law_many"] (defScope sPlaces) := ⟨rfl, rfl, rfl, by decide +kernel, rfl, by decide +kernel, by decide +kernel⟩
theorem ok_places {f g : Addr} {fd fdg : FuncData} (F : Fun K "_law_places" "_law_places" sPlaces f fd) (G : FnOk P w K mg base CX0 1 g fdg ["_law_box", "_law_many"] spTake) (mG : mg "_law_take" = some (.ref g)) (kG : PySem.W.keepIn K (.ref g) = true) (bG : Binds K fdg ["_law_box", "_law_many"] []) :
    FnOk P w K mg base CX0 2 f fd ["_law_box", "_law_hands", "_law_many"] (spPlaces K) := by
  refine F.ok scPlaces (fun vs H Q E h => ?_) (fun cdv A outer s H vs Q E hr h => ?_)
  · obtain ⟨b, l, h, m, rfl, _⟩ := h
    rfl
  · obtain ⟨b, l, h, m, rfl, h0, h1, m0, m1, hB, k⟩ := h
    refine ⟨_, pss_cons (ps_if (PW.pt (pw_and (pt_cmpR op_gt (pv 2) pe_int (nomark _)) (pw_and1 (pt_cmpR op_eq (pe_call G hr rfl mG kG bG .nil pass0 (pa_cons (pv 0) (pa_cons pe_int pa_nil))) pe_int (nomark _)))))
        (pss_one (ps_ret (pe_tup (pa_cons pe_str (pa_cons (pe_call G hr rfl mG kG bG .nil pass0 (pa_cons (pv 0) (pa_cons (pv 2) pa_nil))) pa_nil))))) pss_nil)
      (pss_one (ps_ret (pe_tup (pa_cons pe_str (pa_cons (pe_call G hr rfl mG kG bG .nil pass0 (pa_cons (pv 0) (pa_cons (pv 1) pa_nil))) pa_nil))))), ?_⟩
    have fin : ∀ (H1 : Hp) (wd : Wd) (r : Int), BoxAt H1 b l → Kb b l H H1 → plOk (wd, r) h m = true → ∀ p, H1 p = none → Q (.ref p) (L2.upd H1 p (.tup [.str wd.str, .int r])) := fun H1 wd r hB1 hk ok p hp =>
      k _ (wd, r) _ (.tup (SqT.of upd_same) (.cons (.str _) (.cons (.int _) .nil))) ok (hB1.upd hp) (hk.trans (Kb.same (same_upd hp)))
    have hand : ∀ H1, BoxAt H1 b l → Kb b l H H1 → tRet (tTup (tCons (tC (.str "hand")) (tCons (tCall spTake [] E0 (tCons (tVar 0) (tCons (tVar 1) tNil))) tNil))) { nx := fun _ H' => Q .non H', rt := Q } (L2.start ["_law_box", "_law_hands", "_law_many"] [.ref b, .int h, .int m]) H1 := fun H1 hB1 hk => by
      refine ⟨_, rfl, _, rfl, b, l, h, rfl, h0, h1, hB1, fun r H2 r0 r1 hB2 hk2 => ⟨(by show 2 ≤ sizeLine; decide), fin H2 .hand r hB2 (hk.trans hk2) ?_⟩⟩
      exact numOk_of r0 r1
    refine ⟨_, rfl, _, _, rfl, rfl, _, rfl, ?_⟩
    refine ite2 (fun c => ?_) (fun c => iteF (hand H hB (Kb.refl b l H)))
    have c' : 0 < m := of_decide_eq_true c
    refine ⟨_, rfl, b, l, 2, rfl, by decide, by decide, hB, fun r H2 r0 r1 hB2 hk2 => ⟨rfl, _, rfl, ?_⟩⟩
    refine ite2 (fun _ => ?_) (fun _ => hand H2 hB2 hk2)
    refine ⟨_, rfl, _, rfl, b, l, m, rfl, c', m1, hB2, fun r2 H3 r20 r21 hB3 hk3 => ⟨(by show 2 ≤ sizeLine; decide), fin H3 .box r2 hB3 (hk2.trans hk3) ?_⟩⟩
    exact numOk_of r20 r21
/-! ### _law_house -/
theorem bad_none {f : Nat → Pl → Bool} : ∀ (l : List Pl) (k : Nat), (∀ i p, l[i]? = some p → f (k + i) p = false) → firstBad f k l = none
  | [], _, _ => rfl
  | p :: r, k, h => by
    have h0 := h 0 p rfl
    rw [Nat.add_zero] at h0
    show (if f k p = true then some k else firstBad f (k + 1) r) = none
    rw [h0, if_neg (by decide)]
    exact bad_none r (k + 1) fun i q e => by
      have := h (i + 1) q (by simpa using e)
      rw [show k + 1 + i = k + (i + 1) by omega]
      exact this
/-- what a drawn house is -/
structure HsOk (d : Hs) : Prop where
  h0 : 1 ≤ d.hands
  h1 : d.hands ≤ 4
  b0 : 1 ≤ d.bs.length
  b1 : d.bs.length ≤ 3
  t1 : d.ts.length ≤ 4
  s1 : d.ss.length ≤ 3
  okE : errOf d.hands d.bs d.ts d.ss = none
  nb : ∀ p ∈ d.bs, p.1 ≠ .gone
  nt : ∀ p ∈ d.ts, p.1 ≠ .gone
  ns : ∀ p ∈ d.ss, p.1 ≠ .gone
theorem Kb.updD {b l D : Addr} {H H' : Hp} {o : HO} (k : Kb b l H H') (hD : H D = .none) : Kb b l H (L2.upd H' D o) :=
  ⟨⟨fun a u h n1 n2 => by rw [upd_ne (ne_of_none h hD)]; exact k.kp.nl a u h n1 n2, fun a xs h n1 n2 => by rw [upd_ne (ne_of_none h hD)]; exact k.kp.ls a xs h n1 n2⟩, fun a ps h => by rw [upd_ne (ne_of_none h hD)]; exact k.tb a ps h⟩
theorem BoxAt.neL {H : Hp} {b l D : Addr} (x : BoxAt H b l) (hD : H D = .none) : D ≠ b ∧ D ≠ l := by
  obtain ⟨ns, m, h1, h2, _⟩ := x
  exact ⟨(ne_of_none h1 hD).symm, (ne_of_none h2 hD).symm⟩
theorem BoxAt.updD {H : Hp} {b l D : Addr} {o : HO} (x : BoxAt H b l) (n1 : D ≠ b) (n2 : D ≠ l) : BoxAt (L2.upd H D o) b l := by
  obtain ⟨ns, m, h1, h2, h3⟩ := x
  exact ⟨ns, m, by rw [upd_ne n1.symm]; exact h1, by rw [upd_ne n2.symm]; exact h2, h3⟩
theorem tp_lst {H : Hp} {D : Addr} {xs : List V} {o : HO} (h : H D = some (.lst xs)) : Tp H (L2.upd H D o) := fun a us r => by
  rcases r with r | ⟨u, r⟩
  · exact .inl (by rw [upd_ne (ne_of r h (by intro z; cases z))]; exact r)
  · exact .inr ⟨u, by rw [upd_ne (ne_of r h (by intro z; cases z))]; exact r⟩
theorem tp_nl {H H' : Hp} (k : Nl H H') : Tp H H' := fun a us r => by
  rcases r with r | ⟨u, r⟩
  · exact .inl (k _ _ r (fun _ z => nomatch z) fun _ z => nomatch z)
  · exact .inr ⟨u, k _ _ r (fun _ z => nomatch z) fun _ z => nomatch z⟩
/-- [_law_places(box, hands, x) for index in range(n)] -/
theorem lc_pl {σ : L2.St} {H2 : Hp} {D b l : Addr} {Qd : Hp → Prop} (x : Nat) (hands : Int) (g : Nat → Int) (n : Nat) (hn : n ≤ 100) (h0 : ∀ y, ((wipe σ [7]).set 7 y)[0]? = some (some (.ref b))) (h2 : ∀ y, ((wipe σ [7]).set 7 y)[2]? = some (some (.int hands)))
    (hx : ∀ i : Nat, ((wipe σ [7]).set 7 (some (.int (0 + (i : Int)))))[x]? = some (some (.int (g i)))) (hh0 : 0 < hands) (hh1 : hands ≤ 1000) (hg : ∀ i, i < n → 0 ≤ g i ∧ g i ≤ 1000) (hB : BoxAt H2 b l) (hD : H2 D = .none)
    (hd : ∀ (H : Hp) (xs : List V) (ps : List Pl), Kb b l H2 H → BoxAt H b l → H D = some (.lst xs) → DpAll K H xs (ps.map plD) → ps.length = n → (∀ j q, ps[j]? = some q → plOk q hands (g j) = true) → Qd H) :
    ∃ W : Nat → Nat → Hp → Prop, (∃ m, W 0 m (L2.upd H2 D (.lst []))) ∧ ∀ i m H, W i m H →
      ((Itr 0 n).stop i H ∧ Qd H) ∨ ((Itr 0 n).go i H ∧ ∃ Nx : Hp → Prop, (∀ H', Nx H' → ∃ m', m' < m ∧ W (i + 1) m' H') ∧ ∀ y H', (Itr 0 n).yld i H y H' → gName 7 y (wipe σ [7]) H' fun σ2 H2 => wipe σ2 [7] = wipe σ [7] ∧ tYes σ2 H2 fun b H3 =>
        if b = true then tCall (spPlaces K) [] E0 (tCons (tVar 0) (tCons (tVar 2) (tCons (tVar x) tNil))) σ2 H3 fun y H4 => ∃ acc, H4 D = some (.lst acc) ∧ acc.length < sizeLine ∧ Nx (L2.upd H4 D (.lst (acc ++ [y]))) else Nx H3) := by
  obtain ⟨nb, nl⟩ := hB.neL hD
  refine lc_range (lo := 0) (n := n) (fun i H => Kb b l H2 H ∧ BoxAt H b l ∧ ∃ xs ps, H D = some (.lst xs) ∧ DpAll K H xs (ps.map plD) ∧ ps.length = i ∧ ∀ j q, ps[j]? = some q → plOk q hands (g j) = true)
    ⟨(Kb.refl b l H2).updD hD, hB.updD nb nl, [], [], upd_same, .nil, rfl, fun j q e => by simp at e⟩ ?_ ?_
  · rintro i H hi ⟨hk, hB1, xs, ps, hxs, dx, lx, ok⟩
    refine ⟨wipe_one σ 7 _, yes_lc ?_⟩
    refine ⟨_, h0 _, _, h2 _, _, hx i, b, l, hands, g i, rfl, hh0, hh1, (hg i hi).1, (hg i hi).2, hB1, fun v q H' dv okq hB' hk' => ?_⟩
    have hx' := hk'.kp.ls D xs hxs nb nl
    have lxs : xs.length = ps.length := by rw [DpAll.len dx, List.length_map]
    refine ⟨xs, hx', by rw [sizeLine_eq]; omega, (hk.trans hk').updD hD, hB'.updD nb nl, xs ++ [v], ps ++ [q], upd_same, ?_, by rw [List.length_append, lx]; rfl, fun j p e => ?_⟩
    · rw [List.map_append]
      have tp := tp_lst (o := HO.lst (xs ++ [v])) hx'
      exact DpAll.app (Dp.tps tp _ _ (noLs_map _ noL_pl _) (Dp.tps (tp_nl hk'.nl) _ _ (noLs_map _ noL_pl _) dx)) (.cons (Dp.tp tp _ _ (noL_pl q) dv) .nil)
    · by_cases c : j < ps.length
      · rw [List.getElem?_append_left c] at e
        exact ok j p e
      · have ej : j = ps.length := by
          have := (List.getElem?_eq_some_iff.mp e).1
          simp at this
          omega
        subst ej
        rw [List.getElem?_append_right (Nat.le_refl _), Nat.sub_self] at e
        have ep : q = p := by simpa using e
        subst ep
        rw [lx]
        exact okq
  · rintro H ⟨hk, hB1, xs, ps, hxs, dx, lx, ok⟩
    exact hd H xs ps hk hB1 hxs dx lx ok
/-- the seals that are drawn one by one: a hand's, or on a box that has none -/
def OkS (m : Int) (qs : List Pl) : Prop := ∀ (i : Nat) q, qs[i]? = some q → q.1 = .hand ∨ (q.1 = .box ∧ numOk q.2 m = true ∧ q ∉ qs.take i)
theorem OkS.nil (m : Int) : OkS m [] := fun i q e => by simp at e
theorem OkS.add {m : Int} {qs : List Pl} {q : Pl} (h : OkS m qs) (hq : q.1 = .hand ∨ (q.1 = .box ∧ numOk q.2 m = true ∧ q ∉ qs)) : OkS m (qs ++ [q]) := fun j p e => by
  by_cases c : j < qs.length
  · rw [List.getElem?_append_left c] at e
    rw [List.take_append_of_le_length (by omega)]
    exact h j p e
  · have ej : j = qs.length := by
      have := (List.getElem?_eq_some_iff.mp e).1
      simp at this
      omega
    subst ej
    rw [List.getElem?_append_right (Nat.le_refl _), Nat.sub_self] at e
    have ep : q = p := by simpa using e
    subst ep
    rw [List.take_append_of_le_length (Nat.le_refl _), List.take_length]
    exact hq
def fixS (h : Int) (q : Pl) : Pl := if q.1 = .box then q else (.hand, q.2 % h)
theorem fix_ok {h m : Int} {qs : List Pl} (h0 : 0 < h) (ok : OkS m qs) (hl : qs.length ≤ 3) (ss : List Pl) (ess : ss = qs.map (fixS h)) : ∀ (i : Nat) p, ss[i]? = some p → badS h m ss (0 + i) p = false := fun i p e => by
  subst ess
  rw [List.getElem?_map] at e
  cases eq : qs[i]? with
  | none => rw [eq] at e; cases e
  | some q =>
    rw [eq] at e
    have e' : fixS h q = p := Option.some.inj e
    subst e'
    have hi := (List.getElem?_eq_some_iff.mp eq).1
    rw [Nat.zero_add]
    unfold badS
    have n3 : decide (i = 3) = false := decide_eq_false (by omega)
    rw [n3]
    rcases ok i q eq with hq | ⟨hq, hn, hni⟩
    · have ef : fixS h q = (.hand, q.2 % h) := by unfold fixS; rw [if_neg (by rw [hq]; decide)]
      rw [ef]
      have pk : plOk (.hand, q.2 % h) h m = true := numOk_of (Int.emod_nonneg _ (by omega)) (Int.emod_lt_of_pos _ h0)
      rw [pk]
      rfl
    · have ef : fixS h q = q := by unfold fixS; rw [if_pos hq]
      rw [ef]
      have pk : plOk q h m = true := by
        unfold plOk
        rw [if_neg (by rw [hq]; decide), hq, hn]
        rfl
      rw [pk]
      have na : ((qs.map (fixS h)).take i).any (fun z => decide (z = q)) = false := by
        rw [List.any_eq_false]
        intro z hz hzq
        have hz' : z = q := of_decide_eq_true hzq
        subst hz'
        rw [← List.map_take] at hz
        obtain ⟨z0, hz0, ez⟩ := List.mem_map.mp hz
        have : z0 = z := by
          unfold fixS at ez
          by_cases c : z0.1 = .box
          · rw [if_pos c] at ez; exact ez
          · rw [if_neg c] at ez
            rw [← ez] at hq
            cases hq
        subst this
        exact hni hz0
      rw [na]
      simp
theorem plOk_gone {p : Pl} {h m : Int} (k : plOk p h m = true) : p.1 ≠ .gone := fun z => by
  unfold plOk at k
  rw [z] at k
  cases k
theorem err_none {h : Int} {bs ts ss : List Pl} (h0 : 1 ≤ h) (h1 : h ≤ 4) (b0 : 1 ≤ bs.length) (b1 : bs.length ≤ 3) (okb : ∀ (i : Nat) p, bs[i]? = some p → plOk p h i = true) (t1 : ts.length ≤ 4) (okt : ∀ (i : Nat) p, ts[i]? = some p → plOk p h bs.length = true)
    (oks : ∀ (i : Nat) p, ss[i]? = some p → badS h bs.length ss (0 + i) p = false) : errOf h bs ts ss = none := by
  unfold errOf
  have hn : numOk h 5 = true := numOk_of (by omega) (by omega)
  have hz : decide (h = 0) = false := decide_eq_false (by omega)
  rw [hn, hz, if_neg (by decide)]
  have eb : badBoxes h bs = none := by
    unfold badBoxes
    rw [if_neg (by omega)]
    refine bad_none bs 0 fun i p e => ?_
    have hi := (List.getElem?_eq_some_iff.mp e).1
    unfold badB
    rw [Nat.zero_add, okb i p e, decide_eq_false (show ¬ i = 3 by omega)]
    rfl
  have et : firstBad (badT h bs.length) 0 ts = none := by
    refine bad_none ts 0 fun i p e => ?_
    have hi := (List.getElem?_eq_some_iff.mp e).1
    unfold badT
    rw [Nat.zero_add, okt i p e, decide_eq_false (show ¬ i = 4 by omega)]
    rfl
  rw [eb, et, bad_none ss 0 oks]
theorem mem_get {α : Type} {l : List α} {p : α} (h : p ∈ l) : ∃ i : Nat, l[i]? = some p := by
  obtain ⟨i, hi, e⟩ := List.getElem_of_mem h
  exact ⟨i, List.getElem?_eq_some_iff.mpr ⟨hi, e⟩⟩
def spLHouse (K : PySem.W.Frag) (C : Addr) : Sp := fun vs H Q _ => ∃ (b l t : Addr) (s0 s1 s2 s3 : Int), vs = [.ref b, .ref t] ∧ SqT K H t [.int s0, .int s1, .int s2, .int s3] ∧ (1 ≤ s0 ∧ s0 ≤ 4) ∧ (1 ≤ s1 ∧ s1 ≤ 3) ∧ (0 ≤ s2 ∧ s2 ≤ 4) ∧ (0 ≤ s3 ∧ s3 ≤ 3) ∧ BoxAt H b l ∧
  ∀ h d H', HouseAt K C H' h d → HsOk d → BoxAt H' b l → Kb b l H H' → Q (.ref h) H'
theorem scHouse : FnScope ["_law_box", "_law_sizes", "_law_hands", "_law_many", "_law_boxes", "_law_things", "_law_seals", "_law_index", "_law_place"] ["_law_box", "_law_sizes"] (defScope sHouse) := ⟨rfl, rfl, rfl, by decide +kernel, rfl, by decide +kernel, by decide +kernel⟩
theorem ok_lhouse {f gT gP gH C CE : Addr} {fd fdT fdP fdH : FuncData} (F : Fun K "_law_house" "_law_house" sHouse f fd) (B : Bt mg)
    (GT : FnOk P w K mg base CX0 1 gT fdT ["_law_box", "_law_many"] spTake) (mT : mg "_law_take" = some (.ref gT)) (kT : PySem.W.keepIn K (.ref gT) = true) (bT : Binds K fdT ["_law_box", "_law_many"] [])
    (GP : FnOk P w K mg base CX0 2 gP fdP ["_law_box", "_law_hands", "_law_many"] (spPlaces K)) (mP : mg "_law_places" = some (.ref gP)) (kP : PySem.W.keepIn K (.ref gP) = true) (bP : Binds K fdP ["_law_box", "_law_hands", "_law_many"] [])
    (M : Mk K C gH) (GH : FnOk P w K mg base (L2.CX P w) 5 gH fdH ["self", "hands", "boxes", "things", "seals"] (spHouse K C CE)) (mH : mg "House" = some (.ref C)) (bH : Binds K fdH ["self", "hands", "boxes", "things", "seals"] []) :
    FnOk P w K mg base CX0 7 f fd ["_law_box", "_law_sizes"] (spLHouse K C) := by
  refine F.ok scHouse (fun vs H Q E h => ?_) (fun cdv A outer s H vs Q E hr h => ?_)
  · obtain ⟨b, l, t, s0, s1, s2, s3, rfl, _⟩ := h
    rfl
  · obtain ⟨b, l, t, s0, s1, s2, s3, rfl, ht, b0, b1, b2, b3, hB, k⟩ := h
    have hr1 : Room 1 _ := hr.mono (by decide)
    have hr2 : Room 2 _ := hr.mono (by decide)
    have hu65 : (cxOf CX0 P w K mg base ["_law_box", "_law_sizes", "_law_hands", "_law_many", "_law_boxes", "_law_things", "_law_seals", "_law_index", "_law_place"] "_law_house" (defScope sHouse) f cdv A outer s H E).nox.A.units + 65 < cLine := by have := hr.un; show (A.deeper _).units + 65 < cLine; omega
    refine ⟨_, pss_cons (ps_set (i := 2) scHouse.nd rfl (.inr rfl) (pe_op op_add pe_int (pe_call GT hr1 rfl mT kT bT .nil pass0 (pa_cons (pv 0) (pa_cons (pe_ix ix_tup (pv 1) pe_int (fun _ _ => rfl)) pa_nil)))))
      (pss_cons (ps_set (i := 3) scHouse.nd rfl (.inr rfl) (pe_op op_add pe_int (pe_call GT hr1 rfl mT kT bT .nil pass0 (pa_cons (pv 0) (pa_cons (pe_ix ix_tup (pv 1) pe_int (fun _ _ => rfl)) pa_nil)))))
      (pss_cons (ps_set (i := 4) scHouse.nd rfl (.inl rfl) (pe_callTy call_tuple_of (by rfl) B.tup (by decide +kernel) (pa_cons (pe_lc (own := [("_law_index", 7)]) (g := gName 7) (tt := tYes) (te := tCall (spPlaces K) [] E0 (tCons (tVar 0) (tCons (tVar 2) (tCons (tVar 7) tNil)))) rfl scHouse.nd (pi_range1 rfl B.rng (pa_cons (pv 3) pa_nil))
        (blkOk_by (own := [("_law_index", 7)]) (N := ["_law_box", "_law_sizes", "_law_hands", "_law_many", "_law_boxes", "_law_things", "_law_seals", "_law_index", "_law_place"]) (sc := defScope sHouse) (by decide +kernel)) (fun _ _ _ _ _ => pg_name (i := 7) scHouse.nd rfl (.inl rfl)) (fun _ _ _ _ _ => pts_nil) (fun _ _ _ _ _ => (pe_call GP hr2 rfl mP kP bP .nil pass0 (pa_cons (pv 0) (pa_cons (pv 2) (pa_cons (pv 7) pa_nil)))))) pa_nil)))
      (pss_cons (ps_set (i := 5) scHouse.nd rfl (.inl rfl) (pe_callTy call_tuple_of (by rfl) B.tup (by decide +kernel) (pa_cons (pe_lc (own := [("_law_index", 7)]) (g := gName 7) (tt := tYes) (te := tCall (spPlaces K) [] E0 (tCons (tVar 0) (tCons (tVar 2) (tCons (tVar 3) tNil)))) rfl scHouse.nd (pi_range1 rfl B.rng (pa_cons (pe_call GT hr1 rfl mT kT bT .nil pass0 (pa_cons (pv 0) (pa_cons (pe_op op_add (pe_ix ix_tup (pv 1) pe_int (fun _ _ => rfl)) pe_int) pa_nil))) pa_nil))
        (blkOk_by (own := [("_law_index", 7)]) (N := ["_law_box", "_law_sizes", "_law_hands", "_law_many", "_law_boxes", "_law_things", "_law_seals", "_law_index", "_law_place"]) (sc := defScope sHouse) (by decide +kernel)) (fun _ _ _ _ _ => pg_name (i := 7) scHouse.nd rfl (.inl rfl)) (fun _ _ _ _ _ => pts_nil) (fun _ _ _ _ _ => (pe_call GP hr2 rfl mP kP bP .nil pass0 (pa_cons (pv 0) (pa_cons (pv 2) (pa_cons (pv 3) pa_nil)))))) pa_nil)))
      (pss_cons (ps_set (i := 6) scHouse.nd rfl (.inl rfl) (pe_tup pa_nil))
      (pss_cons (ps_for PassesOwn.never rfl (pi_range1 rfl B.rng (pa_cons (pe_call GT hr1 rfl mT kT bT .nil pass0 (pa_cons (pv 0) (pa_cons (pe_op op_add (pe_ix ix_tup (pv 1) pe_int (fun _ _ => rfl)) pe_int) pa_nil))) pa_nil)) (pg_name (i := 7) scHouse.nd rfl (.inl rfl))
        (pss_cons (ps_set (i := 8) scHouse.nd rfl (.inl rfl) (pe_call GP hr2 rfl mP kP bP .nil pass0 (pa_cons (pv 0) (pa_cons (pv 2) (pa_cons (pv 3) pa_nil)))))
        (pss_one (ps_set (i := 6) scHouse.nd rfl (.inl rfl) (pe_op op_catA (pv 6) (pe_tup (pa_cons (pe_ifExp (PW.pt (pw_or (pt_cmpR op_eq (pe_ix ix_tup (pv 8) pe_int (fun _ _ => rfl)) pe_str (nomark _)) (pw_or1 (pt_cmpR (op_inDT hu65) (pv 8) (pv 6) (by rfl)))))
          (pe_tup (pa_cons pe_str (pa_cons (pe_ix ix_tup (pv 8) pe_int (fun _ _ => rfl)) pa_nil))) (pv 8)) pa_nil)))))))
      (pss_cons (ps_set (i := 6) scHouse.nd rfl (.inl rfl) (pe_callTy call_tuple_of (by rfl) B.tup (by decide +kernel) (pa_cons (pe_lc (own := [("_law_place", 8)]) (g := gName 8) (tt := tYes)
          (te := tIf (tTest (tOp rEq (tOp (rIxT K) (tVar 8) (tC (.int 0))) (tC (.str "box")))) (tVar 8) (tTup (tCons (tC (.str "hand")) (tCons (tOp (rI (fun _ j => 0 < j) fun i j => .int (i % j)) (tCB (fun xs H Q => (∃ i, xs = [.int i] ∧ Q (.int i) H) ∨ ∃ k, xs = [.bl k] ∧ Q (.int (if k then 1 else 0)) H) (tCons (tOp (rIxT K) (tVar 8) (tC (.int 1))) tNil)) (tVar 2)) tNil))))
          rfl scHouse.nd (pi_tup (pv 6)) (blkOk_by (own := [("_law_place", 8)]) (N := ["_law_box", "_law_sizes", "_law_hands", "_law_many", "_law_boxes", "_law_things", "_law_seals", "_law_index", "_law_place"]) (sc := defScope sHouse) (by decide +kernel)) (fun _ _ _ _ _ => pg_name (i := 8) scHouse.nd rfl (.inl rfl)) (fun _ _ _ _ _ => pts_nil)
          (fun _ _ _ _ _ => pe_ifExp (pt_cmpR op_eq (pe_ix ix_tup (pv 8) pe_int (fun _ _ => rfl)) pe_str (nomark _)) (pv 8) (pe_tup (pa_cons pe_str (pa_cons (pe_op op_mod (pe_callTy call_int1 (by rfl) B.int (by decide +kernel) (pa_cons (pe_ix ix_tup (pv 8) pe_int (fun _ _ => rfl)) pa_nil)) (pv 2)) pa_nil))))) pa_nil)))
      (pss_one (ps_ret (pe_make M GH hr rfl mH bH .nil passL (pa_cons (pv 2) (pa_cons (pv 4) (pa_cons (pv 5) (pa_cons (pv 6) pa_nil))))))))))))), ?_⟩
    -- the numbers
    refine ⟨_, rfl, _, rfl, t, _, 0, _, rfl, rfl, ht, rfl, b, l, s0, rfl, by omega, by omega, hB, fun n H1 n0 n1 hB1 k1 => ⟨_, _, rfl, rfl, ?_⟩⟩
    refine ⟨_, rfl, _, rfl, t, _, 1, _, rfl, rfl, SqT.nl k1.nl ht, rfl, b, l, s1, rfl, by omega, by omega, hB1, fun m H2 m0 m1 hB2 k2 => ⟨_, _, rfl, rfl, ?_⟩⟩
    have nn : ∀ z : Int, 0 ≤ z → ((z.toNat : Nat) : Int) = z := fun z hz => by omega
    -- boxes
    refine ⟨_, rfl, _, rfl, by omega, by omega, fun D1 hD1 => ?_⟩
    refine lc_pl (K := K) 7 (1 + n) (fun i => 0 + (i : Int)) (1 + m).toNat (by omega) (fun _ => rfl) (fun _ => rfl) (fun i => rfl) (by omega) (by omega) (fun i hi => ⟨by omega, by omega⟩) hB2 hD1 fun H3 xb bs k3 hB3 hx3 db lb okb => ?_
    refine ⟨D1, xb, rfl, .inl ⟨SqL.of hx3, fun ab hab => ?_⟩⟩
    have hB3' := hB3.upd (o := HO.tup xb) hab
    have k3' : Kb b l H (L2.upd H3 ab (.tup xb)) := (((k1.trans k2).trans k3)).trans (Kb.same (same_upd hab))
    have dpb : Dp K (L2.upd H3 ab (.tup xb)) (.ref ab) (plsD bs) := .tup (SqT.of upd_same) (Dp.sames (same_upd hab) _ _ db)
    -- things
    refine ⟨_, rfl, _, rfl, t, _, 2, _, rfl, rfl, SqT.nl k3'.nl ht, rfl, _, _, rfl, rfl, b, l, s2 + 1, rfl, by omega, by omega, hB3', fun m2 H4 m20 m21 hB4 k4 => ⟨m2, rfl, by omega, by omega, fun D2 hD2 => ?_⟩⟩
    refine lc_pl (K := K) 3 (1 + n) (fun _ => 1 + m) m2.toNat (by omega) (fun _ => rfl) (fun _ => rfl) (fun i => rfl) (by omega) (by omega) (fun i hi => ⟨by omega, by omega⟩) hB4 hD2 fun H5 xt ts k5 hB5 hx5 dt lt okt => ?_
    refine ⟨D2, xt, rfl, .inl ⟨SqL.of hx5, fun at' hat => ?_⟩⟩
    have hB5' := hB5.upd (o := HO.tup xt) hat
    have k45 : Kb b l (L2.upd H3 ab (.tup xb)) (L2.upd H5 at' (.tup xt)) := (k4.trans k5).trans (Kb.same (same_upd hat))
    have k5' : Kb b l H (L2.upd H5 at' (.tup xt)) := k3'.trans k45
    have dpt : Dp K (L2.upd H5 at' (.tup xt)) (.ref at') (plsD ts) := .tup (SqT.of upd_same) (Dp.sames (same_upd hat) _ _ dt)
    have dpb5 := Dp.nl k45.nl _ _ (noL_pls bs) dpb
    -- seals, one by one
    refine ⟨(by show 0 ≤ sizeLine; decide), fun a0 ha0 => ?_⟩
    have hB6 := hB5'.upd (o := HO.tup []) ha0
    have k6 : Kb b l (L2.upd H5 at' (.tup xt)) (L2.upd (L2.upd H5 at' (.tup xt)) a0 (.tup [])) := Kb.same (same_upd ha0)
    refine ⟨_, rfl, _, rfl, t, _, 3, _, rfl, rfl, SqT.nl (k5'.trans k6).nl ht, rfl, _, _, rfl, rfl, b, l, s3 + 1, rfl, by omega, by omega, hB6, fun m3 H7 m30 m31 hB7 k7 => ⟨m3, rfl, by omega, by omega, ?_⟩⟩
    refine for_range (lo := 0) (n := m3.toNat) (fun i σ Hn => ∃ (vi vp : Option V) (a : Addr) (xs : List V) (qs : List Pl), σ = [some (.ref b), some (.ref t), some (.int (1 + n)), some (.int (1 + m)), some (.ref ab), some (.ref at'), some (.ref a), vi, vp] ∧ Kb b l (L2.upd H5 at' (.tup xt)) Hn ∧ BoxAt Hn b l ∧ SqT K Hn a xs ∧ DpAll K Hn xs (qs.map plD) ∧ qs.length = i ∧ OkS (1 + m) qs)
      ⟨none, none, a0, [], [], rfl, k6.trans k7, hB7, SqT.nl k7.nl (SqT.of upd_same), .nil, rfl, OkS.nil _⟩ ?_ ?_
    · rintro i σ Hn hi ⟨vi, vp, a, xs, qs, rfl, kn, hBn, qa, da, la, oks⟩
      refine ⟨_, rfl, _, rfl, _, rfl, b, l, 1 + n, 1 + m, rfl, by omega, by omega, by omega, by omega, hBn, fun v q Hm dv okq hBm km => ?_⟩
      obtain ⟨av, rfl, qv⟩ := pl_at dv
      have cat : ∀ (y0 : V) (q' : Pl) (H2 : Hp), Same Hm H2 → Dp K H2 y0 (plD q') → (q'.1 = .hand ∨ (q'.1 = .box ∧ numOk q'.2 (1 + m) = true ∧ q' ∉ qs)) → ∀ p : Addr, H2 p = none → ∀ R : V → Hp → Prop,
          (∀ (c : Addr) (xs' : List V) (H3 : Hp), Kb b l (L2.upd H5 at' (.tup xt)) H3 → BoxAt H3 b l → SqT K H3 c xs' → DpAll K H3 xs' ((qs ++ [q']).map plD) → (qs ++ [q']).length = i + 1 → OkS (1 + m) (qs ++ [q']) → R (.ref c) H3) →
          rCatA K (.ref a) (.ref p) (L2.upd H2 p (.tup [y0])) R := fun y0 q' H2 e2 d2 hq p hp R kR => by
        have e3 : Same Hm (L2.upd H2 p (.tup [y0])) := Same.upd2 e2 hp
        have lxs : xs.length = qs.length := by rw [DpAll.len da, List.length_map]
        have dxs : ∀ H3, Same Hm H3 → DpAll K H3 xs (qs.map plD) := fun H3 e => Dp.sames e _ _ (Dp.nls km.nl _ _ (noLs_map _ noL_pl _) da)
        have dy : Dp K (L2.upd H2 p (.tup [y0])) y0 (plD q') := Dp.same (same_upd hp) _ _ d2
        have lq : (qs ++ [q']).length = i + 1 := by rw [List.length_append, la]; rfl
        refine ⟨a, p, xs, [y0], rfl, rfl, SqT.same e3 (SqT.nl km.nl qa), SqT.of upd_same, (by rw [sizeLine_eq]; show xs.length + 1 ≤ _; omega), fun ex => ?_, (fun _ z => by cases z), fun _ _ c hc => ?_⟩
        · subst ex
          have eq0 : qs = [] := List.eq_nil_of_length_eq_zero (by rw [← lxs]; rfl)
          subst eq0
          exact kR p [y0] _ ((kn.trans km).trans (Kb.same e3)) (hBm.same e3) (SqT.of upd_same) (.cons dy .nil) lq (oks.add hq)
        · have e4 : Same Hm (L2.upd (L2.upd H2 p (.tup [y0])) c (.tup (xs ++ [y0]))) := Same.upd2 e3 hc
          refine kR c (xs ++ [y0]) _ ((kn.trans km).trans (Kb.same e4)) (hBm.same e4) (SqT.of upd_same) ?_ lq (oks.add hq)
          rw [List.map_append]
          exact DpAll.app (dxs _ e4) (.cons (Dp.same (same_upd hc) _ _ dy) .nil)
      have fin : ∀ (y0 : V) (q' : Pl) (H2 : Hp), Same Hm H2 → Dp K H2 y0 (plD q') → (q'.1 = .hand ∨ (q'.1 = .box ∧ numOk q'.2 (1 + m) = true ∧ q' ∉ qs)) → ∀ p : Addr, H2 p = none → rCatA K (.ref a) (.ref p) (L2.upd H2 p (.tup [y0])) fun x H1 => gName 6 x (([some (V.ref b), some (V.ref t), some (V.int (1 + n)), some (V.int (1 + m)), some (V.ref ab), some (V.ref at'), some (V.ref a), vi, vp].set 7 (some (V.int (0 + (i : Int))))).set 8 (some (V.ref av))) H1 fun σ Hn => ∃ (vi vp : Option V) (a : Addr) (xs : List V) (qs : List Pl), σ = [some (.ref b), some (.ref t), some (.int (1 + n)), some (.int (1 + m)), some (.ref ab), some (.ref at'), some (.ref a), vi, vp] ∧ Kb b l (L2.upd H5 at' (.tup xt)) Hn ∧ BoxAt Hn b l ∧ SqT K Hn a xs ∧ DpAll K Hn xs (qs.map plD) ∧ qs.length = i + 1 ∧ OkS (1 + m) qs :=
        fun y0 q' H2 e2 d2 hq p hp => cat y0 q' H2 e2 d2 hq p hp _ fun c xs' H3 k1 k2 k3 k4 k5 k6 => ⟨_, _, c, xs', _, rfl, k1, k2, k3, k4, k5, k6⟩
      refine ⟨_, rfl, _, rfl, av, _, 0, _, rfl, rfl, qv, rfl, rfl, _, rfl, ?_⟩
      rw [decS]
      have isn : ∀ p : Addr, Hm p = none → SqT K (L2.upd Hm p (.tup [.str ("hand" : Str), .int q.2])) p [.str ("hand" : Str), .int q.2] := fun p hp => SqT.of upd_same
      have dh : ∀ p : Addr, Hm p = none → Dp K (L2.upd Hm p (.tup [.str ("hand" : Str), .int q.2])) (.ref p) (plD (.hand, q.2)) := fun p hp => .tup (isn p hp) (.cons (.str _) (.cons (.int _) .nil))
      by_cases c1 : q.1 = .hand
      · rw [show decide (q.1.str = ("hand" : Str)) = true from decide_eq_true (by rw [c1]; rfl)]
        refine iteT (iteT ?_)
        refine ⟨_, rfl, av, _, 1, _, rfl, rfl, qv, rfl, (by show 2 ≤ sizeLine; decide), fun p hp => ⟨(by show 1 ≤ sizeLine; decide), fun p2 hp2 => ?_⟩⟩
        exact fin _ (.hand, q.2) _ (same_upd hp) (dh p hp) (.inl rfl) p2 hp2
      · rw [show decide (q.1.str = ("hand" : Str)) = false from decide_eq_false fun z => c1 (wd_inj (v := .hand) z)]
        have okb2 : q.1 = .box ∧ numOk q.2 (1 + m) = true := by
          unfold plOk at okq
          rw [if_neg c1, Bool.and_eq_true] at okq
          exact ⟨of_decide_eq_true okq.1, okq.2⟩
        refine iteF ⟨_, rfl, _, rfl, plD q, qs.map plD, dv, .tup (SqT.nl km.nl qa) (Dp.nls km.nl _ _ (noLs_map _ noL_pl _) da), shaped_pl q, shaped_pls qs, _, rfl, ?_⟩
        rw [any_pl, if_neg (show ¬ (false = true) by decide)]
        cases ca : qs.any fun z => decide (z = q) with
        | true =>
          refine iteT ⟨_, rfl, av, _, 1, _, rfl, rfl, qv, rfl, (by show 2 ≤ sizeLine; decide), fun p hp => ⟨(by show 1 ≤ sizeLine; decide), fun p2 hp2 => ?_⟩⟩
          exact fin _ (.hand, q.2) _ (same_upd hp) (dh p hp) (.inl rfl) p2 hp2
        | false =>
          refine iteF ⟨_, rfl, (by show 1 ≤ sizeLine; decide), fun p2 hp2 => ?_⟩
          refine fin _ q _ (fun _ _ e => e) dv (.inr ⟨okb2.1, okb2.2, fun z => ?_⟩) p2 hp2
          have := List.any_eq_false.mp ca q z
          exact this (decide_eq_true rfl)
    · rintro σ Hn ⟨vi, vp, a, xs, qs, rfl, kn, hBn, qa, da, la, oks⟩
      refine ⟨_, rfl, a, rfl, ⟨xs, qa⟩, fun D hD => ?_⟩
      have lxs : xs.length = qs.length := by rw [DpAll.len da, List.length_map]
      have e0 : ∀ (H : Hp) (o : HO), Same Hn H → Same Hn (L2.upd H D o) := fun H o e a o' h => by rw [upd_ne (ne_of_none h hD)]; exact e a o' h
      refine lc_tup (K := K) (a := a) (xs := xs) (fun i H => Same Hn H ∧ ∃ ys, H D = some (.lst ys) ∧ ys.length = i ∧ DpAll K H ys ((qs.take i).map fun q => plD (fixS (1 + n) q)))
        ⟨same_upd hD, [], upd_same, rfl, .nil⟩ (fun i H _ ⟨e, _⟩ => SqT.same e qa) ?_ ?_
      · rintro i y H' hi ⟨e, ys, hys, lys, dys⟩
        have hi1 := (List.getElem?_eq_some_iff.mp hi).1
        obtain ⟨d, hd1, hd2⟩ := DpAll.get da hi
        obtain ⟨q, hq⟩ : ∃ q, qs[i]? = some q := ⟨_, List.getElem?_eq_getElem (by omega)⟩
        have ed : plD q = d := by
          rw [List.getElem?_map, hq] at hd1
          exact Option.some.inj hd1
        subst ed
        have dy := Dp.same e _ _ hd2
        have fin : ∀ (y0 : V) (H4 : Hp), Same Hn H4 → H4 D = some (.lst ys) → DpAll K H4 ys ((qs.take i).map fun q => plD (fixS (1 + n) q)) → Dp K H4 y0 (plD (fixS (1 + n) q)) → ∃ acc, H4 D = some (.lst acc) ∧ acc.length < sizeLine ∧ Same Hn (L2.upd H4 D (.lst (acc ++ [y0]))) ∧ ∃ zs, (L2.upd H4 D (.lst (acc ++ [y0]))) D = some (.lst zs) ∧ zs.length = i + 1 ∧ DpAll K (L2.upd H4 D (.lst (acc ++ [y0]))) zs ((qs.take (i + 1)).map fun q => plD (fixS (1 + n) q)) := fun y0 H4 e4 h4 d4 dy4 => by
          refine ⟨ys, h4, by rw [sizeLine_eq]; omega, e0 _ _ e4, ys ++ [y0], upd_same, by rw [List.length_append, lys]; rfl, ?_⟩
          have tp := tp_lst (o := HO.lst (ys ++ [y0])) h4
          have et : (qs.take (i + 1)).map (fun q => plD (fixS (1 + n) q)) = (qs.take i).map (fun q => plD (fixS (1 + n) q)) ++ [plD (fixS (1 + n) q)] := by
            rw [List.take_add_one, hq]
            simp
          rw [et]
          exact DpAll.app (Dp.tps tp _ _ (noLs_map (fun q => plD (fixS (1 + n) q)) (fun q => noL_pl _) _) d4) (.cons (Dp.tp tp _ _ (noL_pl _) dy4) .nil)
        obtain ⟨av, rfl, qv⟩ := pl_at dy
        refine ⟨wipe_one _ 8 _, yes_lc ?_⟩
        refine ⟨_, rfl, av, _, 0, _, rfl, rfl, qv, rfl, rfl, _, rfl, ?_⟩
        rw [decS]
        by_cases c1 : q.1 = .box
        · rw [show decide (q.1.str = ("box" : Str)) = true from decide_eq_true (by rw [c1]; rfl)]
          refine iteT ⟨_, rfl, fin _ _ e hys dys ?_⟩
          unfold fixS
          rw [if_pos c1]
          exact dy
        · rw [show decide (q.1.str = ("box" : Str)) = false from decide_eq_false fun z => c1 (wd_inj (v := .box) z)]
          refine iteF ⟨_, rfl, av, _, 1, _, rfl, rfl, qv, rfl, .inl ⟨_, rfl, _, rfl, _, _, rfl, rfl, (by omega), (by show 2 ≤ sizeLine; decide), fun p hp => ?_⟩⟩
          refine fin _ _ (Same.upd2 e hp) (by rw [upd_ne (ne_of_none hys hp)]; exact hys) (Dp.sames (same_upd hp) _ _ dys) ?_
          unfold fixS
          rw [if_neg c1]
          exact .tup (SqT.of upd_same) (.cons (.str _) (.cons (.int _) .nil))
      · rintro H' ⟨e, ys, hys, lys, dys⟩
        refine ⟨D, ys, rfl, .inl ⟨SqL.of hys, fun as has => ?_⟩⟩
        rw [lxs, List.take_length] at dys
        have e5 : Same Hn (L2.upd H' as (.tup ys)) := Same.upd2 e has
        have dps : Dp K (L2.upd H' as (.tup ys)) (.ref as) (plsD (qs.map (fixS (1 + n)))) := .tup (SqT.of upd_same) (by rw [List.map_map]; exact Dp.sames (same_upd has) _ _ dys)
        have k6' := (kn.trans (Kb.same e5))
        have dpb6 := Dp.nl k6'.nl _ _ (noL_pls bs) dpb5
        have dpt6 := Dp.nl k6'.nl _ _ (noL_pls ts) dpt
        have hB6' := hBn.same e5
        have kAll := k5'.trans k6'
        have lb1 : bs.length = (1 + m).toNat := lb
        have err : errOf (1 + n) bs ts (qs.map (fixS (1 + n))) = none := by
          refine err_none (by omega) (by omega) (by omega) (by omega) (fun i p e => ?_) (by omega) (fun i p e => ?_) ?_
          · have := okb i p e
            rwa [Int.zero_add] at this
          · have := okt i p e
            rwa [show ((bs.length : Nat) : Int) = 1 + m by omega]
          · rw [show ((bs.length : Nat) : Int) = 1 + m by omega]
            exact fix_ok (by omega) oks (by omega) _ rfl
        generalize hHe : L2.upd H' as (.tup ys) = He at *
        refine ⟨_, rfl, _, rfl, _, rfl, _, rfl, fun x dx hx hdx ne => ?_⟩
        have hdx' : (L2.upd He dx (.own x)) x = none := by rw [upd_ne ne.symm]; exact hx
        have e7 : Same He (L2.upd (L2.upd He dx (.own x)) x (.ins C dx [])) := Same.upd2 (same_upd hdx) hdx'
        refine ⟨x, dx, 1 + n, _, _, _, bs, ts, qs.map (fixS (1 + n)), rfl, upd_same, Dp.same e7 _ _ dpb6, Dp.same e7 _ _ dpt6, Dp.same e7 _ _ dps, by omega, by omega, by rw [List.length_map]; omega, fun z i e => ?_, fun _ H8 hb8 hh8 => ⟨rfl, ?_⟩⟩
        · rw [err] at e
          cases e
        · have e8 : Same He H8 := fun a o h => hb8 a o (e7 a o h) (ne_of_none h hx)
          refine k x _ H8 hh8 ⟨by show 1 ≤ 1 + n; omega, by show 1 + n ≤ 4; omega, by show 1 ≤ bs.length; omega, by show bs.length ≤ 3; omega, by show ts.length ≤ 4; omega, by show (qs.map _).length ≤ 3; rw [List.length_map]; omega, err, fun p hp => ?_, fun p hp => ?_, fun p hp => ?_⟩ (hB6'.same e8) (kAll.trans (Kb.same e8))
          · obtain ⟨i, hi⟩ := mem_get hp
            exact plOk_gone (okb i p hi)
          · obtain ⟨i, hi⟩ := mem_get hp
            exact plOk_gone (okt i p hi)
          · obtain ⟨q, hq, rfl⟩ := List.mem_map.mp hp
            obtain ⟨i, hi⟩ := mem_get hq
            unfold fixS
            rcases oks i q hi with z | ⟨z, _⟩
            · rw [if_neg (by rw [z]; decide)]
              intro z'
              cases z'
            · rw [if_pos z, z]
              intro z'
              cases z'
end
end Kw

set_option Elab.async false
set_option linter.all false
set_option maxRecDepth 100000
set_option maxHeartbeats 4000000
namespace Kw
open PySem PySem.Spec PyProof.Rows L2
section
variable {P : Program} {w : World} {K : PySem.W.Frag} {mg : Str → Option Value} {base : Heap}
/-! ### _law_is_place -/
def lpOk (part : Str) (i : Nat) (p : Pl) (n m : Int) (ss : List Pl) : Bool :=
  if p.1 = .hand then numOk p.2 n else numOk p.2 (if part = "boxes" then (i : Int) else m) && !(decide (part = "seals") && (ss.take i).any fun q => decide (q = p))
def spLIsPl (K : PySem.W.Frag) : Sp := fun vs H Q _ => ∃ (part : Str) (i : Nat) (p : Pl) (x : V) (n m : Int) (y : V) (ss : List Pl), vs = [.str part, .int (i : Nat), x, .int n, .int m, y] ∧ Dp K H x (plD p) ∧ Dp K H y (plsD ss) ∧ (part = "seals" → i < ss.length) ∧
  ∀ H', Same H H' → Q (.bl (lpOk part i p n m ss)) H'
theorem scLIsPl : FnScope ["_law_part", "_law_index", "_law_place", "_law_hands", "_law_boxes", "_law_seals", "_law_kind", "_law_number"] ["_law_part", "_law_index", "_law_place", "_law_hands", "_law_boxes", "_law_seals"] (defScope sLIsPl) := ⟨rfl, rfl, rfl, by decide +kernel, rfl, by decide +kernel, by decide +kernel⟩
theorem ok_lispl {f : Addr} {fd : FuncData} (F : Fun K "_law_is_place" "_law_is_place" sLIsPl f fd) (B : Bt mg) : FnOk P w K mg base CX0 1 f fd ["_law_part", "_law_index", "_law_place", "_law_hands", "_law_boxes", "_law_seals"] (spLIsPl K) := by
  refine F.ok scLIsPl (fun vs H Q E h => ?_) (fun cdv A outer s H vs Q E hr h => ?_)
  · obtain ⟨part, i, p, x, n, m, y, ss, rfl, _⟩ := h
    rfl
  · obtain ⟨part, i, p, x, n, m, y, ss, rfl, hp, hs, hlt, k⟩ := h
    obtain ⟨a, rfl, q⟩ := pl_at hp
    obtain ⟨as, xs, rfl, qs, ds, ls⟩ := pls_at hs
    have hu65 : (cxOf CX0 P w K mg base ["_law_part", "_law_index", "_law_place", "_law_hands", "_law_boxes", "_law_seals", "_law_kind", "_law_number"] "_law_is_place" (defScope sLIsPl) f cdv A outer s H E).nox.A.units + 65 < cLine := by have := hr.un; show (A.deeper _).units + 65 < cLine; omega
    refine ⟨_, pss_cons (ps_asg (pv 2) (pg_tup (by rfl) (pgs_cons (pg_name (i := 6) scLIsPl.nd rfl (.inl rfl)) (pgs_cons (pg_name (i := 7) scLIsPl.nd rfl (.inl rfl)) pgs_nil))))
      (pss_cons (ps_if (PW.pt (pw_or (pt_val (pe_callB call_isi (by rfl) B.isi (by decide +kernel) (pa_cons (pv 7) (pa_cons (pe_bltn (v := .ty "bool") (by rfl) B.bool (by decide +kernel) rfl) pa_nil)))) (pw_or1 (pt_cmpR op_lt (pv 7) pe_int (nomark _)))))
        (pss_one (ps_ret pe_bl)) pss_nil)
      (pss_cons (ps_if (pt_cmpR op_eq (pv 6) pe_str (nomark _)) (pss_one (ps_ret (pe_cmpR op_lt (pv 7) (pv 3) (nomark _)))) pss_nil)
      (pss_one (ps_ret (pe_and (pe_cmpR op_lt (pv 7) (pe_ifExp (pt_cmpR op_eq (pv 0) pe_str (nomark _)) (pv 1) (pv 4)) (nomark _))
        (pe_one (pe_not (pe_and (pe_cmpR op_eq (pv 0) pe_str (nomark _)) (pe_one (pe_cmpR (op_inDT hu65) (pv 2) (pe_slice sl_tupA (pv 5) po_none (po_some (pv 1))) (by rfl))))))))))), ?_⟩
    refine ⟨_, rfl, a, _, rfl, q, rfl, _, _, rfl, _, _, rfl, rfl, ?_⟩
    have kk := fun H' e => k H' e
    unfold lpOk numOk at kk
    refine ⟨_, rfl, _, _, _, _, false, rfl, .ty "bool", .base (.int p.2), kit_ty (by decide +kernel), _, rfl, iteF ⟨_, rfl, _, _, rfl, rfl, _, rfl, ?_⟩⟩
    by_cases c0 : p.2 < 0
    · rw [decide_eq_true c0]
      refine iteT ?_
      have n0 : decide ((0 : Int) ≤ p.2) = false := decide_eq_false (by omega)
      rw [n0] at kk
      have := kk H (Same.refl H)
      simp only [Bool.false_and, ite_self] at this
      exact this
    rw [decide_eq_false c0]
    have n0 : decide ((0 : Int) ≤ p.2) = true := decide_eq_true (by omega)
    rw [n0] at kk
    simp only [Bool.true_and] at kk
    refine iteF ?_
    refine ⟨_, rfl, rfl, _, rfl, ?_⟩
    rw [decS]
    by_cases c1 : p.1 = .hand
    · rw [show decide (p.1.str = ("hand" : Str)) = true from decide_eq_true (by rw [c1]; rfl)]
      refine iteT ⟨_, rfl, _, rfl, _, _, rfl, rfl, ?_⟩
      have := kk H (Same.refl H)
      rw [if_pos c1] at this
      exact this
    rw [show decide (p.1.str = ("hand" : Str)) = false from decide_eq_false fun z => c1 (wd_inj (v := .hand) z)]
    simp only [if_neg c1] at kk
    refine iteF ⟨_, rfl, _, rfl, rfl, _, rfl, ?_⟩
    rw [decS]
    have tail : ∀ l : Int, (∀ H', Same H H' → Q (.bl (decide (p.2 < l) && !(decide (part = ("seals" : Str)) && (ss.take i).any fun q => decide (q = p)))) H') →
        tAndV (fun _ H Q => Q (.bl (decide (p.2 < l))) H) (tNotV (tAndV (tOp rEq (tVar 0) (tC (V.str ("seals" : Str)))) (tOp (rInDT K false) (tVar 2) (tSl (rSlA K) (tVar 5) tNoPart (tPart (tVar 1)))))) (((L2.start ["_law_part", "_law_index", "_law_place", "_law_hands", "_law_boxes", "_law_seals", "_law_kind", "_law_number"] [V.str part, V.int (i : Nat), V.ref a, V.int n, V.int m, V.ref as]).set 6 (some (V.str p.1.str))).set 7 (some (V.int p.2))) H Q := fun l kl => by
      refine ⟨_, rfl, ?_⟩
      cases c2 : decide (p.2 < l) with
      | false =>
        rw [c2] at kl
        exact iteF (kl H (Same.refl H))
      | true =>
        rw [c2] at kl
        refine iteT ⟨_, rfl, rfl, _, rfl, ?_⟩
        rw [decS]
        by_cases c3 : part = ("seals" : Str)
        · rw [decide_eq_true c3] at kl ⊢
          have hlt' := hlt c3
          refine iteT ⟨_, rfl, _, rfl, _, rfl, _, rfl, as, xs, rfl, qs, fun hw => ?_, fun hw T2 hT2 => ?_⟩
          · exfalso
            have h1 := hw.2
            rw [HT.sIx_nat] at h1
            omega
          · have e3 : Same H (L2.upd H T2 (.tup (cutV xs none (some (i : Int))))) := same_upd hT2
            have ecut : cutV xs none (some (i : Int)) = xs.take i := by
              unfold cutV
              rw [HT.sIx_none, HT.sIx_nat, List.drop_zero, Nat.sub_zero, Nat.min_eq_left (by omega)]
            rw [ecut] at e3 ⊢
            refine ⟨plD p, (ss.take i).map plD, Dp.same e3 _ _ hp, .tup (SqT.of upd_same) ?_, shaped_pl p, shaped_pls (ss.take i), _, rfl, ?_⟩
            · rw [List.map_take]
              exact DpAll.take i (Dp.sames e3 _ _ ds)
            · rw [any_pl]
              exact kl _ e3
        · rw [decide_eq_false c3] at kl ⊢
          exact iteF ⟨_, rfl, kl H (Same.refl H)⟩
    by_cases c2 : part = ("boxes" : Str)
    · rw [decide_eq_true c2]
      simp only [if_pos c2] at kk
      exact iteT ⟨_, rfl, _, _, rfl, rfl, tail _ kk⟩
    · rw [decide_eq_false c2]
      simp only [if_neg c2] at kk
      exact iteF ⟨_, rfl, _, _, rfl, rfl, tail _ kk⟩

/-! ### _law_due -/
def ptOf : Nat → Str
  | 0 => "boxes"
  | 1 => "things"
  | _ => "seals"
def moOf : Nat → Nat
  | 1 => 4
  | _ => 3
def plOf (bs ts ss : List Pl) : Nat → List Pl
  | 0 => bs
  | 1 => ts
  | _ => ss
def badOf (n : Int) (bs ts ss : List Pl) : Nat → Nat → Pl → Bool
  | 0 => badB n
  | 1 => badT n bs.length
  | _ => badS n bs.length ss
def restOf (n : Int) (bs ts ss : List Pl) : Nat → Option (Str × Nat)
  | 0 => match badBoxes n bs with
    | some i => some ("boxes", i)
    | none => match firstBad (badT n bs.length) 0 ts with
      | some i => some ("things", i)
      | none => match firstBad (badS n bs.length ss) 0 ss with
        | some i => some ("seals", i)
        | none => none
  | 1 => match firstBad (badT n bs.length) 0 ts with
      | some i => some ("things", i)
      | none => match firstBad (badS n bs.length ss) 0 ss with
        | some i => some ("seals", i)
        | none => none
  | 2 => match firstBad (badS n bs.length ss) 0 ss with
        | some i => some ("seals", i)
        | none => none
  | _ => none
theorem rest_at (n : Int) (bs ts ss : List Pl) : ∀ i, i < 3 → restOf n bs ts ss i = match firstBad (badOf n bs ts ss i) 0 (plOf bs ts ss i) with
    | some j => some (ptOf i, j)
    | none => if i = 0 ∧ bs = [] then some ("boxes", 0) else restOf n bs ts ss (i + 1)
  | 0, _ => by
    cases bs with
    | nil => rfl
    | cons b r =>
      show (match badBoxes n (b :: r) with | some i => _ | none => _) = _
      unfold badBoxes
      rw [if_neg (by simp)]
      show _ = match firstBad (badB n) 0 (b :: r) with | some j => _ | none => _
      cases firstBad (badB n) 0 (b :: r) with
      | some j => rfl
      | none =>
        show _ = if _ then _ else _
        rw [if_neg (by simp)]
        rfl
  | 1, _ => by
    show (match firstBad (badT n bs.length) 0 ts with | some i => _ | none => _) = match firstBad (badT n bs.length) 0 ts with | some j => _ | none => _
    cases firstBad (badT n bs.length) 0 ts with
    | some j => rfl
    | none =>
      show _ = if _ then _ else _
      rw [if_neg (by simp)]
      rfl
  | 2, _ => by
    show (match firstBad (badS n bs.length ss) 0 ss with | some i => _ | none => _) = match firstBad (badS n bs.length ss) 0 ss with | some j => _ | none => _
    cases firstBad (badS n bs.length ss) 0 ss with
    | some j => rfl
    | none =>
      show _ = if _ then _ else _
      rw [if_neg (by simp)]
      rfl
  | i + 3, h => absurd h (by omega)
theorem bad_lp {n : Int} {bs ts ss : List Pl} {p : Pl} (hp : p.1 ≠ .gone) (j : Nat) : ∀ i, i < 3 → badOf n bs ts ss i j p = (decide (j = moOf i) || !lpOk (ptOf i) j p n bs.length ss) := by
  obtain ⟨u, z⟩ := p
  have e1 : decide (("boxes" : Str) = ("seals" : Str)) = false := by decide +kernel
  have e2 : decide (("things" : Str) = ("seals" : Str)) = false := by decide +kernel
  have n2 : ¬ ("things" : Str) = ("boxes" : Str) := by decide +kernel
  have n3 : ¬ ("seals" : Str) = ("boxes" : Str) := by decide +kernel
  intro i hi
  match i, hi with
  | 0, _ =>
    show badB n j (u, z) = (decide (j = 3) || !lpOk "boxes" j (u, z) n bs.length ss)
    unfold badB lpOk plOk
    rw [e1]
    cases u with
    | hand => rfl
    | box => simp
    | gone => exact absurd rfl hp
  | 1, _ =>
    show badT n bs.length j (u, z) = (decide (j = 4) || !lpOk "things" j (u, z) n bs.length ss)
    unfold badT lpOk plOk
    rw [e2]
    cases u with
    | hand => rfl
    | box => simp [n2]
    | gone => exact absurd rfl hp
  | 2, _ =>
    show badS n bs.length ss j (u, z) = (decide (j = 3) || !lpOk "seals" j (u, z) n bs.length ss)
    unfold badS lpOk plOk
    cases u with
    | hand => simp
    | box => simp [n3, Bool.or_assoc]
    | gone => exact absurd rfl hp
  | i + 3, h => exact absurd h (by omega)
theorem err_rest {n : Int} {bs ts ss : List Pl} : errOf n bs ts ss = if (!numOk n 5 || decide (n = 0)) = true then some (("hands" : Str), 0) else restOf n bs ts ss 0 := rfl
def dueD : Option (Str × Nat) → PyData
  | none => .str ""
  | some (z, i) => .tuple [.str "InvalidHouse", .str z, .int (i : Nat)]
def spDue (K : PySem.W.Frag) : Sp := fun vs H Q _ => ∃ (n : Int) (x y z : V) (bs ts ss : List Pl), vs = [.int n, x, y, z] ∧ Dp K H x (plsD bs) ∧ Dp K H y (plsD ts) ∧ Dp K H z (plsD ss) ∧ bs.length ≤ 100 ∧ ts.length ≤ 100 ∧ ss.length ≤ 100 ∧ (∀ p ∈ bs, p.1 ≠ .gone) ∧ (∀ p ∈ ts, p.1 ≠ .gone) ∧ (∀ p ∈ ss, p.1 ≠ .gone) ∧
  ∀ v H', Same H H' → Dp K H' v (dueD (errOf n bs ts ss)) → Q v H'
theorem eqv_nil : ∀ l : List Pl, PyData.eqv (plsD l) (.tuple []) = l.isEmpty
  | [] => rfl
  | p :: l => by simp [plsD, PyData.eqv, PyData.eqvAll]
theorem scDue : FnScope ["_law_hands", "_law_boxes", "_law_things", "_law_seals", "_law_part", "_law_places_here", "_law_most", "_law_index"] ["_law_hands", "_law_boxes", "_law_things", "_law_seals"] (defScope sDue) := ⟨rfl, rfl, rfl, by decide +kernel, rfl, by decide +kernel, by decide +kernel⟩
theorem ok_due {f g : Addr} {fd fdg : FuncData} (F : Fun K "_law_due" "_law_due" sDue f fd) (B : Bt mg)
    (G : FnOk P w K mg base CX0 1 g fdg ["_law_part", "_law_index", "_law_place", "_law_hands", "_law_boxes", "_law_seals"] (spLIsPl K)) (mG : mg "_law_is_place" = some (.ref g)) (kG : PySem.W.keepIn K (.ref g) = true) (bG : Binds K fdg ["_law_part", "_law_index", "_law_place", "_law_hands", "_law_boxes", "_law_seals"] []) :
    FnOk P w K mg base CX0 2 f fd ["_law_hands", "_law_boxes", "_law_things", "_law_seals"] (spDue K) := by
  refine F.ok scDue (fun vs H Q E h => ?_) (fun cdv A outer s H vs Q E hr h => ?_)
  · obtain ⟨n, x, y, z, bs, ts, ss, rfl, _⟩ := h
    rfl
  · obtain ⟨n, x, y, z, bs, ts, ss, rfl, hx, hy, hz, l1, l2, l3, g1, g2, g3, k⟩ := h
    have hr1 : Room 1 _ := hr.mono (by decide)
    have hu : (cxOf CX0 P w K mg base ["_law_hands", "_law_boxes", "_law_things", "_law_seals", "_law_part", "_law_places_here", "_law_most", "_law_index"] "_law_due" (defScope sDue) f cdv A outer s H E).nox.A.units + 64 < cLine := by have := hr.un; show (A.deeper _).units + 64 < cLine; omega
    refine ⟨_, pss_cons (ps_if (PW.pt (pw_or (pt_val (pe_callB call_isi (by rfl) B.isi (by decide +kernel) (pa_cons (pv 0) (pa_cons (pe_bltn (v := .ty "bool") (by rfl) B.bool (by decide +kernel) rfl) pa_nil)))) (pw_or1 (pt_not (pt_chain op_le op_le pe_int (pv 0) pe_int))))) (pss_one (ps_ret (pe_tup (pa_cons pe_str (pa_cons pe_str (pa_cons pe_int pa_nil)))))) pss_nil)
      (pss_cons (ps_for PassesOwn.never rfl (pi_list (pe_lst (pa_cons (pe_tup (pa_cons pe_str (pa_cons (pv 1) (pa_cons pe_int pa_nil)))) (pa_cons (pe_tup (pa_cons pe_str (pa_cons (pv 2) (pa_cons pe_int pa_nil)))) (pa_cons (pe_tup (pa_cons pe_str (pa_cons (pv 3) (pa_cons pe_int pa_nil)))) pa_nil))))) (pg_tup (by rfl) (pgs_cons (pg_name (i := 4) scDue.nd rfl (.inl rfl)) (pgs_cons (pg_name (i := 5) scDue.nd rfl (.inl rfl)) (pgs_cons (pg_name (i := 6) scDue.nd rfl (.inl rfl)) pgs_nil))))
        (pss_cons (ps_for PassesOwn.never rfl (pi_range1 rfl B.rng (pa_cons (pe_callB call_len_seq (by rfl) B.len PySem.boot_len (pa_cons (pv 5) pa_nil)) pa_nil)) (pg_name (i := 7) scDue.nd rfl (.inl rfl))
          (pss_cons (ps_if (pt_cmpR op_eq (pv 7) (pv 6) (nomark _)) (pss_one (ps_ret (pe_tup (pa_cons pe_str (pa_cons (pv 4) (pa_cons (pv 7) pa_nil)))))) pss_nil)
          (pss_one (ps_if (pt_not (pt_val (pe_call G hr1 rfl mG kG bG .nil pass0 (pa_cons (pv 4) (pa_cons (pv 7) (pa_cons (pe_ix ix_tup (pv 5) (pv 7) (fun _ _ => rfl)) (pa_cons (pv 0) (pa_cons (pe_callB call_len_seq (by rfl) B.len PySem.boot_len (pa_cons (pv 1) pa_nil)) (pa_cons (pv 3) pa_nil))))))))) (pss_one (ps_ret (pe_tup (pa_cons pe_str (pa_cons (pv 4) (pa_cons (pv 7) pa_nil)))))) pss_nil))))
        (pss_one (ps_if (PW.pt (pw_and (pt_cmpR op_eq (pv 4) pe_str (nomark _)) (pw_and1 (pt_cmpR (op_eqD hu) (pv 5) (pe_tup pa_nil) (nomark _))))) (pss_one (ps_ret (pe_tup (pa_cons pe_str (pa_cons (pv 4) (pa_cons pe_int pa_nil)))))) pss_nil))))
      (pss_one (ps_ret pe_str))), ?_⟩
    rw [err_rest] at k
    refine ⟨_, rfl, _, _, _, _, false, rfl, .ty "bool", .base (.int n), kit_ty (by decide +kernel), _, rfl, iteF ?_⟩
    have dd : ∀ (H0 : Hp) (p : Addr) (z : Str) (i : Nat) (j : Int), j = (i : Nat) → Dp K (L2.upd H0 p (.tup [.str ("InvalidHouse" : Str), .str z, .int j])) (.ref p) (dueD (some (z, i))) := fun H0 p z i j e => by
      subst e
      exact .tup (SqT.of upd_same) (.cons (.str _) (.cons (.str _) (.cons (.int _) .nil)))
    have two : (!numOk n 5 || decide (n = 0)) = !(decide ((1 : Int) ≤ n) && decide (n ≤ 4)) := by
      unfold numOk
      by_cases a1 : (1 : Int) ≤ n <;> by_cases a2 : n ≤ 4 <;> by_cases a3 : n = 0 <;> by_cases a4 : (0 : Int) ≤ n <;> by_cases a5 : n < 5 <;> simp [a1, a2, a3, a4, a5] <;> omega
    rw [two] at k
    refine ⟨_, rfl, _, _, rfl, rfl, _, rfl, ?_⟩
    have badh : (∀ v H', Same H H' → Dp K H' v (dueD (some (("hands" : Str), 0))) → Q v H') → tRet (tTup (tCons (tC (.str ("InvalidHouse" : Str))) (tCons (tC (.str ("hands" : Str))) (tCons (tC (.int 0)) tNil)))) { nx := fun _ H' => Q .non H', rt := Q } (L2.start ["_law_hands", "_law_boxes", "_law_things", "_law_seals", "_law_part", "_law_places_here", "_law_most", "_law_index"] [.int n, x, y, z]) H := fun kk => ⟨(by show 3 ≤ sizeLine; decide), fun p hp => kk _ _ (same_upd hp) (dd H p _ 0 0 rfl)⟩
    by_cases c1 : (1 : Int) ≤ n
    · rw [decide_eq_true c1] at k ⊢
      refine iteT ⟨_, _, rfl, rfl, _, rfl, ?_⟩
      by_cases c2 : n ≤ 4
      · rw [decide_eq_true c2] at k ⊢
        rw [if_neg (show ¬ (!(true && true)) = true by decide)] at k
        refine iteF ?_
        obtain ⟨ab, xb, rfl, qb, db, lb⟩ := pls_at hx
        obtain ⟨at', xt, rfl, qt, dt, lt⟩ := pls_at hy
        obtain ⟨as, xs, rfl, qs, ds, ls⟩ := pls_at hz
        refine ⟨_, rfl, (by show 3 ≤ sizeLine; decide), fun p1 hp1 => ⟨_, rfl, (by show 3 ≤ sizeLine; decide), fun p2 hp2 => ⟨_, rfl, (by show 3 ≤ sizeLine; decide), fun p3 hp3 => ⟨(by show 3 ≤ sizeLine; decide), fun L hL => ?_⟩⟩⟩⟩
        have f1 := same_upd (o := HO.tup [.str ("boxes" : Str), .ref ab, .int 3]) hp1
        have f2 := same_upd (o := HO.tup [.str ("things" : Str), .ref at', .int 4]) hp2
        have f3 := same_upd (o := HO.tup [.str ("seals" : Str), .ref as, .int 3]) hp3
        have f4 := same_upd (o := HO.lst [.ref p1, .ref p2, .ref p3]) hL
        have s1 := SqT.same (K := K) ((f2.trans f3).trans f4) (SqT.of (a := p1) upd_same)
        have s2 := SqT.same (K := K) (f3.trans f4) (SqT.of (a := p2) upd_same)
        have s3 := SqT.same (K := K) f4 (SqT.of (a := p3) upd_same)
        have sL : SqL K (L2.upd (L2.upd (L2.upd (L2.upd H p1 (.tup [.str ("boxes" : Str), .ref ab, .int 3])) p2 (.tup [.str ("things" : Str), .ref at', .int 4])) p3 (.tup [.str ("seals" : Str), .ref as, .int 3])) L (.lst [.ref p1, .ref p2, .ref p3])) L [V.ref p1, .ref p2, .ref p3] := SqL.of upd_same
        have e1 := ((f1.trans f2).trans f3).trans f4
        generalize L2.upd (L2.upd (L2.upd (L2.upd H p1 (.tup [.str ("boxes" : Str), .ref ab, .int 3])) p2 (.tup [.str ("things" : Str), .ref at', .int 4])) p3 (.tup [.str ("seals" : Str), .ref as, .int 3])) L (.lst [.ref p1, .ref p2, .ref p3]) = H1 at *
        have hel : ∀ (i : Nat) (x : V), [V.ref p1, .ref p2, .ref p3][i]? = some x → i < 3 ∧ ∃ (p ap : Addr) (xp : List V), x = .ref p ∧ SqT K H1 p [.str (ptOf i), .ref ap, .int (moOf i : Nat)] ∧ SqT K H1 ap xp ∧ DpAll K H1 xp ((plOf bs ts ss i).map plD) ∧ xp.length = (plOf bs ts ss i).length ∧ xp.length ≤ 100 ∧ (∀ q ∈ plOf bs ts ss i, q.1 ≠ .gone) := fun i x e => by
          match i with
          | 0 => exact ⟨by decide, p1, ab, xb, (Option.some.inj e).symm, s1, SqT.same e1 qb, Dp.sames e1 _ _ db, lb, by omega, g1⟩
          | 1 => exact ⟨by decide, p2, at', xt, (Option.some.inj e).symm, s2, SqT.same e1 qt, Dp.sames e1 _ _ dt, lt, by omega, g2⟩
          | 2 => exact ⟨by decide, p3, as, xs, (Option.some.inj e).symm, s3, SqT.same e1 qs, Dp.sames e1 _ _ ds, ls, by omega, g3⟩
          | i + 3 => simp at e
        refine ⟨L, rfl, ⟨_, sL⟩, for_list (K := K) (a := L) (xs := [V.ref p1, .ref p2, .ref p3]) (fun i σ H2 => ∃ v4 v5 v6 v7 : Option V, σ = [some (.int n), some (.ref ab), some (.ref at'), some (.ref as), v4, v5, v6, v7] ∧ Same H1 H2 ∧ restOf n bs ts ss 0 = restOf n bs ts ss i)
          ⟨_, _, _, _, rfl, Same.refl _, rfl⟩ (fun i σ H2 _ ⟨_, _, _, _, _, e, _⟩ => e.seq sL) ?_ ?_⟩
        · rintro i y σ H2 hi ⟨v4, v5, v6, v7, rfl, e, hr2⟩
          obtain ⟨i3, p, ap, xp, rfl, sp, sap, dap, lap, l100, gap⟩ := hel i y hi
          refine ⟨p, _, rfl, SqT.same e sp, rfl, _, _, rfl, _, _, rfl, _, _, rfl, rfl, ?_⟩
          refine ⟨_, rfl, ap, xp, rfl, .inr (SqT.same e sap), _, rfl, by omega, by omega, ?_⟩
          rw [show ((xp.length : Nat) : Int).toNat = xp.length by omega]
          rw [rest_at n bs ts ss i i3] at hr2
          refine for_range (lo := 0) (n := xp.length) (fun j σ H3 => ∃ v7 : Option V, σ = [some (.int n), some (.ref ab), some (.ref at'), some (.ref as), some (.str (ptOf i)), some (.ref ap), some (.int (moOf i : Nat)), v7] ∧ Same H1 H3 ∧ firstBad (badOf n bs ts ss i) 0 (plOf bs ts ss i) = firstBad (badOf n bs ts ss i) j ((plOf bs ts ss i).drop j))
            ⟨v7, rfl, e, by rw [List.drop_zero]⟩ ?_ ?_
          · rintro j σ H3 hj ⟨v7', rfl, e3, hb⟩
            rw [Int.zero_add]
            obtain ⟨q, hq⟩ : ∃ q, (plOf bs ts ss i)[j]? = some q := ⟨_, List.getElem?_eq_getElem (by omega)⟩
            obtain ⟨vq, hvq⟩ : ∃ v, xp[j]? = some v := ⟨_, List.getElem?_eq_getElem hj⟩
            obtain ⟨q', hq', dq⟩ := pls_get dap hvq
            have eqq : q' = q := Option.some.inj (hq'.symm.trans hq)
            subst eqq
            have gq := gap q' (by obtain ⟨h1, h2⟩ := List.getElem?_eq_some_iff.mp hq; rw [← h2]; exact List.getElem_mem h1)
            have ax : atI xp (j : Int) = some vq := atI_nat hvq
            rw [bad_at hq, bad_lp gq j i i3] at hb
            have ret : (decide (j = moOf i) || !lpOk (ptOf i) j q' n bs.length ss) = true → ∀ H4, Same H1 H4 → ∀ p : Addr, H4 p = none → Q (.ref p) (L2.upd H4 p (.tup [.str ("InvalidHouse" : Str), .str (ptOf i), .int (j : Nat)])) := fun c H4 e4 p hp => by
              rw [if_pos c] at hb
              rw [hb] at hr2
              rw [hr2] at k
              exact k _ _ ((e1.trans e4).trans (same_upd hp)) (dd H4 p _ j _ rfl)
            refine ⟨_, rfl, _, rfl, rfl, _, rfl, ?_⟩
            rw [decI]
            by_cases c3 : j = moOf i
            · rw [decide_eq_true c3] at ret ⊢
              exact iteT ⟨_, rfl, _, rfl, (by show 3 ≤ sizeLine; decide), ret rfl H3 e3⟩
            · rw [decide_eq_false c3] at ret hb ⊢
              refine iteF ⟨_, rfl, _, rfl, _, rfl, _, rfl, ap, xp, _, vq, rfl, rfl, SqT.same e3 sap, ax, _, rfl, _, rfl, ab, xb, rfl, .inr (SqT.same (e1.trans e3) qb), _, rfl, ptOf i, j, q', vq, n, xb.length, .ref as, ss, rfl, Dp.same e3 _ _ dq, Dp.same (e1.trans e3) _ _ hz, fun c5 => ?_, fun H4 e4 => ⟨_, rfl, ?_⟩⟩
              · match i, i3, c5 with
                | 0, _, c5 => exact absurd c5 (by decide +kernel)
                | 1, _, c5 => exact absurd c5 (by decide +kernel)
                | 2, _, _ => exact (List.getElem?_eq_some_iff.mp hq).1
                | i + 3, h, _ => exact absurd h (by omega)
              · rw [lb]
                cases cl : lpOk (ptOf i) j q' n bs.length ss with
                | false =>
                  rw [cl] at ret
                  exact iteT ⟨_, rfl, _, rfl, (by show 3 ≤ sizeLine; decide), ret rfl H4 (e3.trans e4)⟩
                | true =>
                  rw [cl] at hb
                  exact iteF ⟨_, rfl, e3.trans e4, hb⟩
          · rintro σ H3 ⟨v7', rfl, e3, hb⟩
            rw [lap, bad_end] at hb
            rw [hb] at hr2
            refine ⟨_, rfl, rfl, _, rfl, ?_⟩
            rw [decS]
            by_cases c4 : i = 0
            · subst c4
              refine iteT ⟨_, rfl, (by show 0 ≤ sizeLine; decide), fun p4 hp4 => ?_⟩
              have e4 := e3.trans (same_upd (o := HO.tup []) hp4)
              refine ⟨plsD bs, .tuple [], .tup (SqT.same e4 sap) (Dp.sames e4 _ _ dap), .tup (SqT.of upd_same) .nil, shaped_pls bs, rfl, _, rfl, ?_⟩
              rw [eqv_nil]
              cases bs with
              | nil =>
                rw [if_pos ⟨rfl, rfl⟩] at hr2
                rw [hr2] at k
                exact iteT ⟨_, rfl, (by show 3 ≤ sizeLine; decide), fun p hp => k _ _ ((e1.trans e4).trans (same_upd hp)) (dd _ p _ 0 _ rfl)⟩
              | cons b r =>
                rw [if_neg (fun z => by cases z.2)] at hr2
                exact iteF ⟨_, _, _, _, rfl, e4, hr2⟩
            · have np : ¬ ptOf i = ("boxes" : Str) := by
                match i, i3, c4 with
                | 0, _, c5 => exact absurd rfl c5
                | 1, _, _ => decide +kernel
                | 2, _, _ => decide +kernel
                | i + 3, h, _ => exact absurd h (by omega)
              rw [decide_eq_false np]
              rw [if_neg (fun z => c4 z.1)] at hr2
              exact iteF (iteF ⟨_, _, _, _, rfl, e3, hr2⟩)
        · rintro σ H2 ⟨v4, v5, v6, v7, rfl, e, hr2⟩
          have h3 : restOf n bs ts ss 0 = none := hr2
          rw [h3] at k
          exact k _ _ (e1.trans e) (.str _)
      · rw [decide_eq_false c2] at k ⊢
        rw [if_pos (show (!(true && false)) = true by decide)] at k
        exact iteT (badh k)
    · rw [decide_eq_false c1] at k ⊢
      rw [if_pos (show (!(false && decide (n ≤ 4))) = true by rfl)] at k
      exact iteF ⟨_, rfl, iteT (badh k)⟩
end
end Kw

set_option Elab.async false
set_option linter.all false
set_option maxRecDepth 100000
set_option maxHeartbeats 4000000
namespace Kw
open PySem PySem.Spec PyProof.Rows L2
section
variable {P : Program} {w : World} {K : PySem.W.Frag} {mg : Str → Option Value} {base : Heap}
/-! ### _law_rows -/
def spRows (K : PySem.W.Frag) : Sp := fun vs H Q _ => ∃ (b l : Addr) (m o : Int), vs = [.ref b, .int m, .int o] ∧ 0 ≤ m ∧ m ≤ 5 ∧ 0 ≤ o ∧ o ≤ 1 ∧ BoxAt H b l ∧ ∀ v ps H', Dp K H' v (plsD ps) → ps.length ≤ 10 → (∀ p ∈ ps, p.1 ≠ .gone) → BoxAt H' b l → Kb b l H H' → Q v H'
theorem scRows : FnScope ["_law_box", "_law_most", "_law_odd", "_law_found", "_law_index", "_law_number"] ["_law_box", "_law_most", "_law_odd"] (defScope sRows) := ⟨rfl, rfl, rfl, by decide +kernel, rfl, by decide +kernel, by decide +kernel⟩
theorem ok_rows {f gT : Addr} {fd fdT : FuncData} (F : Fun K "_law_rows" "_law_rows" sRows f fd) (B : Bt mg)
    (GT : FnOk P w K mg base CX0 1 gT fdT ["_law_box", "_law_many"] spTake) (mT : mg "_law_take" = some (.ref gT)) (kT : PySem.W.keepIn K (.ref gT) = true) (bT : Binds K fdT ["_law_box", "_law_many"] []) :
    FnOk P w K mg base CX0 2 f fd ["_law_box", "_law_most", "_law_odd"] (spRows K) := by
  refine F.ok scRows (fun vs H Q E h => ?_) (fun cdv A outer s H vs Q E hr h => ?_)
  · obtain ⟨b, l, m, o, rfl, _⟩ := h
    rfl
  · obtain ⟨b, l, m, o, rfl, m0, m1, o0, o1, hB, k⟩ := h
    have hr1 : Room 1 _ := hr.mono (by decide)
    refine ⟨_, pss_cons (ps_set (i := 3) scRows.nd rfl (.inl rfl) (pe_lst pa_nil))
      (pss_cons (ps_for PassesOwn.never rfl (pi_range1 rfl B.rng (pa_cons (pe_call GT hr1 rfl mT kT bT .nil pass0 (pa_cons (pv 0) (pa_cons (pe_op op_add (pe_op op_add (pv 1) pe_int) (pv 2)) pa_nil))) pa_nil)) (pg_name (i := 4) scRows.nd rfl (.inl rfl))
        (pss_cons (ps_set (i := 5) scRows.nd rfl (.inl rfl) (pe_op op_sub (pe_call GT hr1 rfl mT kT bT .nil pass0 (pa_cons (pv 0) (pa_cons (pe_op op_add pe_int (pv 2)) pa_nil)))
            (pe_op op_mul (pv 2) (pe_callTy call_int1 (by rfl) B.int (by decide +kernel) (pa_cons (pe_cmpR op_eq (pe_call GT hr1 rfl mT kT bT .nil pass0 (pa_cons (pv 0) (pa_cons pe_int pa_nil))) pe_int (nomark _)) pa_nil)))))
        (pss_one (ps_expr (pe_bm PySem.F.plainAttrs_list PySem.F.slot_list_append PySem.F.type_list_append mt_append (pv 3)
          (pa_cons (pe_tup (pa_cons (pe_ix ix_list (pe_lst (pa_cons pe_str (pa_cons pe_str pa_nil))) (pe_call GT hr1 rfl mT kT bT .nil pass0 (pa_cons (pv 0) (pa_cons pe_int pa_nil))) (fun _ _ => rfl))
            (pa_cons (pe_ifExp (PW.pt (pw_or (pt_cmpR op_eq (pv 2) pe_int (nomark _)) (pw_or1 (pt_cmpR op_gt (pe_call GT hr1 rfl mT kT bT .nil pass0 (pa_cons (pv 0) (pa_cons pe_int pa_nil))) pe_int (nomark _))))) (pv 5) pe_int) pa_nil))) pa_nil))))))
      (pss_one (ps_ret (pe_callTy call_tuple_of (by rfl) B.tup (by decide +kernel) (pa_cons (pv 3) pa_nil))))), ?_⟩
    refine ⟨(by show 0 ≤ sizeLine; decide), fun D hD => ?_⟩
    obtain ⟨nb, nl⟩ := hB.neL hD
    have hB1 := hB.updD (o := .lst []) nb nl
    have k1 : Kb b l H (L2.upd H D (.lst [])) := (Kb.refl b l H).updD hD
    refine ⟨_, rfl, _, rfl, _, _, rfl, rfl, _, rfl, _, _, rfl, rfl, b, l, m + 1 + o, rfl, by omega, by omega, hB1, fun r H1 r0 r1 hB2 k2 => ⟨r, rfl, by omega, by omega, ?_⟩⟩
    refine for_range (lo := 0) (n := r.toNat) (fun i σ H2 => ∃ (v4 v5 : Option V) (xs : List V) (ps : List Pl), σ = [some (.ref b), some (.int m), some (.int o), some (.ref D), v4, v5] ∧ Kb b l H H2 ∧ BoxAt H2 b l ∧ H2 D = some (.lst xs) ∧ DpAll K H2 xs (ps.map plD) ∧ ps.length = i ∧ ∀ p ∈ ps, p.1 ≠ Wd.gone)
      ⟨none, none, [], [], rfl, k1.trans k2, hB2, k2.kp.ls D _ upd_same nb nl, .nil, rfl, fun p hp => by cases hp⟩ ?_ ?_
    · rintro i σ H2 hi ⟨v4, v5, xs, ps, rfl, kb, hB3, hxs, dx, lx, gx⟩
      refine ⟨_, rfl, _, rfl, _, _, rfl, rfl, b, l, 3 + o, rfl, by omega, by omega, hB3, fun z H3 z0 z1 hB4 k4 => ⟨_, rfl, _, rfl, b, l, 9, rfl, by decide, by decide, hB4, fun z9 H4 z90 z91 hB5 k5 => ⟨rfl, .inr ⟨_, rfl, _, _, rfl, rfl, .inl (by constructor <;> omega), _, _, rfl, rfl, ?_⟩⟩⟩⟩
      have kH4 : Kb b l H H4 := (kb.trans k4).trans k5
      have hD4 : H4 D = some (.lst xs) := k5.kp.ls D _ (k4.kp.ls D _ hxs nb nl) nb nl
      have dx4 : DpAll K H4 xs (ps.map plD) := Dp.nls k5.nl _ _ (noLs_map _ noL_pl _) (Dp.nls k4.nl _ _ (noLs_map _ noL_pl _) dx)
      have fin : ∀ (wd : Wd) (num : Int) (σ : L2.St) (v5 : Option V) (H6 : Hp), wd ≠ .gone → σ = [some (.ref b), some (.int m), some (.int o), some (.ref D), some (.int (0 + (i : Int))), v5] → Kb b l H H6 → BoxAt H6 b l → H6 D = some (.lst xs) → DpAll K H6 xs (ps.map plD) → ∀ p : Addr, H6 p = none →
          rAppend (.ref D) [.ref p] (L2.upd H6 p (.tup [.str wd.str, .int num])) fun _ H2 => ∃ (v4 v5 : Option V) (xs : List V) (ps : List Pl), σ = [some (.ref b), some (.int m), some (.int o), some (.ref D), v4, v5] ∧ Kb b l H H2 ∧ BoxAt H2 b l ∧ H2 D = some (.lst xs) ∧ DpAll K H2 xs (ps.map plD) ∧ ps.length = i + 1 ∧ ∀ p ∈ ps, p.1 ≠ Wd.gone :=
        fun wd num σ v5 H6 hw eσ k6 hB6 hD6 dx6 p hp => by
          subst eσ
          have e7 : Same H6 (L2.upd H6 p (.tup [.str wd.str, .int num])) := same_upd hp
          have hD7 := e7 _ _ hD6
          have lxs : xs.length = ps.length := by rw [DpAll.len dx6, List.length_map]
          have pl : Dp K (L2.upd H6 p (.tup [.str wd.str, .int num])) (.ref p) (plD (wd, num)) := .tup (SqT.of upd_same) (.cons (.str _) (.cons (.int _) .nil))
          have tp := tp_lst (o := HO.lst (xs ++ [V.ref p])) hD7
          refine ⟨D, xs, _, rfl, rfl, hD7, by rw [sizeLine_eq]; omega, _, _, xs ++ [.ref p], ps ++ [(wd, num)], rfl, ?_, ?_, upd_same, ?_, by rw [List.length_append, lx]; rfl, fun q hq => ?_⟩
          · exact (k6.trans (Kb.same e7)).updD hD
          · exact (hB6.same e7).updD nb nl
          · rw [List.map_append]
            exact DpAll.app (Dp.tps tp _ _ (noLs_map _ noL_pl _) (Dp.sames e7 _ _ dx6)) (.cons (Dp.tp tp _ _ (noL_pl _) pl) .nil)
          · rcases List.mem_append.mp hq with z | z
            · exact gx q z
            · rw [List.mem_singleton.mp z]
              exact hw
      refine ⟨_, rfl, .inl ⟨rfl, _, SqL.of hD4⟩, (by show 2 ≤ sizeLine; decide), fun p1 hp1 => ?_⟩
      have e5 := same_upd (o := HO.lst [V.str ("hand" : Str), V.str ("box" : Str)]) hp1
      have hB5' := hB5.same e5
      have nb1 : p1 ≠ b ∧ p1 ≠ l := hB5.neL hp1
      refine ⟨_, rfl, b, l, 2, rfl, by decide, by decide, hB5', fun w H5 w0 w1 hB6 k6 => ?_⟩
      have kH5 := (kH4.trans (Kb.same e5)).trans k6
      have hD5 : H5 D = some (.lst xs) := k6.kp.ls D _ (e5 _ _ hD4) nb nl
      have hL5 : SqL K H5 p1 [V.str ("hand" : Str), V.str ("box" : Str)] := SqL.of (k6.kp.ls p1 _ upd_same nb1.1 nb1.2)
      have dx5 : DpAll K H5 xs (ps.map plD) := Dp.nls k6.nl _ _ (noLs_map _ noL_pl _) (Dp.sames e5 _ _ dx4)
      obtain ⟨wd, hwd, hat⟩ : ∃ wd : Wd, wd ≠ .gone ∧ atI [V.str ("hand" : Str), V.str ("box" : Str)] w = some (.str wd.str) := by
        have : w = 0 ∨ w = 1 := by omega
        rcases this with rfl | rfl
        · exact ⟨.hand, by decide, rfl⟩
        · exact ⟨.box, by decide, rfl⟩
      refine ⟨p1, _, w, _, rfl, rfl, hL5, hat, _, rfl, rfl, _, rfl, ?_⟩
      rw [decZ o 0]
      by_cases c0 : o = 0
      · rw [decide_eq_true c0]
        refine iteT (iteT ⟨_, rfl, (by show 2 ≤ sizeLine; decide), fun p hp => ?_⟩)
        exact fin wd _ _ _ H5 hwd rfl kH5 hB6 hD5 dx5 p hp
      · rw [decide_eq_false c0]
        refine iteF ⟨_, rfl, b, l, 20, rfl, by decide, by decide, hB6, fun u H6 u0 u1 hB7 k7 => ⟨_, _, rfl, rfl, _, rfl, ?_⟩⟩
        have kH6 := kH5.trans k7
        have hD6 : H6 D = some (.lst xs) := k7.kp.ls D _ hD5 nb nl
        have dx6 : DpAll K H6 xs (ps.map plD) := Dp.nls k7.nl _ _ (noLs_map _ noL_pl _) dx5
        cases decide (0 < u) with
        | true => exact iteT ⟨_, rfl, (by show 2 ≤ sizeLine; decide), fun p hp => fin wd _ _ _ H6 hwd rfl kH6 hB7 hD6 dx6 p hp⟩
        | false => exact iteF ⟨(by show 2 ≤ sizeLine; decide), fun p hp => fin wd _ _ _ H6 hwd rfl kH6 hB7 hD6 dx6 p hp⟩
    · rintro σ H2 ⟨v4, v5, xs, ps, rfl, kb, hB3, hxs, dx, lx, gx⟩
      refine ⟨_, rfl, D, xs, rfl, .inl ⟨SqL.of hxs, fun p hp => ?_⟩⟩
      exact k _ ps _ (.tup (SqT.of upd_same) (Dp.sames (same_upd hp) _ _ dx)) (by omega) gx (hB3.same (same_upd hp)) (kb.trans (Kb.same (same_upd hp)))
end
end Kw

set_option Elab.async false
set_option linter.all false
set_option maxRecDepth 100000
set_option maxHeartbeats 4000000
namespace Kw
open PySem PySem.Spec PyProof.Rows L2
section
variable {P : Program} {w : World} {K : PySem.W.Frag} {mg : Str → Option Value} {base : Heap}
/-! ### _law_error -/
def KindAt (K : PySem.W.Frag) (mg : Str → Option Value) (CE : Addr) (x : Str) (b : Bool) : Prop := ∃ c, mg x = some (.ref c) ∧ PySem.W.kitOne K (.ref CE) (.ref c) = some b
structure ErrF (K : PySem.W.Frag) (mg : Str → Option Value) (CE CW : Addr) : Prop where
  exc : ExcC K CE
  xf : XfC K CE
  nP : PySem.W.findIn K (.ref CE) "part" = some none
  nI : PySem.W.findIn K (.ref CE) "index" = some none
  wat : mg "WatchError" = some (.ref CW)
  exm : PySem.W.exmOne K (.ref CE) (.ref CW) = some true
  ve : mg "ValueError" = none
  kve : PySem.W.kitOne K (.ref CE) (.type "ValueError") = some true
  kInsideItself : KindAt K mg CE "InsideItself" false
  kInvalidCourse : KindAt K mg CE "InvalidCourse" false
  kInvalidHands : KindAt K mg CE "InvalidHands" false
  kInvalidHouse : KindAt K mg CE "InvalidHouse" true
  kInvalidLog : KindAt K mg CE "InvalidLog" false
  kInvalidNumber : KindAt K mg CE "InvalidNumber" false
  kIsSealed : KindAt K mg CE "IsSealed" false
  kNoCourse : KindAt K mg CE "NoCourse" false
  kNotHeld : KindAt K mg CE "NotHeld" false
  kNotInside : KindAt K mg CE "NotInside" false
  kNotSealed : KindAt K mg CE "NotSealed" false
  kUnknownBox : KindAt K mg CE "UnknownBox" false
  kUnknownHand : KindAt K mg CE "UnknownHand" false
  kUnknownItem : KindAt K mg CE "UnknownItem" false
  kUnknownSeal : KindAt K mg CE "UnknownSeal" false
theorem tcat {σ : L2.St} {H : Hp} {Q : VK} {i : Nat} {l : Addr} {xs vs : List V} {args : TA} (h0 : σ[i]? = some (some (.ref l))) (h1 : H l = some (.lst xs)) (ha : ∀ R : List V → Hp → Prop, R vs H → args σ H R) (hl : xs.length + vs.length ≤ sizeLine)
    (k : ∀ (p : Addr) H', Same H H' → H' p = some (.lst (xs ++ vs)) → Q (.ref p) H') : tOp rCat (tVar i) (tLst args) σ H Q :=
  ⟨_, h0, ha _ ⟨by omega, fun p hp => ⟨l, p, xs, vs, rfl, rfl, (same_upd hp) _ _ h1, upd_same, hl, fun p2 hp2 => k _ _ (Same.upd2 (same_upd hp) hp2) upd_same⟩⟩⟩
theorem tisi {σ : L2.St} {H : Hp} {Q : VK} {CE a dd c : Addr} {b : Bool} {fs : List (Str × V)} (h0 : σ[1]? = some (some (.ref a))) (hd : H dd = some (.xd fs)) (ki : PySem.W.kitOne K (.ref CE) (.ref c) = some b) (q : Q (.bl b) H) :
    tCB (fun xs H Q => (∀ d, some dd = some d → ∃ fs, H d = some (.xd fs)) ∧ rIsE K CE a xs H Q) (tCons (tVar 1) (tCons (tC (.ref c)) tNil)) σ H Q :=
  ⟨_, h0, fun d e => by cases e; exact ⟨_, hd⟩, .ref c, .ref c, b, rfl, fun _ z => z, ki, q⟩
def errOut (CE : Addr) (Q : VK) : XK := fun cls d H' => cls = .ref CE ∧ ∃ (dd : Addr) (z : Str) (i : Nat), d = some dd ∧ H' dd = some (.xd (ihFs z i)) ∧ ∀ v H2, Same H' H2 → Dp K H2 v (dueD (some (z, i))) → Q v H2
def TErr (K : PySem.W.Frag) (CE : Addr) : (XK → Hp → VK → Prop) → Hp → VK → Prop := fun tl H Q => tl (errOut (K := K) CE Q) H (fun _ H' => Q (.str "") H')
theorem scErr : FnScope ["_law_work", "error", "_law_kinds", "_law_names", "_law_name"] ["_law_work"] (defScope sErr) := ⟨rfl, rfl, rfl, by decide +kernel, rfl, by decide +kernel, by decide +kernel⟩
def kindsV : List Bool := [false, false, false, true, false, false, false, false, false, false, false, false, false, false, false]
def namesV : List Str := ["InsideItself", "InvalidCourse", "InvalidHands", "InvalidHouse", "InvalidLog", "InvalidNumber", "IsSealed", "NoCourse", "NotHeld", "NotInside", "NotSealed", "UnknownBox", "UnknownHand", "UnknownItem", "UnknownSeal"]
theorem fs_part (z : Str) (i : Int) : (ihFs z i).lookup ("part" : Str) = some (.str z) := by
  unfold ihFs
  rw [List.lookup_cons, show (("part" : Str) == ("index" : Str)) = false from by decide +kernel]
  rfl
theorem fs_index (z : Str) (i : Int) : (ihFs z i).lookup ("index" : Str) = some (.int i) := by
  unfold ihFs
  rw [List.lookup_cons, show (("index" : Str) == ("index" : Str)) = true from by decide +kernel]
theorem iteFe {b : Bool} {A B : Prop} (hb : b = false) (h : B) : if b = true then A else B := by
  rw [hb]
  exact iteF h
theorem iteTe {b : Bool} {A B : Prop} (hb : b = true) (h : A) : if b = true then A else B := by
  rw [hb]
  exact iteT h
def errSuite : List Stmt := match defBody sErr with
  | .Try _ (.ExceptHandler _ _ s _ :: _) _ _ _ :: _ => s
  | _ => []
theorem err_suite {g : Addr} {cdg : Value} {A : Around} {outer : List Env} {s0 : Shared} {H0 : Hp} {CE CW a : Addr} {oe : Obj} {dd : Addr} {pn : List (Addr × Obj)} (T : ErrF K mg CE CW) (B : Bt mg) (hz : Zc (.ref CE) (some dd) oe) (hf : ∃ vs, oe.data = .fields vs)
    (D : Ends) (σ : L2.St) (H : Hp) (v0 v2 v3 v4 : Option V) (z : Str) (i : Nat) (hσ : σ = [v0, some (.ref a), v2, v3, v4]) (hh : H dd = some (.xd (ihFs z i))) (k : ∀ v H2, Same H H2 → Dp K H2 v (dueD (some (z, i))) → D.rt v H2) :
      ∃ T, PSs (Cx.suite ((cxOf CX0 P w K mg base ["_law_work", "error", "_law_kinds", "_law_names", "_law_name"] "_law_error" (defScope sErr) g cdg A outer s0 H0 E0).nox) a ((a, oe) :: pn)) errSuite T ∧ T D σ H := by
    obtain ⟨cInsideItself, mInsideItself, qInsideItself⟩ := T.kInsideItself
    obtain ⟨cInvalidCourse, mInvalidCourse, qInvalidCourse⟩ := T.kInvalidCourse
    obtain ⟨cInvalidHands, mInvalidHands, qInvalidHands⟩ := T.kInvalidHands
    obtain ⟨cInvalidHouse, mInvalidHouse, qInvalidHouse⟩ := T.kInvalidHouse
    obtain ⟨cInvalidLog, mInvalidLog, qInvalidLog⟩ := T.kInvalidLog
    obtain ⟨cInvalidNumber, mInvalidNumber, qInvalidNumber⟩ := T.kInvalidNumber
    obtain ⟨cIsSealed, mIsSealed, qIsSealed⟩ := T.kIsSealed
    obtain ⟨cNoCourse, mNoCourse, qNoCourse⟩ := T.kNoCourse
    obtain ⟨cNotHeld, mNotHeld, qNotHeld⟩ := T.kNotHeld
    obtain ⟨cNotInside, mNotInside, qNotInside⟩ := T.kNotInside
    obtain ⟨cNotSealed, mNotSealed, qNotSealed⟩ := T.kNotSealed
    obtain ⟨cUnknownBox, mUnknownBox, qUnknownBox⟩ := T.kUnknownBox
    obtain ⟨cUnknownHand, mUnknownHand, qUnknownHand⟩ := T.kUnknownHand
    obtain ⟨cUnknownItem, mUnknownItem, qUnknownItem⟩ := T.kUnknownItem
    obtain ⟨cUnknownSeal, mUnknownSeal, qUnknownSeal⟩ := T.kUnknownSeal
    refine ⟨_, (pss_cons (ps_set (i := 2) scErr.nd rfl (.inl rfl) (pe_lst (pa_cons (pe_callB (call_isO T.exc hz hf) (by rfl) B.isi (by decide +kernel) (pa_cons (pv 1) (pa_cons (pe_glob (v := .ref cInsideItself) rfl mInsideItself rfl) pa_nil))) (pa_cons (pe_callB (call_isO T.exc hz hf) (by rfl) B.isi (by decide +kernel) (pa_cons (pv 1) (pa_cons (pe_glob (v := .ref cInvalidCourse) rfl mInvalidCourse rfl) pa_nil))) (pa_cons (pe_callB (call_isO T.exc hz hf) (by rfl) B.isi (by decide +kernel) (pa_cons (pv 1) (pa_cons (pe_glob (v := .ref cInvalidHands) rfl mInvalidHands rfl) pa_nil))) pa_nil)))))
        (pss_cons (ps_set (i := 2) scErr.nd rfl (.inl rfl) (pe_op op_cat (pv 2) (pe_lst (pa_cons (pe_callB (call_isO T.exc hz hf) (by rfl) B.isi (by decide +kernel) (pa_cons (pv 1) (pa_cons (pe_glob (v := .ref cInvalidHouse) rfl mInvalidHouse rfl) pa_nil))) (pa_cons (pe_callB (call_isO T.exc hz hf) (by rfl) B.isi (by decide +kernel) (pa_cons (pv 1) (pa_cons (pe_glob (v := .ref cInvalidLog) rfl mInvalidLog rfl) pa_nil))) pa_nil)))))
        (pss_cons (ps_set (i := 2) scErr.nd rfl (.inl rfl) (pe_op op_cat (pv 2) (pe_lst (pa_cons (pe_callB (call_isO T.exc hz hf) (by rfl) B.isi (by decide +kernel) (pa_cons (pv 1) (pa_cons (pe_glob (v := .ref cInvalidNumber) rfl mInvalidNumber rfl) pa_nil))) (pa_cons (pe_callB (call_isO T.exc hz hf) (by rfl) B.isi (by decide +kernel) (pa_cons (pv 1) (pa_cons (pe_glob (v := .ref cIsSealed) rfl mIsSealed rfl) pa_nil))) (pa_cons (pe_callB (call_isO T.exc hz hf) (by rfl) B.isi (by decide +kernel) (pa_cons (pv 1) (pa_cons (pe_glob (v := .ref cNoCourse) rfl mNoCourse rfl) pa_nil))) pa_nil))))))
        (pss_cons (ps_set (i := 2) scErr.nd rfl (.inl rfl) (pe_op op_cat (pv 2) (pe_lst (pa_cons (pe_callB (call_isO T.exc hz hf) (by rfl) B.isi (by decide +kernel) (pa_cons (pv 1) (pa_cons (pe_glob (v := .ref cNotHeld) rfl mNotHeld rfl) pa_nil))) (pa_cons (pe_callB (call_isO T.exc hz hf) (by rfl) B.isi (by decide +kernel) (pa_cons (pv 1) (pa_cons (pe_glob (v := .ref cNotInside) rfl mNotInside rfl) pa_nil))) (pa_cons (pe_callB (call_isO T.exc hz hf) (by rfl) B.isi (by decide +kernel) (pa_cons (pv 1) (pa_cons (pe_glob (v := .ref cNotSealed) rfl mNotSealed rfl) pa_nil))) pa_nil))))))
        (pss_cons (ps_set (i := 2) scErr.nd rfl (.inl rfl) (pe_op op_cat (pv 2) (pe_lst (pa_cons (pe_callB (call_isO T.exc hz hf) (by rfl) B.isi (by decide +kernel) (pa_cons (pv 1) (pa_cons (pe_glob (v := .ref cUnknownBox) rfl mUnknownBox rfl) pa_nil))) (pa_cons (pe_callB (call_isO T.exc hz hf) (by rfl) B.isi (by decide +kernel) (pa_cons (pv 1) (pa_cons (pe_glob (v := .ref cUnknownHand) rfl mUnknownHand rfl) pa_nil))) pa_nil)))))
        (pss_cons (ps_set (i := 2) scErr.nd rfl (.inl rfl) (pe_op op_cat (pv 2) (pe_lst (pa_cons (pe_callB (call_isO T.exc hz hf) (by rfl) B.isi (by decide +kernel) (pa_cons (pv 1) (pa_cons (pe_glob (v := .ref cUnknownItem) rfl mUnknownItem rfl) pa_nil))) (pa_cons (pe_callB (call_isO T.exc hz hf) (by rfl) B.isi (by decide +kernel) (pa_cons (pv 1) (pa_cons (pe_glob (v := .ref cUnknownSeal) rfl mUnknownSeal rfl) pa_nil))) pa_nil)))))
        (pss_cons (ps_set (i := 3) scErr.nd rfl (.inl rfl) (pe_lst (pa_cons pe_str (pa_cons pe_str (pa_cons pe_str (pa_cons pe_str (pa_cons pe_str (pa_cons pe_str pa_nil))))))))
        (pss_cons (ps_set (i := 3) scErr.nd rfl (.inl rfl) (pe_op op_cat (pv 3) (pe_lst (pa_cons pe_str (pa_cons pe_str (pa_cons pe_str (pa_cons pe_str (pa_cons pe_str (pa_cons pe_str (pa_cons pe_str pa_nil))))))))))
        (pss_cons (ps_set (i := 3) scErr.nd rfl (.inl rfl) (pe_op op_cat (pv 3) (pe_lst (pa_cons pe_str (pa_cons pe_str pa_nil)))))
        (pss_cons (ps_if (PW.pt (pw_or (pt_cmpR op_ne (pe_bm PySem.F.plainAttrs_list PySem.F.slot_list_count PySem.F.type_list_count mt_countB (pv 2) (pa_cons pe_bl pa_nil)) pe_int (nomark _))
        (pw_or1 (pt_not (pt_val (pe_callB (call_isO T.exc hz hf) (by rfl) B.isi (by decide +kernel) (pa_cons (pv 1) (pa_cons (pe_bltn (v := .ty "ValueError") (by rfl) T.ve (by decide +kernel) rfl) pa_nil)))))))) (pss_one (ps_ret pe_str)) pss_nil)
        (pss_cons (ps_set (i := 4) scErr.nd rfl (.inl rfl) (pe_ix ix_list (pv 3) (pe_bm PySem.F.plainAttrs_list PySem.F.slot_list_index PySem.F.type_list_index mt_index (pv 2) (pa_cons pe_bl pa_nil)) (fun _ _ => rfl)))
        (pss_cons (ps_if (pt_cmpR op_eq (pv 4) pe_str (nomark _)) (pss_one (ps_ret (pe_tup (pa_cons (pv 4) (pa_cons (pe_xf T.xf T.nP hz hf (pv 1)) (pa_cons (pe_xf T.xf T.nI hz hf (pv 1)) pa_nil)))))) pss_nil)
        (pss_one (ps_ret (pe_ifExp (pt_cmpR op_in_seq (pv 4) (pe_tup (pa_cons pe_str (pa_cons pe_str pa_nil))) (by rfl)) (pe_tup (pa_cons (pv 4) (pa_cons (pe_xf T.xf T.nI hz hf (pv 1)) pa_nil))) (pv 4)))))))))))))))), ?_⟩
    subst hσ
    refine (tisi rfl hh qInsideItself (tisi rfl hh qInvalidCourse (tisi rfl hh qInvalidHands ⟨(by show 3 ≤ sizeLine; decide), fun p1 hp1 => ?_⟩)))
    have e1 := same_upd (o := HO.lst [V.bl false, V.bl false, V.bl false]) hp1
    have h1 : (L2.upd H p1 (.lst [V.bl false, V.bl false, V.bl false])) p1 = some (.lst [V.bl false, V.bl false, V.bl false]) := upd_same
    have hh1 := e1 _ _ hh
    generalize L2.upd H p1 (.lst [V.bl false, V.bl false, V.bl false]) = H1 at *
    refine tcat (xs := [V.bl false, V.bl false, V.bl false]) (vs := [V.bl true, V.bl false]) rfl h1 (fun R r => (tisi rfl hh1 qInvalidHouse (tisi rfl hh1 qInvalidLog r))) (by decide +kernel) (fun p2 H2 f2 h2 => ?_)
    have e2 := e1.trans f2
    have hh2 := e2 _ _ hh
    refine tcat (xs := [V.bl false, V.bl false, V.bl false, V.bl true, V.bl false]) (vs := [V.bl false, V.bl false, V.bl false]) rfl h2 (fun R r => (tisi rfl hh2 qInvalidNumber (tisi rfl hh2 qIsSealed (tisi rfl hh2 qNoCourse r)))) (by decide +kernel) (fun p3 H3 f3 h3 => ?_)
    have e3 := e2.trans f3
    have hh3 := e3 _ _ hh
    refine tcat (xs := [V.bl false, V.bl false, V.bl false, V.bl true, V.bl false, V.bl false, V.bl false, V.bl false]) (vs := [V.bl false, V.bl false, V.bl false]) rfl h3 (fun R r => (tisi rfl hh3 qNotHeld (tisi rfl hh3 qNotInside (tisi rfl hh3 qNotSealed r)))) (by decide +kernel) (fun p4 H4 f4 h4 => ?_)
    have e4 := e3.trans f4
    have hh4 := e4 _ _ hh
    refine tcat (xs := [V.bl false, V.bl false, V.bl false, V.bl true, V.bl false, V.bl false, V.bl false, V.bl false, V.bl false, V.bl false, V.bl false]) (vs := [V.bl false, V.bl false]) rfl h4 (fun R r => (tisi rfl hh4 qUnknownBox (tisi rfl hh4 qUnknownHand r))) (by decide +kernel) (fun p5 H5 f5 h5 => ?_)
    have e5 := e4.trans f5
    have hh5 := e5 _ _ hh
    refine tcat (xs := [V.bl false, V.bl false, V.bl false, V.bl true, V.bl false, V.bl false, V.bl false, V.bl false, V.bl false, V.bl false, V.bl false, V.bl false, V.bl false]) (vs := [V.bl false, V.bl false]) rfl h5 (fun R r => (tisi rfl hh5 qUnknownItem (tisi rfl hh5 qUnknownSeal r))) (by decide +kernel) (fun p6 H6 f6 h6 => ?_)
    have e6 := e5.trans f6
    have hh6 := e6 _ _ hh
    refine ⟨(by show 6 ≤ sizeLine; decide), fun p7 hp7 => ?_⟩
    have f7 := same_upd (o := HO.lst [V.str ("InsideItself" : Str), V.str ("InvalidCourse" : Str), V.str ("InvalidHands" : Str), V.str ("InvalidHouse" : Str), V.str ("InvalidLog" : Str), V.str ("InvalidNumber" : Str)]) hp7
    have h7 : (L2.upd H6 p7 (.lst [V.str ("InsideItself" : Str), V.str ("InvalidCourse" : Str), V.str ("InvalidHands" : Str), V.str ("InvalidHouse" : Str), V.str ("InvalidLog" : Str), V.str ("InvalidNumber" : Str)])) p7 = some (.lst [V.str ("InsideItself" : Str), V.str ("InvalidCourse" : Str), V.str ("InvalidHands" : Str), V.str ("InvalidHouse" : Str), V.str ("InvalidLog" : Str), V.str ("InvalidNumber" : Str)]) := upd_same
    generalize L2.upd H6 p7 (.lst [V.str ("InsideItself" : Str), V.str ("InvalidCourse" : Str), V.str ("InvalidHands" : Str), V.str ("InvalidHouse" : Str), V.str ("InvalidLog" : Str), V.str ("InvalidNumber" : Str)]) = H7 at *
    have e7 := e6.trans f7
    have hK7 := f7 _ _ h6
    refine tcat (xs := [V.str ("InsideItself" : Str), V.str ("InvalidCourse" : Str), V.str ("InvalidHands" : Str), V.str ("InvalidHouse" : Str), V.str ("InvalidLog" : Str), V.str ("InvalidNumber" : Str)]) (vs := [V.str ("IsSealed" : Str), V.str ("NoCourse" : Str), V.str ("NotHeld" : Str), V.str ("NotInside" : Str), V.str ("NotSealed" : Str), V.str ("UnknownBox" : Str), V.str ("UnknownHand" : Str)]) rfl h7 (fun R r => r) (by decide +kernel) (fun p8 H8 f8 h8 => ?_)
    have e8 := e7.trans f8
    have hK8 := f8 _ _ hK7
    refine tcat (xs := [V.str ("InsideItself" : Str), V.str ("InvalidCourse" : Str), V.str ("InvalidHands" : Str), V.str ("InvalidHouse" : Str), V.str ("InvalidLog" : Str), V.str ("InvalidNumber" : Str), V.str ("IsSealed" : Str), V.str ("NoCourse" : Str), V.str ("NotHeld" : Str), V.str ("NotInside" : Str), V.str ("NotSealed" : Str), V.str ("UnknownBox" : Str), V.str ("UnknownHand" : Str)]) (vs := [V.str ("UnknownItem" : Str), V.str ("UnknownSeal" : Str)]) rfl h8 (fun R r => r) (by decide +kernel) (fun p9 H9 f9 h9 => ?_)
    have e9 := e8.trans f9
    have hK9 := f9 _ _ hK8
    have hhE := e9 _ _ hh
    have hKE : H9 p6 = some (.lst [V.bl false, V.bl false, V.bl false, V.bl true, V.bl false, V.bl false, V.bl false, V.bl false, V.bl false, V.bl false, V.bl false, V.bl false, V.bl false, V.bl false, V.bl false]) := hK9
    have hNE : H9 p9 = some (.lst [V.str ("InsideItself" : Str), V.str ("InvalidCourse" : Str), V.str ("InvalidHands" : Str), V.str ("InvalidHouse" : Str), V.str ("InvalidLog" : Str), V.str ("InvalidNumber" : Str), V.str ("IsSealed" : Str), V.str ("NoCourse" : Str), V.str ("NotHeld" : Str), V.str ("NotInside" : Str), V.str ("NotSealed" : Str), V.str ("UnknownBox" : Str), V.str ("UnknownHand" : Str), V.str ("UnknownItem" : Str), V.str ("UnknownSeal" : Str)]) := h9
    refine ⟨_, rfl, .inl ⟨rfl, _, SqL.of hKE⟩, p6, kindsV, true, rfl, rfl, SqL.of hKE, rfl, _, rfl, iteFe (by decide +kernel) ?_⟩
    refine ⟨_, rfl, fun d e => by cases e; exact ⟨_, hhE⟩, .ty "ValueError", .type "ValueError", true, rfl, fun u z => z, T.kve, _, rfl, iteF ?_⟩
    refine ⟨_, rfl, _, rfl, .inl ⟨rfl, _, SqL.of hKE⟩, p6, [V.bl false, V.bl false, V.bl false, V.bl true, V.bl false, V.bl false, V.bl false, V.bl false, V.bl false, V.bl false, V.bl false, V.bl false, V.bl false, V.bl false, V.bl false], .bl true, 3, .bl true, rfl, rfl, SqL.of hKE, rfl, rfl, rfl, rfl, fun m z' hm e => ?_, p9, [V.str ("InsideItself" : Str), V.str ("InvalidCourse" : Str), V.str ("InvalidHands" : Str), V.str ("InvalidHouse" : Str), V.str ("InvalidLog" : Str), V.str ("InvalidNumber" : Str), V.str ("IsSealed" : Str), V.str ("NoCourse" : Str), V.str ("NotHeld" : Str), V.str ("NotInside" : Str), V.str ("NotSealed" : Str), V.str ("UnknownBox" : Str), V.str ("UnknownHand" : Str), V.str ("UnknownItem" : Str), V.str ("UnknownSeal" : Str)], 3, .str ("InvalidHouse" : Str), rfl, rfl, SqL.of hNE, rfl, ?_⟩
    · match m, hm, e with
      | 0, _, e => cases e; rfl
      | 1, _, e => cases e; rfl
      | 2, _, e => cases e; rfl
      | m + 3, h, _ => exact absurd h (by omega)
    refine ⟨_, rfl, rfl, _, rfl, iteTe (decide_eq_true rfl) ?_⟩
    refine ⟨_, rfl, _, rfl, rfl, rfl, dd, _, _, rfl, hhE, fs_part _ _, _, rfl, rfl, rfl, dd, _, _, rfl, hhE, fs_index _ _, (by show 3 ≤ sizeLine; decide), fun p hp => ?_⟩
    exact k _ _ (e9.trans (same_upd hp)) (.tup (SqT.of upd_same) (.cons (.str _) (.cons (.str _) (.cons (.int _) .nil))))
theorem err_gives {X : Cx} {g CE CW : Addr} {cdg : Value} {q : Str} (T : ErrF X.K X.mg CE CW) (B : Bt X.mg) : LamX.GivesTo X ["_law_work", "error", "_law_kinds", "_law_names", "_law_name"] "_law_error" (defScope sErr) g cdg (defBody sErr) "_law_work" q (TErr X.K CE) := by
  intro f c' s H Q tl act hc h
  have hgl : Gl (cxOf C8.CX0 X.prog X.w X.K X.mg X.base ["_law_work", "error", "_law_kinds", "_law_names", "_law_name"] "_law_error" (defScope sErr) g cdg X.A X.stack s H C8.E0).nox "WatchError" := rfl
  refine ⟨_, pss_cons (ps_try_as (X := (cxOf C8.CX0 X.prog X.w X.K X.mg X.base ["_law_work", "error", "_law_kinds", "_law_names", "_law_name"] "_law_error" (defScope sErr) g cdg X.A X.stack s H C8.E0).nox) (c := .ref CW) (i := 1)
      (tb := fun W D σ H => ∃ Ech : XK, (∀ cls d σ' H', Ech cls d H' → W cls d σ' H') ∧ σ[0]? = some (some (.ref f)) ∧ H c' = some (LamX.CodeO c' q) ∧ tl Ech H (fun _ H' => D.nx σ H'))
      (ts := fun a cls d D σ H => cls = .ref CE ∧ ∃ (σ0 : L2.St) (dd : Addr) (z : Str) (i : Nat), d = some dd ∧ σ = σ0.set 1 (some (.ref a)) ∧ H dd = some (.xd (ihFs z i)) ∧ ∀ v H2, Same H H2 → Dp X.K H2 v (dueD (some (z, i))) → D.rt v H2)
      rfl rfl scErr.nd rfl rfl ⟨hgl, by decide, .inl T.wat⟩ LamX.takes0 (fun W pn xe tk _ => ?_) (fun a oe cls d pn hz hf => ?_)) (pss_one (ps_ret pe_str)), ?_⟩
  · refine ⟨fun pins s' σ H' D I h' => ?_⟩
    obtain ⟨Ech, hW, h1, h2, h3⟩ := h'
    exact (pss_one (ps_expr (act W pn xe Ech _ _ tk hW))).run pins s' σ H' D I ⟨h1, h2, h3⟩
  · refine ⟨fun pins s' σ H' D I h' => ?_⟩
    obtain ⟨rfl, σ0, dd, z, i, rfl, hσ, hh, k⟩ := h'
    have hl : σ0.length = 5 := by
      have q := I.len
      rw [hσ, List.length_set] at q
      exact q
    obtain ⟨v0, v1, v2, v3, v4, e5⟩ : ∃ v0 v1 v2 v3 v4, σ0 = [v0, v1, v2, v3, v4] := by
      match σ0, hl with
      | [v0, v1, v2, v3, v4], _ => exact ⟨v0, v1, v2, v3, v4, rfl⟩
    rw [e5] at hσ
    obtain ⟨t, ht, hq⟩ := err_suite (P := X.prog) (w := X.w) (K := X.K) (mg := X.mg) (base := X.base) (g := g) (cdg := cdg) (A := X.A) (outer := X.stack) (s0 := s) (H0 := H) T B hz hf D σ H' v0 v2 v3 v4 z i hσ hh k
    exact ht.run pins s' σ H' D I hq
  · refine ⟨errOut (K := X.K) CE Q, fun cls d σ' H' ⟨e1, dd, z, i, e2, hh, k⟩ => ?_, rfl, hc, h⟩
    exact ⟨true, by rw [e1]; exact T.exm, fun _ a ha => ⟨e1, σ', dd, z, i, e2, rfl, hh, k⟩, fun z => by cases z⟩
end
end Kw

set_option Elab.async false
set_option linter.all false
set_option maxRecDepth 100000
set_option maxHeartbeats 4000000
namespace Kw
open PySem PySem.Spec PyProof.Rows L2
/-! ### what a turn keeps -/
theorem Tabs.kb {T : List (Addr × Str)} {b l : Addr} {H H' : Hp} (k : Kb b l H H') (t : LamX.Tabs T H) : LamX.Tabs T H' := fun p hp => by
  obtain ⟨ps, h1, h2, h3⟩ := t p hp
  refine ⟨ps, k.tb _ _ h1, h2, fun pos cv hc => ?_⟩
  obtain ⟨c, e1, e2⟩ := h3 pos cv hc
  exact ⟨c, e1, k.kp.nl _ _ e2 (fun xs z => by unfold LamX.CodeO at z; cases z) (fun ps z => LamX.codeO_ne ps z)⟩
structure Wk (K : PySem.W.Frag) (C : Addr) (T : List (Addr × Str)) (b l h p : Addr) (d : Hs) (vb vt vs : V) (H : Hp) : Prop where
  bx : BoxAt H b l
  tb : LamX.Tabs T H
  hh : HouseAt K C H h d
  pp : H p = some (.lst [.int d.hands, vb, vt, vs])
  n1 : p ≠ b
  n2 : p ≠ l
  d1 : Dp K H vb (plsD d.bs)
  d2 : Dp K H vt (plsD d.ts)
  d3 : Dp K H vs (plsD d.ss)
section
variable {K : PySem.W.Frag} {C : Addr} {T : List (Addr × Str)} {b l h p : Addr} {d : Hs} {vb vt vs : V} {H H' : Hp}
theorem Wk.kb (k : Kb b l H H') (hB : BoxAt H' b l) (x : Wk K C T b l h p d vb vt vs H) : Wk K C T b l h p d vb vt vs H' :=
  ⟨hB, Tabs.kb k x.tb, x.hh.nl k.nl, k.kp.ls _ _ x.pp x.n1 x.n2, x.n1, x.n2, Dp.nl k.nl _ _ (noL_pls _) x.d1, Dp.nl k.nl _ _ (noL_pls _) x.d2, Dp.nl k.nl _ _ (noL_pls _) x.d3⟩
theorem Wk.same (e : Same H H') (x : Wk K C T b l h p d vb vt vs H) : Wk K C T b l h p d vb vt vs H' := x.kb (Kb.same e) (x.bx.same e)
theorem ext_nl (e : LamX.ExtN H H') : Nl H H' := fun a o h _ n => e a o h n
theorem ext_lst (e : LamX.ExtN H H') {a : Addr} {xs : List V} (h : H a = some (.lst xs)) : H' a = some (.lst xs) := e _ _ h fun _ z => nomatch z
theorem Wk.ext (e : LamX.ExtN H H') (t : LamX.Tabs T H') (x : Wk K C T b l h p d vb vt vs H) : Wk K C T b l h p d vb vt vs H' := by
  obtain ⟨ns, m, h1, h2, h3⟩ := x.bx
  exact ⟨⟨ns, m, ext_lst e h1, ext_lst e h2, h3⟩, t, x.hh.nl (ext_nl e), ext_lst e x.pp, x.n1, x.n2, Dp.nl (ext_nl e) _ _ (noL_pls _) x.d1, Dp.nl (ext_nl e) _ _ (noL_pls _) x.d2, Dp.nl (ext_nl e) _ _ (noL_pls _) x.d3⟩
theorem nl_updL {D : Addr} {xs ys : List V} (hD : H D = some (.lst xs)) : Nl H (L2.upd H D (.lst ys)) := fun a o h n _ => by
  rw [upd_ne (ne_of h hD (n _))]
  exact h
theorem Wk.updL {D : Addr} {xs ys : List V} (hD : H D = some (.lst xs)) (n1 : D ≠ b) (n2 : D ≠ l) (n3 : D ≠ p) (x : Wk K C T b l h p d vb vt vs H) : Wk K C T b l h p d vb vt vs (L2.upd H D (.lst ys)) := by
  obtain ⟨ns, m, h1, h2, h3⟩ := x.bx
  have nl := nl_updL (ys := ys) hD
  refine ⟨x.bx.updD n1 n2, fun q hq => ?_, x.hh.nl nl, by rw [upd_ne n3.symm]; exact x.pp, x.n1, x.n2, Dp.nl nl _ _ (noL_pls _) x.d1, Dp.nl nl _ _ (noL_pls _) x.d2, Dp.nl nl _ _ (noL_pls _) x.d3⟩
  obtain ⟨ps, t1, t2, t3⟩ := x.tb q hq
  refine ⟨ps, by rw [upd_ne (ne_of t1 hD (by intro z; cases z))]; exact t1, t2, fun pos cv hc => ?_⟩
  obtain ⟨c, e1, e2⟩ := t3 pos cv hc
  exact ⟨c, e1, nl _ _ e2 (fun xs z => by unfold LamX.CodeO at z; cases z) (fun ps z => LamX.codeO_ne ps z)⟩
theorem Wk.neD {D : Addr} (x : Wk K C T b l h p d vb vt vs H) (hD : H D = none) : D ≠ b ∧ D ≠ l ∧ D ≠ p :=
  ⟨(x.bx.neL hD).1, (x.bx.neL hD).2, (ne_of_none x.pp hD).symm⟩
/-! ### the law's list of items -/
def TI (H : Hp) (xs : List V) (ns : List (Str × Nat)) : Prop := xs.length = ns.length ∧ ∀ (j : Nat) (k : Str) (n : Nat), ns[j]? = some (k, n) → ∃ a : Addr, xs[j]? = some (.ref a) ∧ H a = some (.tup [.str k, .int (n : Nat)])
theorem TI.nil : TI H [] [] := ⟨rfl, fun j k n e => by simp at e⟩
theorem TI.nl {xs : List V} {ns : List (Str × Nat)} (e : Nl H H') (t : TI H xs ns) : TI H' xs ns := ⟨t.1, fun j k n hj => by
  obtain ⟨a, h1, h2⟩ := t.2 j k n hj
  exact ⟨a, h1, e _ _ h2 (fun _ z => nomatch z) (fun _ z => nomatch z)⟩⟩
theorem TI.app {xs ys : List V} {ns ms : List (Str × Nat)} (t : TI H xs ns) (u : TI H ys ms) : TI H (xs ++ ys) (ns ++ ms) := ⟨by rw [List.length_append, List.length_append, t.1, u.1], fun j k n hj => by
  by_cases c : j < ns.length
  · rw [List.getElem?_append_left c] at hj
    rw [List.getElem?_append_left (by rw [t.1]; exact c)]
    exact t.2 j k n hj
  · rw [List.getElem?_append_right (by omega)] at hj
    rw [List.getElem?_append_right (by rw [t.1]; omega), t.1]
    exact u.2 _ k n hj⟩
theorem TI.dp : ∀ {xs : List V} {ns : List (Str × Nat)}, TI H xs ns → DpAll K H xs (ns.map fun p => itD p.1 p.2)
  | [], [], _ => .nil
  | [], _ :: _, t => by have := t.1; simp at this
  | _ :: _, [], t => by have := t.1; simp at this
  | x :: xs, (k, n) :: ns, t => by
    obtain ⟨a, h1, h2⟩ := t.2 0 k n rfl
    have hx : x = .ref a := by simpa using h1
    subst hx
    refine .cons (.tup (SqT.of h2) (.cons (.str _) (.cons (.int _) .nil))) (TI.dp ⟨by have := t.1; simpa using this, fun j k n hj => ?_⟩)
    obtain ⟨a, h1, h2⟩ := t.2 (j + 1) k n (by simpa using hj)
    exact ⟨a, by simpa using h1, h2⟩
def kn (k : Str) (n : Nat) : List (Str × Nat) := (List.range n).map fun j => (k, j)
theorem lc_it {σ : L2.St} {H1 : Hp} {Dl : Addr} {Qd : Hp → Prop} (k : Str) (n : Nat) (hk : ∀ y, ((wipe σ [16]).set 16 y)[8]? = some (some (.str k))) (hj : 16 < σ.length) (hn : n ≤ 1000) (hD : H1 Dl = none)
    (hd : ∀ H xs, Same H1 H → H Dl = some (.lst xs) → TI H xs (kn k n) → Qd H) :
    ∃ W : Nat → Nat → Hp → Prop, (∃ m, W 0 m (upd H1 Dl (.lst []))) ∧ ∀ i m H, W i m H →
      ((Itr 0 n).stop i H ∧ Qd H) ∨ ((Itr 0 n).go i H ∧ ∃ Nx : Hp → Prop, (∀ H', Nx H' → ∃ m', m' < m ∧ W (i + 1) m' H') ∧ ∀ x H', (Itr 0 n).yld i H x H' → gName 16 x (wipe σ [16]) H' fun σ2 H2 => wipe σ2 [16] = wipe σ [16] ∧ tYes σ2 H2 fun b H3 =>
        if b = true then tTup (tCons (tVar 8) (tCons (tVar 16) tNil)) σ2 H3 fun y H4 => ∃ acc, H4 Dl = some (.lst acc) ∧ acc.length < sizeLine ∧ Nx (upd H4 Dl (.lst (acc ++ [y]))) else Nx H3) := by
  refine lc_range (lo := 0) (n := n) (fun i H => Same H1 H ∧ ∃ xs, H Dl = some (.lst xs) ∧ TI H xs (kn k i)) ⟨same_upd hD, [], upd_same, TI.nil⟩ ?_ ?_
  · rintro i H hi ⟨e, xs, hx, tx⟩
    refine ⟨wipe_one σ 16 _, ?_⟩
    refine yes_lc ?_
    refine ⟨_, hk _, _, List.getElem?_set_self (by rw [wipe_length]; exact hj), (by show 2 ≤ sizeLine; decide), fun p hp => ?_⟩
    have np : Dl ≠ p := ne_of_none hx hp
    have lx : xs.length = i := by rw [tx.1]; unfold kn; simp
    refine ⟨xs, by rw [upd_ne np]; exact hx, by rw [lx, sizeLine_eq]; omega, ?_⟩
    have e2 : Same H1 (upd (upd H p (.tup [.str k, .int (0 + (i : Int))])) Dl (.lst (xs ++ [.ref p]))) := fun b o q => by
      rw [upd_ne (ne_of_none q hD), upd_ne (ne_of_none (e b o q) hp)]
      exact e b o q
    refine ⟨e2, xs ++ [.ref p], upd_same, ?_⟩
    have ek : kn k (i + 1) = kn k i ++ [(k, i)] := by
      unfold kn
      rw [List.range_succ, List.map_append]
      rfl
    rw [ek]
    have nl : Nl H (upd (upd H p (.tup [.str k, .int (0 + (i : Int))])) Dl (.lst (xs ++ [.ref p]))) := fun b o h n m => by
      rw [upd_ne (ne_of h hx (n _)), upd_ne (ne_of_none h hp)]
      exact h
    refine TI.app (tx.nl nl) ⟨rfl, fun j k' n' hj => ?_⟩
    match j, hj with
    | 0, hj =>
      have hj' : (k, i) = (k', n') := Option.some.inj hj
      cases hj'
      exact ⟨p, rfl, by rw [upd_ne np.symm, upd_same, Int.zero_add]⟩
    | j + 1, hj => simp at hj
  · rintro H ⟨e, xs, hx, tx⟩
    exact hd H xs e hx tx
end
def accN (d : Hs) : Nat → List (Str × Nat)
  | 0 => []
  | 1 => kn "box" d.bs.length
  | 2 => kn "box" d.bs.length ++ kn "seal" d.ss.length
  | _ => kn "box" d.bs.length ++ kn "seal" d.ss.length ++ kn "thing" d.ts.length
theorem kn_len (k : Str) (n : Nat) : (kn k n).length = n := by simp [kn]
theorem accN_len {d : Hs} (h : HsOk d) (i : Nat) : (accN d i).length ≤ 10 := by
  have := h.b1
  have := h.t1
  have := h.s1
  match i with
  | 0 => simp [accN]
  | 1 => simp only [accN, kn_len]; omega
  | 2 => simp only [accN, kn_len, List.length_append]; omega
  | i + 3 => simp only [accN, kn_len, List.length_append]; omega
theorem accN_dp (d : Hs) : PyData.list ((accN d 3).map fun p => itD p.1 p.2) = itemsD d := by
  have go : ∀ k n, (kn k n).map (fun p => itD p.1 p.2) = kindD k n := fun k n => by
    unfold kn kindD
    rw [List.map_map]
    rfl
  show PyData.list ((kn "box" d.bs.length ++ kn "seal" d.ss.length ++ kn "thing" d.ts.length).map fun p => itD p.1 p.2) = _
  rw [List.map_append, List.map_append, go, go, go]
  rfl
theorem accN_in {d : Hs} {k : Str} {n j : Nat} (h : (accN d 3)[j]? = some (k, n)) : numOk (n : Int) (manyOf d k) = true := by
  have hm : (k, n) ∈ kn "box" d.bs.length ++ kn "seal" d.ss.length ++ kn "thing" d.ts.length := List.mem_of_getElem? h
  have go : ∀ (w : Str) (m : Nat), (k, n) ∈ kn w m → k = w ∧ n < m := fun w m hh => by
    unfold kn at hh
    obtain ⟨a, h1, h2⟩ := List.mem_map.mp hh
    cases h2
    exact ⟨rfl, List.mem_range.mp h1⟩
  have e1 : ¬ ("seal" : Str) = ("box" : Str) := by decide +kernel
  have e2 : ¬ ("thing" : Str) = ("box" : Str) := by decide +kernel
  have e3 : ¬ ("thing" : Str) = ("seal" : Str) := by decide +kernel
  rcases List.mem_append.mp hm with hm | hm
  · rcases List.mem_append.mp hm with hm | hm
    · obtain ⟨rfl, hn⟩ := go _ _ hm
      exact numOk_of (by omega) (by rw [manyOf, if_pos rfl]; omega)
    · obtain ⟨rfl, hn⟩ := go _ _ hm
      exact numOk_of (by omega) (by rw [manyOf, if_neg e1, if_pos rfl]; omega)
  · obtain ⟨rfl, hn⟩ := go _ _ hm
    exact numOk_of (by omega) (by rw [manyOf, if_neg e2, if_neg e3, if_pos rfl]; omega)
theorem many_lid (d : Hs) : numOk 0 (manyOf d ("lid" : Str)) = false := by
  have e1 : ¬ ("lid" : Str) = ("box" : Str) := by decide +kernel
  have e2 : ¬ ("lid" : Str) = ("seal" : Str) := by decide +kernel
  have e3 : ¬ ("lid" : Str) = ("thing" : Str) := by decide +kernel
  rw [manyOf, if_neg e1, if_neg e2, if_neg e3]
  rfl
theorem many_box (d : Hs) : manyOf d ("box" : Str) = d.bs.length := if_pos rfl
theorem many_thing (d : Hs) : manyOf d ("thing" : Str) = d.ts.length := by
  have e1 : ¬ ("thing" : Str) = ("box" : Str) := by decide +kernel
  have e2 : ¬ ("thing" : Str) = ("seal" : Str) := by decide +kernel
  rw [manyOf, if_neg e1, if_neg e2, if_pos rfl]
theorem numOk_end (n : Int) : numOk n n = false := by
  unfold numOk
  rw [decide_eq_false (show ¬ n < n by omega), Bool.and_false]
theorem numOk_neg (m : Int) : numOk (-1) m = false := by
  unfold numOk
  rfl
/-! ### comparing -/
theorem eqv_pls (l : List Pl) : ∀ m : List Pl, PyData.eqv (plsD l) (plsD m) = decide (l = m) := by
  have go : ∀ l m : List Pl, PyData.eqvAll (l.map plD) (m.map plD) = decide (l = m) := by
    intro l
    induction l with
    | nil => intro m; cases m with
      | nil => rfl
      | cons a r => simp [PyData.eqvAll]
    | cons a r ih => intro m; cases m with
      | nil => simp [PyData.eqvAll]
      | cons c s =>
        show (PyData.eqv (plD a) (plD c) && PyData.eqvAll (r.map plD) (s.map plD)) = _
        rw [eqv_pl, ih]
        by_cases h1 : a = c <;> by_cases h2 : r = s <;> simp [h1, h2]
  intro m
  exact go l m
def partsD (n : Int) (bs ts ss : List Pl) : PyData := .list [.int n, plsD bs, plsD ts, plsD ss]
theorem eqv_parts (n m : Int) (bs ts ss bs' ts' ss' : List Pl) : PyData.eqv (partsD n bs ts ss) (partsD m bs' ts' ss') = (decide (n = m) && PyData.eqv (stD ⟨n, bs, ts, ss⟩) (stD ⟨m, bs', ts', ss'⟩)) := by
  by_cases h : n = m <;> simp [partsD, stD, PyData.eqv, PyData.eqvAll, h]
theorem eqv_st (d : Hs) : PyData.eqv (stD d) (stD d) = true := by
  simp [stD, PyData.eqv, PyData.eqvAll, eqv_pls]
theorem eqv_due (e : Option (Str × Nat)) : PyData.eqv (dueD e) (dueD e) = true := by
  cases e with
  | none => rfl
  | some p => simp [dueD, PyData.eqv, PyData.eqvAll]
theorem eqv_due_none (e : Option (Str × Nat)) : PyData.eqv (dueD e) (.str "") = e.isNone := by
  cases e with
  | none => rfl
  | some p => simp [dueD, PyData.eqv]
theorem errOf_word {n : Int} {bs ts ss : List Pl} {z : Str} {i : Nat} (h : errOf n bs ts ss = some (z, i)) : z = "hands" ∨ z = "boxes" ∨ z = "things" ∨ z = "seals" := by
  unfold errOf at h
  split at h
  · exact .inl (by cases h; rfl)
  · split at h
    · exact .inr (.inl (by cases h; rfl))
    · split at h
      · exact .inr (.inr (.inl (by cases h; rfl)))
      · split at h
        · exact .inr (.inr (.inr (by cases h; rfl)))
        · cases h
theorem shaped_due {n : Int} {bs ts ss : List Pl} : SeqAt.shaped (dueD (errOf n bs ts ss)) = true := by
  cases e : errOf n bs ts ss with
  | none => decide +kernel
  | some p =>
    obtain ⟨z, i⟩ := p
    have hi : PyData.strOk ("InvalidHouse" : Str) = true := by decide +kernel
    have hz : PyData.strOk z = true := by rcases errOf_word e with rfl | rfl | rfl | rfl <;> decide +kernel
    simp [dueD, SeqAt.shaped, PyData.canLay0, PyData.canLayAll0, PyData.depth, PyData.depthAll, hi, hz]
theorem shaped_parts (n : Int) (bs ts ss : List Pl) : SeqAt.shaped (partsD n bs ts ss) = true := by
  have h1 := SeqAt.canLay_of_shaped (shaped_pls bs)
  have h2 := SeqAt.canLay_of_shaped (shaped_pls ts)
  have h3 := SeqAt.canLay_of_shaped (shaped_pls ss)
  have d1 := depth_plsD bs
  have d2 := depth_plsD ts
  have d3 := depth_plsD ss
  have d0 : PyData.depth (.int n) = 0 := by simp [PyData.depth]
  simp [SeqAt.shaped, partsD, PyData.canLay0, PyData.canLayAll0, PyData.depth, PyData.depthAll, h1, h2, h3]
  omega
theorem okA_pls {ps : List Pl} (h : ps.length ≤ 1000) : okA (plsD ps) = true := by
  have go : ∀ l : List Pl, okAs (l.map plD) = true := by
    intro l
    induction l with
    | nil => rfl
    | cons a r ih =>
      show (okA (plD a) && okAs (r.map plD)) = true
      rw [ih]
      rfl
  simp [plsD, okA, go, h]
theorem okA_st {d : Hs} (h : HsOk d) : okA (stD d) = true := by
  have h1 := okA_pls (ps := d.bs) (by have := h.b1; omega)
  have h2 := okA_pls (ps := d.ts) (by have := h.t1; omega)
  have h3 := okA_pls (ps := d.ss) (by have := h.s1; omega)
  simp [stD, okA, okAs, h1, h2, h3]
theorem depth_st (d : Hs) : PyData.depth (stD d) < 5 := by
  have h1 := depth_plsD d.bs
  have h2 := depth_plsD d.ts
  have h3 := depth_plsD d.ss
  simp [stD, PyData.depth, PyData.depthAll]
  omega
theorem okA_items {d : Hs} (h : HsOk d) : okA (itemsD d) = true := by
  have go : ∀ (k : Str) (l : List Nat) (r : List PyData), okAs r = true → okAs (l.map (itD k) ++ r) = true := by
    intro k l r hr
    induction l with
    | nil => exact hr
    | cons a l ih =>
      show (okA (itD k a) && okAs (l.map (itD k) ++ r)) = true
      rw [ih]
      rfl
  have hl : (kindD "box" d.bs.length ++ kindD "seal" d.ss.length ++ kindD "thing" d.ts.length).length ≤ 1000 := by
    have := h.b1
    have := h.t1
    have := h.s1
    simp [kindD]
    omega
  have ha : okAs (kindD "box" d.bs.length ++ kindD "seal" d.ss.length ++ kindD "thing" d.ts.length) = true := by
    rw [List.append_assoc]
    refine go _ _ _ (go _ _ _ ?_)
    have := go "thing" (List.range d.ts.length) [] rfl
    rwa [List.append_nil] at this
  show (okAs _ && decide (_ ≤ 1000)) = true
  rw [ha, decide_eq_true hl]
  rfl
theorem depth_items (d : Hs) : PyData.depth (itemsD d) < 5 := by
  have go : ∀ (k : Str) (l : List Nat) (r : List PyData), PyData.depthAll r ≤ 1 → PyData.depthAll (l.map (itD k) ++ r) ≤ 1 := by
    intro k l r hr
    induction l with
    | nil => exact hr
    | cons a l ih =>
      show PyData.depthAll (itD k a :: (l.map (itD k) ++ r)) ≤ 1
      have : PyData.depth (itD k a) = 1 := by simp [itD, PyData.depth, PyData.depthAll]
      simp only [PyData.depthAll]
      omega
  have ha : PyData.depthAll (kindD "box" d.bs.length ++ kindD "seal" d.ss.length ++ kindD "thing" d.ts.length) ≤ 1 := by
    rw [List.append_assoc]
    refine go _ _ _ (go _ _ _ ?_)
    have := go "thing" (List.range d.ts.length) [] (by simp [PyData.depthAll])
    rwa [List.append_nil] at this
  simp only [itemsD, PyData.depth]
  omega
/-! ### twice the same -/
def twOf (ss : List Pl) : List Pl := ss.take 1 ++ [(.box, 0), (.box, 0)]
def twIx (ss : List Pl) : Nat := match ss with
  | [] => 1
  | p :: _ => if p = (.box, 0) then 1 else 2
theorem tw_err {d : Hs} (h : HsOk d) : errOf d.hands d.bs d.ts (twOf d.ss) = some (("seals" : Str), twIx d.ss) := by
  have hok := h.okE
  have b0 := h.b0
  unfold errOf at hok ⊢
  split at hok
  · cases hok
  · rename_i c0
    rw [if_neg c0]
    split at hok
    · cases hok
    · rename_i e1
      split at hok
      · cases hok
      · rename_i e2
        split at hok
        · cases hok
        · rename_i e3
          have pb : plOk (.box, 0) d.hands d.bs.length = true := by
            unfold plOk
            rw [if_neg (by decide)]
            have := numOk_of (r := 0) (m := (d.bs.length : Int)) (by omega) (by omega)
            rw [this]
            rfl
          have e4 : firstBad (badS d.hands d.bs.length (twOf d.ss)) 0 (twOf d.ss) = some (twIx d.ss) := by
            cases hs : d.ss with
            | nil =>
              show firstBad (badS d.hands d.bs.length [(.box, 0), (.box, 0)]) 0 [(.box, 0), (.box, 0)] = some 1
              simp [firstBad, badS, pb]
            | cons p r =>
              rw [hs] at e3
              have f0 : badS d.hands d.bs.length (p :: r) 0 p = false := by
                cases c : badS d.hands d.bs.length (p :: r) 0 p with
                | false => rfl
                | true => simp [firstBad, c] at e3
              have f0' : badS d.hands d.bs.length (twOf (p :: r)) 0 p = false := f0
              show firstBad (badS d.hands d.bs.length (twOf (p :: r))) 0 [p, (.box, 0), (.box, 0)] = some (if p = (.box, 0) then 1 else 2)
              have f1 : badS d.hands d.bs.length (twOf (p :: r)) 1 (.box, 0) = decide (p = (.box, 0)) := by
                simp [badS, pb, twOf]
              have f2 : badS d.hands d.bs.length (twOf (p :: r)) 2 (.box, 0) = true := by
                simp [badS, pb, twOf]
              by_cases c : p = (.box, 0)
              · subst c
                rw [decide_eq_true rfl] at f1
                simp [firstBad, f0', f1]
              · simp [firstBad, f0', f1, f2, c]
          rw [e4]
end Kw

set_option Elab.async false
set_option linter.all false
set_option maxRecDepth 100000
set_option maxHeartbeats 4000000
namespace Kw
open PySem PySem.Spec PyProof.Rows L2
section
variable {K : PySem.W.Frag} {C : Addr} {T : List (Addr × Str)} {b l h p : Addr} {d : Hs} {vb vt vs : V} {H : Hp}
/-- changed[at] = .. -/
theorem chg {σ : L2.St} {D : Ends} {c : Addr} {ax r : Int} (a0 : 0 ≤ ax) (a1 : ax < 4) (r0 : 0 ≤ r) (r1 : r < 2) (hd : HsOk d) (W : Wk K C T b l h p d vb vt vs H) (cc : H c = some (.lst [.int d.hands, vb, vt, vs])) (nc1 : c ≠ b) (nc2 : c ≠ l) (nc3 : c ≠ p)
    (s1 : σ[1]? = some (some (.ref b))) (s3 : σ[3]? = some (some (.int r))) (s10 : σ[10]? = some (some (.ref c))) (s11 : σ[11]? = some (some (.int ax)))
    (k : ∀ (n' : Int) (bs' ts' ss' : List Pl) (vb' vt' vs' : V) (H' : Hp), Wk K C T b l h p d vb vt vs H' → H' c = some (.lst [.int n', vb', vt', vs']) → Dp K H' vb' (plsD bs') → Dp K H' vt' (plsD ts') → Dp K H' vs' (plsD ss') → bs'.length ≤ 100 → ts'.length ≤ 100 → ss'.length ≤ 100 →
      (∀ p ∈ bs', p.1 ≠ .gone) → (∀ p ∈ ts', p.1 ≠ .gone) → (∀ p ∈ ss', p.1 ≠ .gone) → D.nx σ H') :
    tAsg (tIf (tTest (tOp rEq (tVar 11) (tC (.int 0)))) (tOp (rIxL K) (tLst (tCons (tC (.int 0)) (tCons (tC (.int 5)) (tCons (tOp (rI0 fun i j => V.int (i - j)) (tC (.int 0)) (tC (.int 1))) (tCons (tC (.int 1)) (tCons (tC (.int 4)) tNil)))))) (tCall spTake [] E0 (tCons (tVar 1) (tCons (tC (.int 5)) tNil))))
      (tCall (spRows K) [] E0 (tCons (tVar 1) (tCons (tOp (rIxL K) (tLst (tCons (tC (.int 0)) (tCons (tC (.int 3)) (tCons (tC (.int 4)) (tCons (tC (.int 3)) tNil))))) (tVar 11)) (tCons (tVar 3) tNil))))) (gSub (tVar 10) (tVar 11) rSetL) D σ H := by
  have lb : d.bs.length ≤ 100 := by have := hd.b1; omega
  have lt : d.ts.length ≤ 100 := by have := hd.t1; omega
  have ls : d.ss.length ≤ 100 := by have := hd.s1; omega
  refine ⟨_, s11, rfl, _, rfl, ?_⟩
  rw [decZ]
  by_cases c0 : ax = 0
  · subst c0
    refine iteTe (decide_eq_true rfl) ⟨_, _, rfl, rfl, (by show 5 ≤ sizeLine; decide), fun p1 hp1 => ?_⟩
    have e1 := same_upd (o := HO.lst [.int 0, .int 5, .int (0 - 1), .int 1, .int 4]) hp1
    have W1 := W.same e1
    obtain ⟨m1, m2, m3⟩ := W.neD hp1
    refine ⟨_, s1, b, l, 5, rfl, by decide, by decide, W1.bx, fun u H1 u0 u1 hB1 k1 => ?_⟩
    have hL : H1 p1 = some (.lst [.int 0, .int 5, .int (0 - 1), .int 1, .int 4]) := k1.kp.ls _ _ upd_same m1 m2
    have W2 := W1.kb k1 hB1
    have cc2 := k1.kp.ls _ _ (e1 _ _ cc) nc1 nc2
    obtain ⟨nn, hn⟩ : ∃ nn : Int, atI [V.int 0, .int 5, .int (0 - 1), .int 1, .int 4] u = some (.int nn) := by
      have : u = 0 ∨ u = 1 ∨ u = 2 ∨ u = 3 ∨ u = 4 := by omega
      rcases this with rfl | rfl | rfl | rfl | rfl <;> exact ⟨_, rfl⟩
    refine ⟨p1, _, u, _, rfl, rfl, SqL.of hL, hn, _, s10, _, s11, c, _, 0, 0, rfl, rfl, cc2, rfl, ?_⟩
    have nl := nl_updL (ys := [.int nn, vb, vt, vs]) cc2
    have W3 := W2.updL (ys := [.int nn, vb, vt, vs]) cc2 nc1 nc2 nc3
    exact k nn d.bs d.ts d.ss vb vt vs _ W3 upd_same W3.d1 W3.d2 W3.d3 lb lt ls hd.nb hd.nt hd.ns
  · refine iteFe (decide_eq_false c0) ⟨_, s1, (by show 4 ≤ sizeLine; decide), fun p1 hp1 => ?_⟩
    have e1 := same_upd (o := HO.lst [.int 0, .int 3, .int 4, .int 3]) hp1
    have W1 := W.same e1
    obtain ⟨m, hm, m0, m5⟩ : ∃ m : Int, atI [V.int 0, .int 3, .int 4, .int 3] ax = some (.int m) ∧ 0 ≤ m ∧ m ≤ 5 := by
      have : ax = 1 ∨ ax = 2 ∨ ax = 3 := by omega
      rcases this with rfl | rfl | rfl
      · exact ⟨3, rfl, by decide, by decide⟩
      · exact ⟨4, rfl, by decide, by decide⟩
      · exact ⟨3, rfl, by decide, by decide⟩
    refine ⟨_, s11, p1, _, ax, _, rfl, rfl, SqL.of upd_same, hm, _, s3, b, l, m, r, rfl, m0, m5, r0, by omega, W1.bx, fun v ps H1 dv lps gps hB1 k1 => ?_⟩
    have W2 := W1.kb k1 hB1
    have cc2 := k1.kp.ls _ _ (e1 _ _ cc) nc1 nc2
    have : ax = 1 ∨ ax = 2 ∨ ax = 3 := by omega
    rcases this with rfl | rfl | rfl
    · refine ⟨_, s10, _, s11, c, _, 1, 1, rfl, rfl, cc2, rfl, ?_⟩
      have nl := nl_updL (ys := [.int d.hands, v, vt, vs]) cc2
      have W3 := W2.updL (ys := [.int d.hands, v, vt, vs]) cc2 nc1 nc2 nc3
      exact k d.hands ps d.ts d.ss v vt vs _ W3 upd_same (Dp.nl nl _ _ (noL_pls _) dv) W3.d2 W3.d3 (by omega) lt ls gps hd.nt hd.ns
    · refine ⟨_, s10, _, s11, c, _, 2, 2, rfl, rfl, cc2, rfl, ?_⟩
      have nl := nl_updL (ys := [.int d.hands, vb, v, vs]) cc2
      have W3 := W2.updL (ys := [.int d.hands, vb, v, vs]) cc2 nc1 nc2 nc3
      exact k d.hands d.bs ps d.ss vb v vs _ W3 upd_same W3.d1 (Dp.nl nl _ _ (noL_pls _) dv) W3.d3 lb (by omega) ls hd.nb gps hd.ns
    · refine ⟨_, s10, _, s11, c, _, 3, 3, rfl, rfl, cc2, rfl, ?_⟩
      have nl := nl_updL (ys := [.int d.hands, vb, vt, v]) cc2
      have W3 := W2.updL (ys := [.int d.hands, vb, vt, v]) cc2 nc1 nc2 nc3
      exact k d.hands d.bs d.ts ps vb vt v _ W3 upd_same W3.d1 W3.d2 (Dp.nl nl _ _ (noL_pls _) dv) lb lt (by omega) hd.nb hd.nt gps
/-- lists and what is no list or table stay -/
structure Lk (H H' : Hp) : Prop where
  nl : Nl H H'
  ls : ∀ a xs, H a = some (.lst xs) → H' a = some (.lst xs)
theorem Lk.same {H H' : Hp} (e : Same H H') : Lk H H' := ⟨same_nl e, fun a _ h => e a _ h⟩
theorem Lk.ext {H H' : Hp} (e : LamX.ExtN H H') : Lk H H' := ⟨ext_nl e, fun _ _ h => ext_lst e h⟩
theorem Lk.trans {H H1 H2 : Hp} (x : Lk H H1) (y : Lk H1 H2) : Lk H H2 := ⟨fun a o h n m => y.nl a o (x.nl a o h n m) n m, fun a xs h => y.ls a xs (x.ls a xs h)⟩
theorem dp_lk {H H' : Hp} {x : V} {ps : List Pl} (k : Lk H H') (h : Dp K H x (plsD ps)) : Dp K H' x (plsD ps) := Dp.nl k.nl _ _ (noL_pls _) h
theorem noL_due (e : Option (Str × Nat)) : noL (dueD e) = true := by
  cases e <;> rfl
theorem shaped_tw {d : Hs} (hd : HsOk d) : SeqAt.shaped (dueD (some (("seals" : Str), twIx d.ss))) = true := by
  rw [← tw_err hd]
  exact shaped_due
theorem tw_len (ss : List Pl) : (twOf ss).length ≤ 100 := by
  unfold twOf
  rw [List.length_append, List.length_take]
  show min 1 ss.length + 2 ≤ 100
  omega
/-- error(lambda: House(..)) -/
theorem lamE {CE : Addr} {σ : L2.St} {Q : VK} {args : TA} {n : Int} {bs ts ss : List Pl} {ub ut us : V} (W : Wk K C T b l h p d vb vt vs H) (ha : ∀ (R : List V → Hp → Prop) H1, Lk H H1 → R [.int n, ub, ut, us] H1 → args σ H1 R)
    (d1 : Dp K H ub (plsD bs)) (d2 : Dp K H ut (plsD ts)) (d3 : Dp K H us (plsD ss)) (l1 : bs.length ≤ 100) (l2 : ts.length ≤ 100) (l3 : ss.length ≤ 100)
    (k : ∀ v H', Wk K C T b l h p d vb vt vs H' → Lk H H' → Dp K H' v (dueD (errOf n bs ts ss)) → Q v H') :
    LamX.tLam T (TErr K CE) (fun E => tMake C (spHouse K C CE) [] E args) σ H Q := by
  refine ⟨W.tb, fun H1 eN t1 => ha _ H1 (Lk.ext eN) fun x dx nx ndx ne => ?_⟩
  have W1 := W.ext eN t1
  have q1 : Lk H H1 := Lk.ext eN
  have nx' : (L2.upd H1 dx (.own x)) x = none := by rw [upd_ne ne.symm]; exact nx
  have e2 : Same H1 (L2.upd (L2.upd H1 dx (.own x)) x (.ins C dx [])) := Same.upd2 (same_upd ndx) nx'
  have q2 := q1.trans (Lk.same e2)
  refine ⟨x, dx, n, ub, ut, us, bs, ts, ss, rfl, upd_same, dp_lk q2 d1, dp_lk q2 d2, dp_lk q2 d3, l1, l2, l3, fun z i ez dd H3 e3 hdd => ⟨rfl, dd, z, i, rfl, hdd, fun v H4 e4 dv => ?_⟩, fun en H3 hb hh => ⟨rfl, ?_⟩⟩
  · have e5 := (e2.trans e3).trans e4
    exact k v H4 (W1.same e5) (q1.trans (Lk.same e5)) (by rw [ez]; exact dv)
  · have e3 : Same H1 H3 := fun a o h => hb a o (e2 a o h) (ne_of_none h nx)
    exact k _ H3 (W1.same e3) (q1.trans (Lk.same e3)) (by rw [en]; exact .str _)
/-- (parts[3][:1] + (('box', 0), ('box', 0)))[:3] -/
theorem twR {σ : L2.St} {Q : VK} (hd : HsOk d) (W : Wk K C T b l h p d vb vt vs H) (s5 : σ[5]? = some (some (.ref p))) (k : ∀ tw H', Same H H' → Dp K H' tw (plsD (twOf d.ss)) → Q tw H') :
    tSl (rSlA K) (tOp (rCatA K) (tSl (rSlA K) (tOp (rIxL K) (tVar 5) (tC (.int 3))) tNoPart (tPart (tC (.int 1)))) (tTup (tCons (tTup (tCons (tC (.str ("box" : Str))) (tCons (tC (.int 0)) tNil))) (tCons (tTup (tCons (tC (.str ("box" : Str))) (tCons (tC (.int 0)) tNil))) tNil)))) tNoPart (tPart (tC (.int 3))) σ H Q := by
  obtain ⟨as, xs, rfl, qs, ds, lx⟩ := pls_at W.d3
  have ls := hd.s1
  have fin : ∀ (c t1 t2 : Addr) H3, Same H H3 → SqT K H3 c (xs.take 1 ++ [.ref t1, .ref t2]) → H3 t1 = some (.tup [.str ("box" : Str), .int 0]) → H3 t2 = some (.tup [.str ("box" : Str), .int 0]) → tNoPart σ H3 (fun l H2 => tPart (tC (V.int 3)) σ H2 fun u H3 => rSlA K (.ref c) l u H3 Q) := fun c t1 t2 H3 e3 sq h1 h2 => by
    have len : (xs.take 1 ++ [V.ref t1, .ref t2]).length ≤ 3 := by
      rw [List.length_append, List.length_take]
      show min 1 xs.length + 2 ≤ 3
      omega
    have db0 : ∀ t : Addr, H3 t = some (.tup [.str ("box" : Str), .int 0]) → Dp K H3 (.ref t) (plD (.box, 0)) := fun t ht => .tup (SqT.of ht) (.cons (.str _) (.cons (.int _) .nil))
    have dp : Dp K H3 (.ref c) (plsD (twOf d.ss)) := by
      refine .tup sq ?_
      unfold twOf
      rw [List.map_append, List.map_take]
      exact DpAll.app (DpAll.take 1 (Dp.sames e3 _ _ ds)) (.cons (db0 t1 h1) (.cons (db0 t2 h2) .nil))
    refine ⟨_, rfl, c, _, rfl, sq, fun _ => k _ _ e3 dp, fun hw => absurd ⟨rfl, ?_⟩ hw⟩
    rw [show (some (3 : Int)) = some ((3 : Nat) : Int) from rfl, HT.sIx_nat]
    omega
  have mid : ∀ (a1 : Addr) H1, Same H H1 → SqT K H1 a1 (xs.take 1) → tTup (tCons (tTup (tCons (tC (.str ("box" : Str))) (tCons (tC (.int 0)) tNil))) (tCons (tTup (tCons (tC (.str ("box" : Str))) (tCons (tC (.int 0)) tNil))) tNil)) σ H1 fun y H2 => rCatA K (.ref a1) y H2 fun x H1 => tNoPart σ H1 fun l H2 => tPart (tC (V.int 3)) σ H2 fun u H3 => rSlA K x l u H3 Q := fun a1 H1 e1 q1 => by
    refine ⟨(by show 2 ≤ sizeLine; decide), fun t1 ht1 => ⟨(by show 2 ≤ sizeLine; decide), fun t2 ht2 => ⟨(by show 2 ≤ sizeLine; decide), fun t3 ht3 => ?_⟩⟩⟩
    have f1 := same_upd (o := HO.tup [.str ("box" : Str), .int 0]) ht1
    have f2 := same_upd (o := HO.tup [.str ("box" : Str), .int 0]) ht2
    have f3 := same_upd (o := HO.tup [.ref t1, .ref t2]) ht3
    have c1 := f3 _ _ (f2 _ _ (upd_same (H := H1) (a := t1) (o := HO.tup [.str ("box" : Str), .int 0])))
    have c2 := f3 _ _ (upd_same (H := L2.upd H1 t1 (HO.tup [.str ("box" : Str), .int 0])) (a := t2) (o := HO.tup [.str ("box" : Str), .int 0]))
    have e3 := ((e1.trans f1).trans f2).trans f3
    have q3 := SqT.same ((f1.trans f2).trans f3) q1
    have c3 := upd_same (H := L2.upd (L2.upd H1 t1 (HO.tup [.str ("box" : Str), .int 0])) t2 (HO.tup [.str ("box" : Str), .int 0])) (a := t3) (o := HO.tup [.ref t1, .ref t2])
    generalize L2.upd (L2.upd (L2.upd H1 t1 (HO.tup [.str ("box" : Str), .int 0])) t2 (HO.tup [.str ("box" : Str), .int 0])) t3 (HO.tup [.ref t1, .ref t2]) = H3 at *
    refine ⟨a1, t3, xs.take 1, [.ref t1, .ref t2], rfl, rfl, q3, SqT.of c3, (by rw [sizeLine_eq, List.length_take]; show min 1 xs.length + 2 ≤ _; omega), fun ex => ?_, (fun _ z => by cases z), fun _ _ c hc => ?_⟩
    · exact fin t3 t1 t2 H3 e3 (by rw [ex]; exact SqT.of c3) c1 c2
    · have f4 := same_upd (o := HO.tup (xs.take 1 ++ [V.ref t1, .ref t2])) hc
      exact fin c t1 t2 _ (e3.trans f4) (SqT.of upd_same) (f4 _ _ c1) (f4 _ _ c2)
  refine ⟨_, s5, p, _, 3, _, rfl, rfl, SqL.of W.pp, rfl, _, rfl, as, xs, rfl, qs, fun hw => ?_, fun hw t ht => ?_⟩
  · have h1 := hw.2
    rw [show (some (1 : Int)) = some ((1 : Nat) : Int) from rfl, HT.sIx_nat] at h1
    have et : xs.take 1 = xs := List.take_of_length_le (by omega)
    exact mid as H (Same.refl H) (by rw [et]; exact qs)
  · have ecut : cutV xs none (some 1) = xs.take 1 := by
      unfold cutV
      rw [HT.sIx_none, show (some (1 : Int)) = some ((1 : Nat) : Int) from rfl, HT.sIx_nat, List.drop_zero, Nat.sub_zero]
      by_cases c : 1 ≤ xs.length
      · rw [Nat.min_eq_left c]
      · have : xs.length = 0 := by omega
        rw [List.eq_nil_of_length_eq_zero this]
        rfl
    rw [ecut]
    exact mid t _ (same_upd ht) (SqT.of upd_same)
/-- 2 if parts[3] != () and parts[3][0] != ('box', 0) else 1 -/
theorem ixR {σ : L2.St} {Q : VK} (W : Wk K C T b l h p d vb vt vs H) (s5 : σ[5]? = some (some (.ref p))) (k : ∀ H', Same H H' → Q (.int (twIx d.ss : Nat)) H') :
    tIf (tAnd (tTest (tOp (rNeD K) (tOp (rIxL K) (tVar 5) (tC (.int 3))) (tTup tNil))) (tTest (tOp (rNeD K) (tOp (rIxT K) (tOp (rIxL K) (tVar 5) (tC (.int 3))) (tC (.int 0))) (tTup (tCons (tC (.str ("box" : Str))) (tCons (tC (.int 0)) tNil)))))) (tC (.int 2)) (tC (.int 1)) σ H Q := by
  obtain ⟨as, xs, rfl, qs, ds, lx⟩ := pls_at W.d3
  refine ⟨_, s5, p, _, 3, _, rfl, rfl, SqL.of W.pp, rfl, (by show 0 ≤ sizeLine; decide), fun t0 ht0 => ?_⟩
  have f0 := same_upd (o := HO.tup []) ht0
  have W0 := W.same f0
  refine ⟨plsD d.ss, .tuple [], W0.d3, .tup (SqT.of upd_same) .nil, shaped_pls _, rfl, _, rfl, ?_⟩
  rw [eqv_nil]
  cases hs : d.ss with
  | nil =>
    rw [hs] at k
    exact iteF (iteF (k _ f0))
  | cons q r =>
    rw [hs] at k ds
    obtain ⟨v0, hv0, dv0⟩ := DpAll.at2 ds (i := 0) (d := plD q) rfl
    refine iteT ⟨_, s5, p, _, 3, _, rfl, rfl, SqL.of W0.pp, rfl, as, xs, 0, v0, rfl, rfl, SqT.same f0 qs, atI_nat (j := 0) hv0, (by show 2 ≤ sizeLine; decide), fun t1 ht1 => ?_⟩
    have f1 := same_upd (o := HO.tup [.str ("box" : Str), .int 0]) ht1
    refine ⟨plD q, plD (.box, 0), Dp.same (f0.trans f1) _ _ dv0, .tup (SqT.of upd_same) (.cons (.str _) (.cons (.int _) .nil)), shaped_pl _, shaped_pl _, _, rfl, ?_⟩
    rw [eqv_pl]
    have kk := k _ (f0.trans f1)
    unfold twIx at kk
    by_cases c : q = (.box, 0)
    · rw [decide_eq_true c]
      simp only [if_pos c] at kk
      exact iteF kk
    · rw [decide_eq_false c]
      simp only [if_neg c] at kk
      exact iteT kk
end
end Kw

set_option Elab.async false
set_option linter.all false
set_option maxRecDepth 100000
set_option maxHeartbeats 4000000
namespace Kw
open PySem PySem.Spec PyProof.Rows L2
section
variable {P : Program} {w : World} {K : PySem.W.Frag} {mg : Str → Option Value} {base : Heap}
/-! ### law -/
structure LawF (P : Program) (w : World) (K : PySem.W.Frag) (mg : Str → Option Value) (base : Heap) (C CE CW f fB fT fA fL fE fD fR fG fI pI fH fQ : Addr) (fd fdB fdT fdA fdL fdE fdD fdR fdG fdI fdH fdQ : FuncData) : Prop where
  Bg : FnOk P w K mg base CX0 1 fB fdB ["_law_script"] (spBegun K)
  mB : mg "_law_begun" = some (.ref fB)
  kB : PySem.W.keepIn K (.ref fB) = true
  bB : Binds K fdB ["_law_script"] []
  T : FnOk P w K mg base CX0 1 fT fdT ["_law_box", "_law_many"] spTake
  mT : mg "_law_take" = some (.ref fT)
  kT : PySem.W.keepIn K (.ref fT) = true
  bT : Binds K fdT ["_law_box", "_law_many"] []
  A : ∀ n, FnOk P w K mg base CX0 n fA fdA ["_law_found", "_law_due_here"] (spAlike K n)
  mA : mg "_law_alike" = some (.ref fA)
  kA : PySem.W.keepIn K (.ref fA) = true
  bA : Binds K fdA ["_law_found", "_law_due_here"] []
  LH : FnOk P w K mg base CX0 7 fL fdL ["_law_box", "_law_sizes"] (spLHouse K C)
  mLH : mg "_law_house" = some (.ref fL)
  kLH : PySem.W.keepIn K (.ref fL) = true
  bLH : Binds K fdL ["_law_box", "_law_sizes"] []
  E : Fun K "_law_error" "_law_error" sErr fE fdE
  mE : mg "_law_error" = some (.ref fE)
  bE : Binds K fdE ["_law_work"] []
  EF : ErrF K mg CE CW
  D : FnOk P w K mg base CX0 2 fD fdD ["_law_hands", "_law_boxes", "_law_things", "_law_seals"] (spDue K)
  mD : mg "_law_due" = some (.ref fD)
  kD : PySem.W.keepIn K (.ref fD) = true
  bD : Binds K fdD ["_law_hands", "_law_boxes", "_law_things", "_law_seals"] []
  R : FnOk P w K mg base CX0 2 fR fdR ["_law_box", "_law_most", "_law_odd"] (spRows K)
  mR : mg "_law_rows" = some (.ref fR)
  kR : PySem.W.keepIn K (.ref fR) = true
  bR : Binds K fdR ["_law_box", "_law_most", "_law_odd"] []
  hc : HouseC K C
  cl : Cls K C
  M : Mk K C fG
  GH : FnOk P w K mg base (L2.CX P w) 5 fG fdG ["self", "hands", "boxes", "things", "seals"] (spHouse K C CE)
  mH : mg "House" = some (.ref C)
  bGH : Binds K fdG ["self", "hands", "boxes", "things", "seals"] []
  Pr : PropOf K C "all_items" pI fI
  I : FnOk P w K mg base CX0 1 fI fdI ["self"] (spItems K C)
  bI : Binds K fdI ["self"] []
  H : FnOk P w K mg base CX0 2 fH fdH ["self", "item"] (spHas K C)
  Hs : PySem.W.findIn K (.ref C) "__contains__" = some (some (.ref fH))
  Hi : PySem.W.isFn K (.ref fH) = true
  bH : Binds K fdH ["self", "item"] []
  Q : FnOk P w K mg base CX0 1 fQ fdQ ["self", "other"] (spEqH K C)
  Qs : PySem.W.findIn K (.ref C) "__eq__" = some (some (.ref fQ))
  Qi : PySem.W.isFn K (.ref fQ) = true
  bQ : Binds K fdQ ["self", "other"] []
theorem scLaw : FnScope ["_law_script", "_law_box", "_law_turn", "_law_odd", "_law_house_here", "_law_parts", "_law_kinds", "_law_items", "_law_kind", "_law_places_here", "_law_changed", "_law_at", "_law_due_here", "_law_twice", "_law_index", "_law_other", "_law_number", "_law_item"] ["_law_script"] (defScope sLaw) := ⟨rfl, rfl, rfl, by decide +kernel, rfl, by decide +kernel, by decide +kernel⟩
def lamQ : Str := (envOfC "law" (defScope sLaw) 0 0 .none).qual ++ "<lambda>"
def turnS : List Stmt := match defBody sLaw with
  | _ :: .For _ _ b _ _ .. :: _ => b
  | _ => []

theorem turn_ok {C CE CW f fB fT fA fL fE fD fR fG fI pI fH fQ cd tb : Addr} {fd fdB fdT fdA fdL fdE fdD fdR fdG fdI fdH fdQ : FuncData} (L : LawF P w K mg base C CE CW f fB fT fA fL fE fD fR fG fI pI fH fQ fd fdB fdT fdA fdL fdE fdD fdR fdG fdI fdH fdQ) (B : Bt mg) (TB : LamX.TabB base mg cd tb)
    {A : Around} {outer : List Env} {s : Shared} {H0 : Hp} (hr : Room 8 (A.deeper (envOfC "law" (defScope sLaw) s.heap.objs.size f (.ref cd)))) :
    ∃ t, PSs ((cxOf CX0 P w K mg base ["_law_script", "_law_box", "_law_turn", "_law_odd", "_law_house_here", "_law_parts", "_law_kinds", "_law_items", "_law_kind", "_law_places_here", "_law_changed", "_law_at", "_law_due_here", "_law_twice", "_law_index", "_law_other", "_law_number", "_law_item"] "law" (defScope sLaw) f (.ref cd) A outer s H0 E0).nox) turnS t ∧ ∀ (D : Ends) (H : Hp) (sc : V) (b l : Addr) (w2 w3 w4 w5 w6 w7 w8 w9 w10 w11 w12 w13 w14 w15 w16 w17 : Option V), BoxAt H b l → LamX.Tabs [(tb, lamQ)] H →
      (∀ (H' : Hp) (u2 u3 u4 u5 u6 u7 u8 u9 u10 u11 u12 u13 u14 u15 u16 u17 : Option V), BoxAt H' b l → LamX.Tabs [(tb, lamQ)] H' → D.nx [some sc, some (.ref b), u2, u3, u4, u5, u6, u7, u8, u9, u10, u11, u12, u13, u14, u15, u16, u17] H') →
      t D [some sc, some (.ref b), w2, w3, w4, w5, w6, w7, w8, w9, w10, w11, w12, w13, w14, w15, w16, w17] H := by
  have hr1 : Room 1 _ := hr.mono (by decide)
  have hr2 : Room 2 _ := hr.mono (by decide)
  have hr5 : Room 5 _ := hr.mono (by decide)
  have hr6 : Room 6 _ := hr.mono (by decide)
  have hr7 : Room 7 _ := hr.mono (by decide)
  have hr8 : Room 8 _ := hr
  have hu : ((cxOf CX0 P w K mg base ["_law_script", "_law_box", "_law_turn", "_law_odd", "_law_house_here", "_law_parts", "_law_kinds", "_law_items", "_law_kind", "_law_places_here", "_law_changed", "_law_at", "_law_due_here", "_law_twice", "_law_index", "_law_other", "_law_number", "_law_item"] "law" (defScope sLaw) f (.ref cd) A outer s H0 E0).nox).A.units + 64 < cLine := by have := hr.un; show (A.deeper _).units + 64 < cLine; omega
  have hcode : ((cxOf CX0 P w K mg base ["_law_script", "_law_box", "_law_turn", "_law_odd", "_law_house_here", "_law_parts", "_law_kinds", "_law_items", "_law_kind", "_law_places_here", "_law_changed", "_law_at", "_law_due_here", "_law_twice", "_law_index", "_law_other", "_law_number", "_law_item"] "law" (defScope sLaw) f (.ref cd) A outer s H0 E0).nox).env.code = .ref cd := rfl
  obtain ⟨oc, od, kV, doc, pm, an, cdv, ct, osl, rfl, lkE, cdE⟩ := L.E.ex
  obtain ⟨q, eq0, eq⟩ : ∃ q, q = lamQ ∧ q = ((cxOf CX0 P w K mg base ["_law_script", "_law_box", "_law_turn", "_law_odd", "_law_house_here", "_law_parts", "_law_kinds", "_law_items", "_law_kind", "_law_places_here", "_law_changed", "_law_at", "_law_due_here", "_law_twice", "_law_index", "_law_other", "_law_number", "_law_item"] "law" (defScope sLaw) f (.ref cd) A outer s H0 E0).nox).env.qual ++ "<lambda>" := ⟨_, rfl, rfl⟩
  have hmT : (tb, ((cxOf CX0 P w K mg base ["_law_script", "_law_box", "_law_turn", "_law_odd", "_law_house_here", "_law_parts", "_law_kinds", "_law_items", "_law_kind", "_law_places_here", "_law_changed", "_law_at", "_law_due_here", "_law_twice", "_law_index", "_law_other", "_law_number", "_law_item"] "law" (defScope sLaw) f (.ref cd) A outer s H0 E0).nox).env.qual ++ "<lambda>") ∈ [(tb, q)] := by rw [eq]; exact List.mem_cons_self
  have huT : ∀ p ∈ [(tb, q)], p.1 = tb → p.2 = ((cxOf CX0 P w K mg base ["_law_script", "_law_box", "_law_turn", "_law_odd", "_law_house_here", "_law_parts", "_law_kinds", "_law_items", "_law_kind", "_law_places_here", "_law_changed", "_law_at", "_law_due_here", "_law_twice", "_law_index", "_law_other", "_law_number", "_law_item"] "law" (defScope sLaw) f (.ref cd) A outer s H0 E0).nox).env.qual ++ "<lambda>" := fun p hp _ => by rw [List.mem_singleton.mp hp, eq]
  refine ⟨_, (pss_cons (ps_asg (pe_tup (pa_cons (pe_callTy call_int1 (by rfl) B.int (by decide +kernel) (pa_cons (pe_call L.T hr1 rfl L.mT L.kT L.bT .nil pass0 (pa_cons (pv 1) (pa_cons pe_int pa_nil))) pa_nil)) (pa_cons (pe_call L.LH hr7 rfl L.mLH L.kLH L.bLH .nil pass0 (pa_cons (pv 1) (pa_cons (pe_tup (pa_cons pe_int (pa_cons pe_int (pa_cons pe_int (pa_cons pe_int pa_nil))))) pa_nil))) pa_nil))) (pg_tup (by rfl) (pgs_cons (pg_name (i := 3) scLaw.nd rfl (.inl rfl)) (pgs_cons (pg_name (i := 4) scLaw.nd rfl (.inr rfl)) pgs_nil))))
        (pss_cons (ps_set (i := 5) scLaw.nd rfl (.inr rfl) (pe_lst (pa_cons (pe_fld (pv 4) rfl) (pa_cons (pe_fld (pv 4) rfl) (pa_cons (pe_fld (pv 4) rfl) (pa_cons (pe_fld (pv 4) rfl) pa_nil))))))
        (pss_cons (ps_if (PW.pt (pw_or (pt_not (pt_val (pe_call (L.A 5) hr5 rfl L.mA L.kA L.bA .nil pass0 (pa_cons (pe_fld (pv 4) rfl) (pa_cons (pe_callTy call_tuple_of (by rfl) B.tup (by decide +kernel) (pa_cons (pe_slice sl_list (pv 5) (po_some pe_int) po_none) pa_nil)) pa_nil))))) (pw_or1 (pt_cmpR (op_neD hu) (pe_call L.D hr2 rfl L.mD L.kD L.bD .nil pass0 (pa_cons (pe_ix ix_list (pv 5) pe_int (fun _ _ => rfl)) (pa_cons (pe_ix ix_list (pv 5) pe_int (fun _ _ => rfl)) (pa_cons (pe_ix ix_list (pv 5) pe_int (fun _ _ => rfl)) (pa_cons (pe_ix ix_list (pv 5) pe_int (fun _ _ => rfl)) pa_nil))))) pe_str (nomark _))))) (pss_one (ps_ret pe_bl)) pss_nil)
        (pss_cons (ps_set (i := 6) scLaw.nd rfl (.inl rfl) (pe_lst (pa_cons (pe_tup (pa_cons pe_str (pa_cons (pe_ix ix_list (pv 5) pe_int (fun _ _ => rfl)) pa_nil))) (pa_cons (pe_tup (pa_cons pe_str (pa_cons (pe_ix ix_list (pv 5) pe_int (fun _ _ => rfl)) pa_nil))) (pa_cons (pe_tup (pa_cons pe_str (pa_cons (pe_ix ix_list (pv 5) pe_int (fun _ _ => rfl)) pa_nil))) pa_nil)))))
        (pss_cons (ps_set (i := 7) scLaw.nd rfl (.inl rfl) (pe_lst pa_nil))
        (pss_cons (ps_for PassesOwn.never rfl (pi_list (pv 6)) (pg_tup (by rfl) (pgs_cons (pg_name (i := 8) scLaw.nd rfl (.inr rfl)) (pgs_cons (pg_name (i := 9) scLaw.nd rfl (.inl rfl)) pgs_nil))) (pss_one (ps_expr (pe_bm PySem.F.plainAttrs_list PySem.F.slot_list_extend PySem.F.type_list_extend mt_extend (pv 7) (pa_cons (pe_lc (own := [("_law_number", 16)]) (g := gName 16) (tt := tYes) (te := tTup (tCons (tVar 8) (tCons (tVar 16) tNil))) rfl scLaw.nd (pi_range1 rfl B.rng (pa_cons (pe_callB call_len_seq (by rfl) B.len PySem.boot_len (pa_cons (pv 9) pa_nil)) pa_nil)) (blkOk_by (own := [("_law_number", 16)]) (N := ["_law_script", "_law_box", "_law_turn", "_law_odd", "_law_house_here", "_law_parts", "_law_kinds", "_law_items", "_law_kind", "_law_places_here", "_law_changed", "_law_at", "_law_due_here", "_law_twice", "_law_index", "_law_other", "_law_number", "_law_item"]) (sc := defScope sLaw) (by decide +kernel)) (fun _ _ _ _ _ => pg_name (i := 16) scLaw.nd rfl (.inl rfl)) (fun _ _ _ _ _ => pts_nil) (fun _ _ _ _ _ => pe_tup (pa_cons (pv 8) (pa_cons (pv 16) pa_nil)))) pa_nil)))))
        (pss_cons (ps_if (PW.pt (pw_or (pt_not (pt_val (pe_call (L.A 5) hr5 rfl L.mA L.kA L.bA .nil pass0 (pa_cons (pe_prop (pv 4) L.cl L.Pr L.I hr2 L.bI .nil pass0 rfl) (pa_cons (pv 7) pa_nil))))) (pw_or1 (pt_cmpR op_ne (pe_callB call_len_seq (by rfl) B.len PySem.boot_len (pa_cons (pe_prop (pv 4) L.cl L.Pr L.I hr2 L.bI .nil pass0 rfl) pa_nil)) (pe_callB call_len_seq (by rfl) B.len PySem.boot_len (pa_cons (pv 7) pa_nil)) (nomark _))))) (pss_one (ps_ret pe_bl)) pss_nil)
        (pss_cons (ps_if (PW.pt (pw_or (pt_cmpR (op_neD hu) (pe_lc (own := [("_law_item", 17)]) (g := gName 17) (tt := tTest (tOp (rNotInOwn C (spHas K C) E0) (tVar 17) (tVar 4))) (te := tVar 17) rfl scLaw.nd (pi_list (pv 7)) (blkOk_by (own := [("_law_item", 17)]) (N := ["_law_script", "_law_box", "_law_turn", "_law_odd", "_law_house_here", "_law_parts", "_law_kinds", "_law_items", "_law_kind", "_law_places_here", "_law_changed", "_law_at", "_law_due_here", "_law_twice", "_law_index", "_law_other", "_law_number", "_law_item"]) (sc := defScope sLaw) (by decide +kernel)) (fun _ _ _ _ _ => pg_name (i := 17) scLaw.nd rfl (.inl rfl))
          (fun _ _ _ _ _ => pts_one (pt_cmpR (op_notInOwn L.H L.Hs L.Hi hr2 L.bH pass0) (pv 17) (pv 4) (by rfl))) (fun _ _ _ _ _ => pv 17)) (pe_lst pa_nil) (nomark _)) (pw_or1 (pt_cmpR (op_inOwn L.H L.Hs L.Hi hr2 L.bH pass0) (pe_tup (pa_cons pe_str (pa_cons pe_int pa_nil))) (pv 4) (by rfl))))) (pss_one (ps_ret pe_bl)) pss_nil)
        (pss_cons (ps_if (pt_cmpR (op_inOwn L.H L.Hs L.Hi hr2 L.bH pass0) (pe_tup (pa_cons pe_str (pa_cons (pe_callB call_len_seq (by rfl) B.len PySem.boot_len (pa_cons (pe_ix ix_list (pv 5) pe_int (fun _ _ => rfl)) pa_nil)) pa_nil))) (pv 4) (by rfl)) (pss_one (ps_ret pe_bl)) pss_nil)
        (pss_cons (ps_if (PW.pt (pw_or (pt_cmpR (op_inOwn L.H L.Hs L.Hi hr2 L.bH pass0) (pe_tup (pa_cons pe_str (pa_cons (pe_un un_neg pe_int) pa_nil))) (pv 4) (by rfl)) (pw_or1 (pt_cmpR (op_inOwn L.H L.Hs L.Hi hr2 L.bH pass0) (pe_tup (pa_cons pe_str (pa_cons (pe_callB call_len_seq (by rfl) B.len PySem.boot_len (pa_cons (pe_ix ix_list (pv 5) pe_int (fun _ _ => rfl)) pa_nil)) pa_nil))) (pv 4) (by rfl))))) (pss_one (ps_ret pe_bl)) pss_nil)
        (pss_cons (ps_set (i := 10) scLaw.nd rfl (.inr rfl) (pe_callTy call_list_of (by rfl) B.lst (by decide +kernel) (pa_cons (pv 5) pa_nil)))
        (pss_cons (ps_set (i := 11) scLaw.nd rfl (.inl rfl) (pe_call L.T hr1 rfl L.mT L.kT L.bT .nil pass0 (pa_cons (pv 1) (pa_cons pe_int pa_nil))))
        (pss_cons (ps_asg (pe_ifExp (pt_cmpR op_eq (pv 11) pe_int (nomark _)) (pe_ix ix_list (pe_lst (pa_cons pe_int (pa_cons pe_int (pa_cons (pe_op op_sub pe_int pe_int) (pa_cons pe_int (pa_cons pe_int pa_nil)))))) (pe_call L.T hr1 rfl L.mT L.kT L.bT .nil pass0 (pa_cons (pv 1) (pa_cons pe_int pa_nil))) (fun _ _ => rfl)) (pe_call L.R hr2 rfl L.mR L.kR L.bR .nil pass0 (pa_cons (pv 1) (pa_cons (pe_ix ix_list (pe_lst (pa_cons pe_int (pa_cons pe_int (pa_cons pe_int (pa_cons pe_int pa_nil))))) (pv 11) (fun _ _ => rfl)) (pa_cons (pv 3) pa_nil))))) (pg_sub (pv 10) (pv 11) set_list))
        (pss_cons (ps_set (i := 12) scLaw.nd rfl (.inl rfl) (pe_call L.D hr2 rfl L.mD L.kD L.bD .nil pass0 (pa_cons (pe_ix ix_list (pv 10) pe_int (fun _ _ => rfl)) (pa_cons (pe_ix ix_list (pv 10) pe_int (fun _ _ => rfl)) (pa_cons (pe_ix ix_list (pv 10) pe_int (fun _ _ => rfl)) (pa_cons (pe_ix ix_list (pv 10) pe_int (fun _ _ => rfl)) pa_nil))))))
        (pss_cons (ps_if (pt_cmpR (op_neD hu) (LamX.pe_lamcall (T := [(tb, q)]) (TT := TErr K CE) (t := fun E => tMake C (spHouse K C CE) [] E (tCons (tOp (rIxL K) (tVar 10) (tC (.int 0))) (tCons (tOp (rIxL K) (tVar 10) (tC (.int 1))) (tCons (tOp (rIxL K) (tVar 10) (tC (.int 2))) (tCons (tOp (rIxL K) (tVar 10) (tC (.int 3))) tNil))))) (k := 6) (Ng := ["_law_work", "error", "_law_kinds", "_law_names", "_law_name"]) (a := "_law_work") rfl L.mE L.E.kp lkE cdE L.bE scErr rfl (.inl rfl) (err_gives L.EF B) TB hcode hmT huT hr8 (LamX.lamS_by (sc := defScope sLaw) (by decide +kernel)) rfl (fun _ _ _ _ _ => rfl)
          (fun A outer s H E f c' hr => pe_make L.M L.GH hr rfl L.mH L.bGH .nil (passes_call (takes_of rfl rfl rfl rfl) (fun _ _ _ _ h => h)) (pa_cons (pe_ix ix_list (pv 10) pe_int (fun _ _ => rfl)) (pa_cons (pe_ix ix_list (pv 10) pe_int (fun _ _ => rfl)) (pa_cons (pe_ix ix_list (pv 10) pe_int (fun _ _ => rfl)) (pa_cons (pe_ix ix_list (pv 10) pe_int (fun _ _ => rfl)) pa_nil)))))) (pv 12) (nomark _)) (pss_one (ps_ret pe_bl)) pss_nil)
        (pss_cons (ps_set (i := 13) scLaw.nd rfl (.inr rfl) (pe_slice sl_tupA (pe_op op_catA (pe_slice sl_tupA (pe_ix ix_list (pv 5) pe_int (fun _ _ => rfl)) po_none (po_some pe_int)) (pe_tup (pa_cons (pe_tup (pa_cons pe_str (pa_cons pe_int pa_nil))) (pa_cons (pe_tup (pa_cons pe_str (pa_cons pe_int pa_nil))) pa_nil)))) po_none (po_some pe_int)))
        (pss_cons (ps_set (i := 14) scLaw.nd rfl (.inl rfl) (pe_ifExp (PW.pt (pw_and (pt_cmpR (op_neD hu) (pe_ix ix_list (pv 5) pe_int (fun _ _ => rfl)) (pe_tup pa_nil) (nomark _)) (pw_and1 (pt_cmpR (op_neD hu) (pe_ix ix_tup (pe_ix ix_list (pv 5) pe_int (fun _ _ => rfl)) pe_int (fun _ _ => rfl)) (pe_tup (pa_cons pe_str (pa_cons pe_int pa_nil))) (nomark _))))) pe_int pe_int))
        (pss_cons (ps_if (pt_cmpR (op_neD hu) (LamX.pe_lamcall (T := [(tb, q)]) (TT := TErr K CE) (t := fun E => tMake C (spHouse K C CE) [] E (tCons (tOp (rIxL K) (tVar 5) (tC (.int 0))) (tCons (tOp (rIxL K) (tVar 5) (tC (.int 1))) (tCons (tOp (rIxL K) (tVar 5) (tC (.int 2))) (tCons (tVar 13) tNil))))) (k := 6) (Ng := ["_law_work", "error", "_law_kinds", "_law_names", "_law_name"]) (a := "_law_work") rfl L.mE L.E.kp lkE cdE L.bE scErr rfl (.inl rfl) (err_gives L.EF B) TB hcode hmT huT hr8 (LamX.lamS_by (sc := defScope sLaw) (by decide +kernel)) rfl (fun _ _ _ _ _ => rfl)
          (fun A outer s H E f c' hr => pe_make L.M L.GH hr rfl L.mH L.bGH .nil (passes_call (takes_of rfl rfl rfl rfl) (fun _ _ _ _ h => h)) (pa_cons (pe_ix ix_list (pv 5) pe_int (fun _ _ => rfl)) (pa_cons (pe_ix ix_list (pv 5) pe_int (fun _ _ => rfl)) (pa_cons (pe_ix ix_list (pv 5) pe_int (fun _ _ => rfl)) (pa_cons (pv 13) pa_nil)))))) (pe_tup (pa_cons pe_str (pa_cons pe_str (pa_cons (pv 14) pa_nil)))) (nomark _)) (pss_one (ps_ret pe_bl)) pss_nil)
        (pss_one (ps_if (pt_cmpR (op_eqD hu) (pv 12) pe_str (nomark _)) (pss_cons (ps_set (i := 15) scLaw.nd rfl (.inl rfl) (pe_make L.M L.GH hr6 rfl L.mH L.bGH .nil passL (pa_cons (pe_ix ix_list (pv 10) pe_int (fun _ _ => rfl)) (pa_cons (pe_ix ix_list (pv 10) pe_int (fun _ _ => rfl)) (pa_cons (pe_ix ix_list (pv 10) pe_int (fun _ _ => rfl)) (pa_cons (pe_ix ix_list (pv 10) pe_int (fun _ _ => rfl)) pa_nil))))))
          (pss_one (ps_if (PW.pt (pw_or (pt_cmpR op_ne (pe_cmpR (op_eqOwn L.Q L.Qs L.Qi hr1 L.bQ pass0) (pv 15) (pv 4) (nomark _)) (pe_cmpR (op_eqD hu) (pv 10) (pv 5) (nomark _)) (nomark _)) (pw_or1 (pt_not (pt_cmpR (op_eqOwn L.Q L.Qs L.Qi hr1 L.bQ pass0) (pv 4) (pe_make L.M L.GH hr6 rfl L.mH L.bGH .nil passL (pa_cons (pe_ix ix_list (pv 5) pe_int (fun _ _ => rfl)) (pa_cons (pe_ix ix_list (pv 5) pe_int (fun _ _ => rfl)) (pa_cons (pe_ix ix_list (pv 5) pe_int (fun _ _ => rfl)) (pa_cons (pe_ix ix_list (pv 5) pe_int (fun _ _ => rfl)) pa_nil))))) (nomark _)))))) (pss_one (ps_ret pe_bl)) pss_nil))) pss_nil)))))))))))))))))))), ?_⟩
  rw [← eq0]
  clear eq
  intro D H sc b l w2 w3 w4 w5 w6 w7 w8 w9 w10 w11 w12 w13 w14 w15 w16 w17 hB hT kD
  -- odd, house = int(take(box, 2)), house(box, (4, 3, 4, 3))
  refine ⟨_, rfl, b, l, 2, rfl, by decide, by decide, hB, fun r H1 r0 r1 hB1 k1 => .inl ⟨r, rfl, _, rfl, (by show 4 ≤ sizeLine; decide), fun p4 hp4 => ?_⟩⟩
  refine ⟨b, l, p4, 4, 3, 4, 3, rfl, SqT.of upd_same, by decide, by decide, by decide, by decide, hB1.same (same_upd hp4), fun h d H2 hh hd hB2 k2 => ⟨(by show 2 ≤ sizeLine; decide), fun pt hpt => ⟨pt, _, rfl, SqT.of upd_same, rfl, _, _, rfl, _, _, rfl, rfl, ?_⟩⟩⟩
  have k3 : Kb b l H (L2.upd H2 pt (.tup [.int r, .ref h])) := ((k1.trans (Kb.same (same_upd hp4))).trans k2).trans (Kb.same (same_upd hpt))
  have hT3 := Tabs.kb k3 hT
  have hh3 := hh.nl (same_nl (same_upd (o := HO.tup [.int r, .ref h]) hpt))
  have hB3 := hB2.same (same_upd (o := HO.tup [.int r, .ref h]) hpt)
  generalize L2.upd H2 pt (.tup [.int r, .ref h]) = H3 at *
  -- parts
  obtain ⟨dx, vb, vt, vs, vst, h0, h1, h2, h3, h4⟩ := id hh3.ex
  refine ⟨_, rfl, h, C, dx, _, _, rfl, h0, L.cl, L.hc.nH, fs_hands _ _ _ _ _, _, rfl, h, C, dx, _, _, rfl, h0, L.cl, L.hc.nB, fs_boxes _ _ _ _ _, _, rfl, h, C, dx, _, _, rfl, h0, L.cl, L.hc.nT, fs_things _ _ _ _ _, _, rfl, h, C, dx, _, _, rfl, h0, L.cl, L.hc.nS, fs_seals _ _ _ _ _, (by show 4 ≤ sizeLine; decide), fun p hp => ?_⟩
  have e4 := same_upd (o := HO.lst [.int d.hands, vb, vt, vs]) hp
  have W4 : Wk K C [(tb, q)] b l h p d vb vt vs (L2.upd H3 p (.lst [.int d.hands, vb, vt, vs])) := ⟨hB3.same e4, hT3.ext e4, hh3.nl (same_nl e4), upd_same, (hB3.neL hp).1, (hB3.neL hp).2, Dp.same e4 _ _ h1, Dp.same e4 _ _ h2, Dp.same e4 _ _ h3⟩
  have g0 := e4 _ _ h0
  have g4 := Dp.same e4 _ _ h4
  generalize L2.upd H3 p (.lst [.int d.hands, vb, vt, vs]) = H4 at *
  -- if not alike(house.state, tuple(parts[1:])) or due(..) != ''
  refine ⟨_, rfl, h, C, dx, _, _, rfl, g0, L.cl, L.hc.nSt, fs_state _ _ _ _ _, _, rfl, _, rfl, p, _, rfl, SqL.of W4.pp, fun p5 hp5 => ?_⟩
  rw [show cutV [V.int d.hands, vb, vt, vs] (some 1) none = [vb, vt, vs] from rfl]
  refine ⟨p5, [vb, vt, vs], rfl, .inl ⟨SqL.of upd_same, fun p6 hp6 => ?_⟩⟩
  have e5 : Same H4 (L2.upd (L2.upd H4 p5 (.lst [vb, vt, vs])) p6 (.tup [vb, vt, vs])) := Same.upd2 (same_upd hp5) hp6
  have W5 := W4.same e5
  have s5 : SqT K (L2.upd (L2.upd H4 p5 (.lst [vb, vt, vs])) p6 (.tup [vb, vt, vs])) p6 [vb, vt, vs] := SqT.of upd_same
  have g5 := Dp.same e5 _ _ g4
  refine ⟨vst, .ref p6, stD d, rfl, g5, .tup s5 (.cons W5.d1 (.cons W5.d2 (.cons W5.d3 .nil))), okA_st hd, depth_st d, _, rfl, iteF ?_⟩
  generalize L2.upd (L2.upd H4 p5 (.lst [vb, vt, vs])) p6 (.tup [vb, vt, vs]) = H5 at *
  have lb : d.bs.length ≤ 100 := by have := hd.b1; omega
  have lt : d.ts.length ≤ 100 := by have := hd.t1; omega
  have ls : d.ss.length ≤ 100 := by have := hd.s1; omega
  refine ⟨_, rfl, p, _, 0, _, rfl, rfl, SqL.of W5.pp, rfl, _, rfl, p, _, 1, _, rfl, rfl, SqL.of W5.pp, rfl, _, rfl, p, _, 2, _, rfl, rfl, SqL.of W5.pp, rfl, _, rfl, p, _, 3, _, rfl, rfl, SqL.of W5.pp, rfl, ?_⟩
  refine ⟨d.hands, vb, vt, vs, d.bs, d.ts, d.ss, rfl, W5.d1, W5.d2, W5.d3, lb, lt, ls, hd.nb, hd.nt, hd.ns, fun v H6 e6 dv => ⟨_, .str "", dv, .str _, shaped_due, by decide +kernel, _, rfl, iteFe ?_ ?_⟩⟩
  · rw [hd.okE]
    rfl
  have W6 := W5.same e6
  have g6 := e6 _ _ (e5 _ _ g0)
  clear dv
  -- kinds
  refine ⟨_, rfl, p, _, 1, _, rfl, rfl, SqL.of W6.pp, rfl, (by show 2 ≤ sizeLine; decide), fun q1 hq1 => ?_⟩
  have f1 := same_upd (o := HO.tup [.str ("box" : Str), vb]) hq1
  have W7 := W6.same f1
  refine ⟨_, rfl, p, _, 3, _, rfl, rfl, SqL.of W7.pp, rfl, (by show 2 ≤ sizeLine; decide), fun q2 hq2 => ?_⟩
  have f2 := same_upd (o := HO.tup [.str ("seal" : Str), vs]) hq2
  have W8 := W7.same f2
  refine ⟨_, rfl, p, _, 2, _, rfl, rfl, SqL.of W8.pp, rfl, (by show 2 ≤ sizeLine; decide), fun q3 hq3 => ⟨(by show 3 ≤ sizeLine; decide), fun kl hkl => ?_⟩⟩
  have f3 := same_upd (o := HO.tup [.str ("thing" : Str), vt]) hq3
  have f4 := same_upd (o := HO.lst [.ref q1, .ref q2, .ref q3]) hkl
  have c1 := f4 _ _ (f3 _ _ (f2 _ _ (upd_same (H := H6) (a := q1) (o := HO.tup [.str ("box" : Str), vb]))))
  have c2 := f4 _ _ (f3 _ _ (upd_same (H := L2.upd H6 q1 (HO.tup [.str ("box" : Str), vb])) (a := q2) (o := HO.tup [.str ("seal" : Str), vs])))
  have c3 := f4 _ _ (upd_same (H := L2.upd (L2.upd H6 q1 (HO.tup [.str ("box" : Str), vb])) q2 (HO.tup [.str ("seal" : Str), vs])) (a := q3) (o := HO.tup [.str ("thing" : Str), vt]))
  have c4 := upd_same (H := L2.upd (L2.upd (L2.upd H6 q1 (HO.tup [.str ("box" : Str), vb])) q2 (HO.tup [.str ("seal" : Str), vs])) q3 (HO.tup [.str ("thing" : Str), vt])) (a := kl) (o := HO.lst [.ref q1, .ref q2, .ref q3])
  have W9 := (W8.same f3).same f4
  generalize L2.upd (L2.upd (L2.upd (L2.upd H6 q1 (HO.tup [.str ("box" : Str), vb])) q2 (HO.tup [.str ("seal" : Str), vs])) q3 (HO.tup [.str ("thing" : Str), vt])) kl (HO.lst [.ref q1, .ref q2, .ref q3]) = H7 at *
  -- items = []
  refine ⟨(by show 0 ≤ sizeLine; decide), fun it hit => ?_⟩
  obtain ⟨ni1, ni2, ni3⟩ := W9.neD hit
  have ni4 : it ≠ kl := (ne_of_none c4 hit).symm
  have f5 := same_upd (o := HO.lst []) hit
  have W10 := W9.same f5
  have cit : (L2.upd H7 it (.lst [])) it = some (.lst []) := upd_same
  have c1 := f5 _ _ c1
  have c2 := f5 _ _ c2
  have c3 := f5 _ _ c3
  have c4 := f5 _ _ c4
  generalize L2.upd H7 it (.lst []) = H8 at *
  have hel : ∀ (i : Nat) (x : V), [V.ref q1, .ref q2, .ref q3][i]? = some x → i < 3 ∧ ∃ (qa : Addr) (wd : Str) (vp : V) (pl : List Pl), x = .ref qa ∧ H8 qa = some (.tup [.str wd, vp]) ∧ Dp K H8 vp (plsD pl) ∧ accN d (i + 1) = accN d i ++ kn wd pl.length ∧ pl.length ≤ 100 := fun i x e => by
    match i with
    | 0 => exact ⟨by decide, q1, "box", vb, d.bs, (Option.some.inj e).symm, c1, W10.d1, rfl, lb⟩
    | 1 => exact ⟨by decide, q2, "seal", vs, d.ss, (Option.some.inj e).symm, c2, W10.d3, rfl, ls⟩
    | 2 => exact ⟨by decide, q3, "thing", vt, d.ts, (Option.some.inj e).symm, c3, W10.d2, rfl, lt⟩
    | i + 3 => simp at e
  refine ⟨_, rfl, kl, rfl, ⟨_, SqL.of c4⟩, for_list (K := K) (a := kl) (xs := [V.ref q1, .ref q2, .ref q3]) (fun i σ H => ∃ (u8 u9 : Option V) (xs : List V), σ = [some sc, some (.ref b), w2, some (.int r), some (.ref h), some (.ref p), some (.ref kl), some (.ref it), u8, u9, w10, w11, w12, w13, w14, w15, w16, w17] ∧
      Wk K C [(tb, q)] b l h p d vb vt vs H ∧ Nl H8 H ∧ (∀ a ys, H8 a = some (.lst ys) → a ≠ it → H a = some (.lst ys)) ∧ H it = some (.lst xs) ∧ TI H xs (accN d i))
    ⟨w8, w9, [], rfl, W10, fun _ _ h _ _ => h, fun _ _ h _ => h, cit, TI.nil⟩ (fun i σ H _ ⟨_, _, _, _, _, _, ll, _, _⟩ => SqL.of (ll _ _ c4 ni4.symm)) ?_ ?_⟩
  · rintro i y σ H hi ⟨u8, u9, xs, rfl, W, nl, ll, hx, tx⟩
    obtain ⟨i3, qa, wd, vp, pl, rfl, hq, dq, ha, hl100⟩ := hel i y hi
    obtain ⟨av, xv, rfl, qv, dv, lv⟩ := pls_at dq
    refine ⟨qa, _, rfl, SqT.of (nl _ _ hq (fun _ z => nomatch z) (fun _ z => nomatch z)), rfl, _, _, rfl, _, _, rfl, rfl, ?_⟩
    refine ⟨_, rfl, .inl ⟨rfl, _, SqL.of hx⟩, _, rfl, av, xv, rfl, .inr (SqT.nl nl qv), _, rfl, by omega, by omega, fun Dn hDn => ?_⟩
    rw [show ((xv.length : Nat) : Int).toNat = xv.length by omega]
    refine lc_it wd xv.length (fun _ => rfl) (by show 16 < 18; decide) (by omega) hDn fun H' ys e hD' ty => ?_
    have hx' := e _ _ hx
    have lx : xs.length ≤ 10 := by rw [tx.1]; exact accN_len hd i
    have ly : ys.length = xv.length := by rw [ty.1, kn_len]
    refine ⟨it, Dn, xs, ys, rfl, rfl, hx', hD', by rw [sizeLine_eq]; omega, ?_⟩
    have nu := nl_updL (ys := xs ++ ys) hx'
    refine ⟨_, _, xs ++ ys, rfl, (W.same e).updL hx' ni1 ni2 ni3, fun a o h1 h2 h3 => nu _ _ (e _ _ (nl _ _ h1 h2 h3)) h2 h3, fun a zs h1 n1 => by rw [upd_ne n1]; exact e _ _ (ll _ _ h1 n1), upd_same, ?_⟩
    rw [ha, ← lv]
    exact ((tx.nl (same_nl e)).app ty).nl nu
  rintro σ H9 ⟨u8, u9, xs, rfl, W11, nl, ll, hx, tx⟩
  have tx : TI H9 xs (accN d 3) := tx
  clear hel c1 c2 c3 c4 nl ll
  -- if not alike(house.all_items, items) or len(house.all_items) != len(items)
  obtain ⟨dx9, vb9, vt9, vs9, vst9, i0, i1, i2, i3, i4⟩ := id W11.hh.ex
  refine ⟨_, rfl, h, dx9, _, rfl, i0, h, d, rfl, W11.hh, lb, lt, ls, fun pi1 H10 xi1 e10 _ _ dp10 => ?_⟩
  have W12 := W11.same e10
  have hx12 := e10 _ _ hx
  have tx12 := tx.nl (same_nl e10)
  refine ⟨_, rfl, .ref pi1, .ref it, itemsD d, rfl, dp10, by rw [← accN_dp]; exact .lst (SqL.of hx12) (TI.dp tx12), okA_items hd, depth_items d, _, rfl, iteF ?_⟩
  clear dp10
  refine ⟨_, rfl, h, dx9, _, rfl, e10 _ _ i0, h, d, rfl, W12.hh, lb, lt, ls, fun pi2 H11 xi2 e11 _ _ dp11 => ?_⟩
  have W13 := W12.same e11
  have hx13 := e11 _ _ hx12
  have tx13 := tx12.nl (same_nl e11)
  have i13 := e11 _ _ (e10 _ _ i0)
  obtain ⟨ys2, hs2, ly2⟩ : ∃ ys, SqL K H11 pi2 ys ∧ ys.length = xs.length := by
    rw [← accN_dp] at dp11
    cases dp11 with
    | lst hs ha => exact ⟨_, hs, by rw [DpAll.len ha, List.length_map, tx13.1]⟩
  clear dp11
  refine ⟨pi2, ys2, rfl, .inl hs2, _, rfl, it, xs, rfl, .inl (SqL.of hx13), rfl, _, rfl, iteFe (by rw [decI, decide_eq_true ly2]; rfl) ?_⟩
  -- no item is missed, no other word is known
  refine ⟨_, rfl, it, rfl, ⟨_, SqL.of hx13⟩, fun Dn hDn => ?_⟩
  refine lc_list (K := K) (a := it) (xs := xs) (fun i H => Same H11 H ∧ H Dn = some (.lst [])) ⟨same_upd hDn, upd_same⟩ (fun i H _ ⟨e, _⟩ => SqL.of (e _ _ hx13)) ?_ ?_
  · rintro i y H hi ⟨e, hD⟩
    have hil := (List.getElem?_eq_some_iff.mp hi).1
    obtain ⟨⟨k, n⟩, hk⟩ : ∃ z, (accN d 3)[i]? = some z := ⟨_, List.getElem?_eq_getElem (by rw [← tx13.1]; exact hil)⟩
    obtain ⟨a, ha1, ha2⟩ := tx13.2 i k n hk
    obtain rfl : V.ref a = y := Option.some.inj (ha1.symm.trans hi)
    exact ⟨wipe_one _ 17 _, _, rfl, _, rfl, h, dx9, _, rfl, e _ _ i13, h, a, d, k, n, rfl, (W13.same e).hh, e _ _ ha2, _, rfl, _, rfl, iteFe (by rw [accN_in hk]; rfl) ⟨e, hD⟩⟩
  rintro H12 ⟨e12, hDn12⟩
  have W14 := W13.same e12
  refine ⟨(by show 0 ≤ sizeLine; decide), fun en hen => ⟨.list [], .list [], .lst (SqL.of ((same_upd hen) _ _ hDn12)) .nil, .lst (SqL.of upd_same) .nil, by decide, by decide, _, rfl, iteFe (by decide +kernel) ?_⟩⟩
  have W15 := W14.same (same_upd (o := HO.lst []) hen)
  have i15 := (same_upd (o := HO.lst []) hen) _ _ (e12 _ _ i13)
  generalize L2.upd H12 en (.lst []) = H13 at *
  refine ⟨(by show 2 ≤ sizeLine; decide), fun t1 ht1 => ?_⟩
  have W16 := W15.same (same_upd (o := HO.tup [.str ("lid" : Str), .int 0]) ht1)
  have i16 := (same_upd (o := HO.tup [.str ("lid" : Str), .int 0]) ht1) _ _ i15
  refine ⟨_, rfl, h, dx9, _, rfl, i16, h, t1, d, "lid", 0, rfl, W16.hh, upd_same, _, rfl, _, rfl, iteFe (many_lid d) ?_⟩
  generalize L2.upd H13 t1 (HO.tup [.str ("lid" : Str), .int 0]) = H14 at *
  -- the box behind the last
  obtain ⟨ab, xb, rfl, qb, _, lxb⟩ := pls_at W16.d1
  obtain ⟨at', xt, rfl, qt, _, lxt⟩ := pls_at W16.d2
  refine ⟨_, rfl, p, _, 1, _, rfl, rfl, SqL.of W16.pp, rfl, ab, xb, rfl, .inr qb, (by show 2 ≤ sizeLine; decide), fun t2 ht2 => ?_⟩
  have W17 := W16.same (same_upd (o := HO.tup [.str ("box" : Str), .int (xb.length : Nat)]) ht2)
  have i17 := (same_upd (o := HO.tup [.str ("box" : Str), .int (xb.length : Nat)]) ht2) _ _ i16
  have qt17 := SqT.same (same_upd (o := HO.tup [.str ("box" : Str), .int (xb.length : Nat)]) ht2) qt
  refine ⟨_, rfl, h, dx9, _, rfl, i17, h, t2, d, "box", _, rfl, W17.hh, upd_same, _, rfl, _, rfl, iteFe (by rw [many_box, lxb, numOk_end]) ?_⟩
  generalize L2.upd H14 t2 (HO.tup [.str ("box" : Str), .int (xb.length : Nat)]) = H15 at *
  -- the places beyond either end
  refine ⟨_, rfl, (by show 2 ≤ sizeLine; decide), fun t3 ht3 => ?_⟩
  have W18 := W17.same (same_upd (o := HO.tup [.str ("seal" : Str), .int (-1)]) ht3)
  have i18 := (same_upd (o := HO.tup [.str ("seal" : Str), .int (-1)]) ht3) _ _ i17
  have qt18 := SqT.same (same_upd (o := HO.tup [.str ("seal" : Str), .int (-1)]) ht3) qt17
  refine ⟨_, rfl, h, dx9, _, rfl, i18, h, t3, d, "seal", _, rfl, W18.hh, upd_same, _, rfl, _, rfl, iteFe (numOk_neg _) ?_⟩
  generalize L2.upd H15 t3 (HO.tup [.str ("seal" : Str), .int (-1)]) = H16 at *
  refine ⟨_, rfl, p, _, 2, _, rfl, rfl, SqL.of W18.pp, rfl, at', xt, rfl, .inr qt18, (by show 2 ≤ sizeLine; decide), fun t4 ht4 => ?_⟩
  have W19 := W18.same (same_upd (o := HO.tup [.str ("thing" : Str), .int (xt.length : Nat)]) ht4)
  have i19 := (same_upd (o := HO.tup [.str ("thing" : Str), .int (xt.length : Nat)]) ht4) _ _ i18
  refine ⟨_, rfl, h, dx9, _, rfl, i19, h, t4, d, "thing", _, rfl, W19.hh, upd_same, _, rfl, _, rfl, iteFe (by rw [many_thing, lxt, numOk_end]) ?_⟩
  generalize L2.upd H16 t4 (HO.tup [.str ("thing" : Str), .int (xt.length : Nat)]) = H17 at *
  -- changed = list(parts)
  refine ⟨_, rfl, p, _, rfl, .inl (SqL.of W19.pp), fun c hc => ?_⟩
  obtain ⟨nc1, nc2, nc3⟩ := W19.neD hc
  have W20 := W19.same (same_upd (o := HO.lst [.int d.hands, .ref ab, .ref at', vs]) hc)
  have cc : (L2.upd H17 c (.lst [.int d.hands, .ref ab, .ref at', vs])) c = some (.lst [.int d.hands, .ref ab, .ref at', vs]) := upd_same
  generalize L2.upd H17 c (.lst [.int d.hands, .ref ab, .ref at', vs]) = H18 at *
  -- at = take(box, 4)
  refine ⟨_, rfl, b, l, 4, rfl, by decide, by decide, W20.bx, fun ax H19 a0 a1 hB19 k19 => ?_⟩
  have W21 := W20.kb k19 hB19
  have cc21 := k19.kp.ls _ _ cc nc1 nc2
  refine chg (K := K) (r := r) a0 a1 r0 r1 hd W21 cc21 nc1 nc2 nc3 rfl rfl rfl rfl fun n' bs' ts' ss' vb' vt' vs' H20 W22 cc22 d1' d2' d3' l1 l2 l3 gn1 gn2 gn3 => ?_
  -- due = due(changed..)
  refine ⟨_, rfl, c, _, 0, _, rfl, rfl, SqL.of cc22, rfl, _, rfl, c, _, 1, _, rfl, rfl, SqL.of cc22, rfl, _, rfl, c, _, 2, _, rfl, rfl, SqL.of cc22, rfl, _, rfl, c, _, 3, _, rfl, rfl, SqL.of cc22, rfl, ?_⟩
  refine ⟨n', vb', vt', vs', bs', ts', ss', rfl, d1', d2', d3', l1, l2, l3, gn1, gn2, gn3, fun dv H21 e21 ddv => ?_⟩
  have W23 := W22.same e21
  have cc23 := e21 _ _ cc22
  have k23 : Lk H20 H21 := Lk.same e21
  -- if error(lambda: House(changed..)) != due
  refine lamE W23 (fun R H1 kk R1 => ⟨_, rfl, c, _, 0, _, rfl, rfl, SqL.of (kk.ls _ _ cc23), rfl, _, rfl, c, _, 1, _, rfl, rfl, SqL.of (kk.ls _ _ cc23), rfl, _, rfl, c, _, 2, _, rfl, rfl, SqL.of (kk.ls _ _ cc23), rfl, _, rfl, c, _, 3, _, rfl, rfl, SqL.of (kk.ls _ _ cc23), rfl, R1⟩) (dp_lk k23 d1') (dp_lk k23 d2') (dp_lk k23 d3') l1 l2 l3 fun v H22 W24 k24 dv24 => ?_
  have ddv24 := Dp.nl k24.nl _ _ (noL_due _) ddv
  refine ⟨_, rfl, _, _, dv24, ddv24, shaped_due, shaped_due, _, rfl, iteFe (by rw [eqv_due]; rfl) ?_⟩
  clear dv24
  -- twice, index
  refine twR hd W24 rfl fun tw H23 e25 dtw => ?_
  have W25 := W24.same e25
  refine ixR W25 rfl fun H24 e26 => ?_
  have W26 := W25.same e26
  have dtw26 := Dp.same e26 _ _ dtw
  -- if error(lambda: House(parts.., twice)) != ('InvalidHouse', 'seals', index)
  refine lamE W26 (fun R H1 kk R1 => ⟨_, rfl, p, _, 0, _, rfl, rfl, SqL.of (kk.ls _ _ W26.pp), rfl, _, rfl, p, _, 1, _, rfl, rfl, SqL.of (kk.ls _ _ W26.pp), rfl, _, rfl, p, _, 2, _, rfl, rfl, SqL.of (kk.ls _ _ W26.pp), rfl, _, rfl, R1⟩) W26.d1 W26.d2 dtw26 lb lt (tw_len _) fun v H25 W27 k27 dv27 => ?_
  rw [tw_err hd] at dv27
  refine ⟨_, rfl, (by show 3 ≤ sizeLine; decide), fun t5 ht5 => ?_⟩
  have f27 := same_upd (o := HO.tup [.str ("InvalidHouse" : Str), .str ("seals" : Str), .int (twIx d.ss : Nat)]) ht5
  refine ⟨_, dueD (some (("seals" : Str), twIx d.ss)), Dp.same f27 _ _ dv27, .tup (SqT.of upd_same) (.cons (.str _) (.cons (.str _) (.cons (.int _) .nil))), shaped_tw hd, shaped_tw hd, _, rfl, iteFe (by rw [eqv_due]; rfl) ?_⟩
  have W28 := W27.same f27
  have k28 : Lk H22 (L2.upd H25 t5 (.tup [.str ("InvalidHouse" : Str), .str ("seals" : Str), .int (twIx d.ss : Nat)])) := (((Lk.same e25).trans (Lk.same e26)).trans k27).trans (Lk.same f27)
  clear dv27 dtw dtw26
  generalize L2.upd H25 t5 (.tup [.str ("InvalidHouse" : Str), .str ("seals" : Str), .int (twIx d.ss : Nat)]) = H26 at *
  have ddv28 := Dp.nl k28.nl _ _ (noL_due _) ddv24
  have k29 := (k23.trans k24).trans k28
  have cc28 := k29.ls _ _ cc22
  have d1'' := dp_lk k29 d1'
  have d2'' := dp_lk k29 d2'
  have d3'' := dp_lk k29 d3'
  -- if due == ''
  refine ⟨_, rfl, _, .str "", ddv28, .str _, shaped_due, by decide +kernel, _, rfl, ?_⟩
  rw [eqv_due_none]
  cases he : errOf n' bs' ts' ss' with
  | some z => exact iteF (kD _ _ _ _ _ _ _ _ _ _ _ _ _ _ _ _ _ W28.bx W28.tb)
  | none =>
    refine iteT ⟨_, rfl, c, _, 0, _, rfl, rfl, SqL.of cc28, rfl, _, rfl, c, _, 1, _, rfl, rfl, SqL.of cc28, rfl, _, rfl, c, _, 2, _, rfl, rfl, SqL.of cc28, rfl, _, rfl, c, _, 3, _, rfl, rfl, SqL.of cc28, rfl, fun x dx nx ndx ne => ?_⟩
    have nx' : (L2.upd H26 dx (.own x)) x = none := by rw [upd_ne ne.symm]; exact nx
    have e30 : Same H26 (L2.upd (L2.upd H26 dx (.own x)) x (.ins C dx [])) := Same.upd2 (same_upd ndx) nx'
    refine ⟨x, dx, n', vb', vt', vs', bs', ts', ss', rfl, upd_same, Dp.same e30 _ _ d1'', Dp.same e30 _ _ d2'', Dp.same e30 _ _ d3'', l1, l2, l3, (fun z i e => nomatch (he.symm.trans e)), fun _ H27 hb hho => ⟨rfl, ?_⟩⟩
    have e31 : Same H26 H27 := fun a o hh => hb a o (e30 a o hh) (ne_of_none hh nx)
    have W31 := W28.same e31
    have cc31 := e31 _ _ cc28
    obtain ⟨dxo, _, _, _, _, o0, _⟩ := id hho.ex
    obtain ⟨dxh, _, _, _, _, p0, _⟩ := id W31.hh.ex
    refine ⟨_, rfl, _, rfl, x, h, dxo, _, dxh, _, rfl, rfl, o0, p0, x, h, ⟨n', bs', ts', ss'⟩, d, rfl, hho, W31.hh, _, rfl, _, rfl, _, rfl, partsD n' bs' ts' ss', partsD d.hands d.bs d.ts d.ss, ?_⟩
    refine ⟨.lst (SqL.of cc31) (.cons (.int _) (.cons (Dp.same e31 _ _ d1'') (.cons (Dp.same e31 _ _ d2'') (.cons (Dp.same e31 _ _ d3'') .nil)))), .lst (SqL.of W31.pp) (.cons (.int _) (.cons W31.d1 (.cons W31.d2 (.cons W31.d3 .nil)))), shaped_parts _ _ _ _, shaped_parts _ _ _ _, rfl, _, rfl, iteFe (by rw [eqv_parts, decide_eq_true rfl]; rfl) ?_⟩
    refine ⟨_, rfl, _, rfl, p, _, 0, _, rfl, rfl, SqL.of W31.pp, rfl, _, rfl, p, _, 1, _, rfl, rfl, SqL.of W31.pp, rfl, _, rfl, p, _, 2, _, rfl, rfl, SqL.of W31.pp, rfl, _, rfl, p, _, 3, _, rfl, rfl, SqL.of W31.pp, rfl, fun x2 dx2 nx2 ndx2 ne2 => ?_⟩
    have nx2' : (L2.upd H27 dx2 (.own x2)) x2 = none := by rw [upd_ne ne2.symm]; exact nx2
    have e32 : Same H27 (L2.upd (L2.upd H27 dx2 (.own x2)) x2 (.ins C dx2 [])) := Same.upd2 (same_upd ndx2) nx2'
    refine ⟨x2, dx2, d.hands, _, _, _, d.bs, d.ts, d.ss, rfl, upd_same, Dp.same e32 _ _ W31.d1, Dp.same e32 _ _ W31.d2, Dp.same e32 _ _ W31.d3, lb, lt, ls, (fun z i e => nomatch (hd.okE.symm.trans e)), fun _ H28 hb2 hh2 => ⟨rfl, ?_⟩⟩
    have e33 : Same H27 H28 := fun a o hh => hb2 a o (e32 a o hh) (ne_of_none hh nx2)
    have W33 := W31.same e33
    obtain ⟨dxp, _, _, _, _, r0', _⟩ := id hh2.ex
    refine ⟨h, x2, dxh, _, dxp, _, rfl, rfl, e33 _ _ p0, r0', h, x2, d, ⟨d.hands, d.bs, d.ts, d.ss⟩, rfl, W33.hh, hh2, _, rfl, _, rfl, iteFe ?_ ?_⟩
    · show (!(decide (d.hands = d.hands) && PyData.eqv (stD d) (stD d))) = false
      rw [decide_eq_true rfl, eqv_st]
      rfl
    · exact kD _ _ _ _ _ _ _ _ _ _ _ _ _ _ _ _ _ W33.bx W33.tb
end
end Kw

set_option Elab.async false
set_option linter.all false
set_option maxRecDepth 100000
set_option maxHeartbeats 4000000
namespace Kw
open PySem PySem.Spec PyProof.Rows L2
section
variable {P : Program} {w : World} {K : PySem.W.Frag} {mg : Str → Option Value} {base : Heap}
def spLaw (K : PySem.W.Frag) (tb : Addr) : Sp := fun vs H Q _ => ∃ (a : Addr) (ns : List Int), vs = [.ref a] ∧ H tb = some (.tbl #[]) ∧ SqL K H a (ns.map V.int) ∧ ns.length ≤ 63 ∧ ∀ H', Q (.bl true) H'
theorem ok_law {C CE CW f fB fT fA fL fE fD fR fG fI pI fH fQ cd tb : Addr} {fdB fdT fdA fdL fdE fdD fdR fdG fdI fdH fdQ : FuncData} {oc kV doc pm ct : Value} {od an : Option Addr} {osl : Array (Option Value)}
    (L : LawF P w K mg base C CE CW f fB fT fA fL fE fD fR fG fI pI fH fQ (PySem.W.fnOf "law" "law" (defArgs sLaw) (defBody sLaw) (defScope sLaw) .none kV doc pm an (.ref cd) ct) fdB fdT fdA fdL fdE fdD fdR fdG fdI fdH fdQ) (B : Bt mg) (TB : LamX.TabB base mg cd tb)
    (lk : K.lookup f = some ⟨oc, od, .func (PySem.W.fnOf "law" "law" (defArgs sLaw) (defBody sLaw) (defScope sLaw) .none kV doc pm an (.ref cd) ct), osl⟩) (hcd : PySem.W.codeIn K (.ref cd) "law" = true) :
    FnOk P w K mg base CX0 9 f (PySem.W.fnOf "law" "law" (defArgs sLaw) (defBody sLaw) (defScope sLaw) .none kV doc pm an (.ref cd) ct) ["_law_script"] (spLaw K tb) := by
  refine fn_of lk hcd scLaw (fun vs H Q E h => ?_) (fun A outer s H vs Q E hr h => ?_)
  · obtain ⟨a, ns, rfl, _⟩ := h
    rfl
  · obtain ⟨a, ns, rfl, hTb, hS, hl, k⟩ := h
    have hr1 : Room 1 _ := hr.mono (by decide)
    obtain ⟨t, ht, hq⟩ := turn_ok (outer := outer) (H0 := H) L B TB hr
    refine ⟨_, PSs.nox (pss_cons (ps_set (i := 1) scLaw.nd rfl (.inl rfl) (pe_call L.Bg hr1 rfl L.mB L.kB L.bB .nil pass0 (pa_cons (pv 0) pa_nil)))
      (pss_cons (ps_for PassesOwn.never rfl (pi_range1 rfl B.rng (pa_cons pe_int pa_nil)) (pg_name (i := 2) scLaw.nd rfl (.inl rfl)) ht) (pss_one (ps_ret pe_bl)))), ?_⟩
    refine ⟨_, rfl, a, ns, rfl, hS, hl, fun b l H1 e1 hB => ?_⟩
    refine ⟨_, rfl, by decide, by decide, ?_⟩
    refine for_range (lo := 0) (n := (5 : Int).toNat) (fun i σ H => BoxAt H b l ∧ LamX.Tabs [(tb, lamQ)] H ∧ ∃ (u2 u3 u4 u5 u6 u7 u8 u9 u10 u11 u12 u13 u14 u15 u16 u17 : Option V), σ = [some (.ref a), some (.ref b), u2, u3, u4, u5, u6, u7, u8, u9, u10, u11, u12, u13, u14, u15, u16, u17])
      ⟨hB, fun q hq => by rw [List.mem_singleton.mp hq]; exact LamX.TabS.nil (e1 _ _ hTb), _, _, _, _, _, _, _, _, _, _, _, _, _, _, _, _, rfl⟩ ?_ ?_
    · rintro i σ H2 hi ⟨hB2, hT2, u2, u3, u4, u5, u6, u7, u8, u9, u10, u11, u12, u13, u14, u15, u16, u17, rfl⟩
      exact hq _ H2 (.ref a) b l (some (.int (0 + (i : Int)))) u3 u4 u5 u6 u7 u8 u9 u10 u11 u12 u13 u14 u15 u16 u17 hB2 hT2 fun H' u2 u3 u4 u5 u6 u7 u8 u9 u10 u11 u12 u13 u14 u15 u16 u17 hB' hT' => ⟨hB', hT', u2, u3, u4, u5, u6, u7, u8, u9, u10, u11, u12, u13, u14, u15, u16, u17, rfl⟩
    · rintro σ H2 ⟨_, _, u2, u3, u4, u5, u6, u7, u8, u9, u10, u11, u12, u13, u14, u15, u16, u17, rfl⟩
      exact k H2
end
end Kw

set_option Elab.async false
set_option linter.all false
set_option maxRecDepth 100000
set_option maxHeartbeats 4000000
namespace Kw
open PySem PySem.Spec PyProof.Rows L2
theorem all_mk {l : PySem.W.OpenLaw} {w : World} {K : PySem.W.Frag} {h : Heap} {mg : Str → Option Value} {fa : Addr} (X : K.In h) (G : h.Ns mainGlobals mg) (hfa : mg "law" = some (.ref fa))
    {C CE CW : Addr}
    {fm0 : Addr} {ocm0 kVm0 dcm0 pmm0 cdm0 ctm0 : Value} {odm0 anm0 : Option Addr} {slm0 : Array (Option Value)}
    {fm1 : Addr} {ocm1 kVm1 dcm1 pmm1 cdm1 ctm1 : Value} {odm1 anm1 : Option Addr} {slm1 : Array (Option Value)}
    {fm2 : Addr} {ocm2 kVm2 dcm2 pmm2 cdm2 ctm2 : Value} {odm2 anm2 : Option Addr} {slm2 : Array (Option Value)}
    {fm3 : Addr} {ocm3 kVm3 dcm3 pmm3 cdm3 ctm3 : Value} {odm3 anm3 : Option Addr} {slm3 : Array (Option Value)}
    {fm4 : Addr} {ocm4 kVm4 dcm4 pmm4 cdm4 ctm4 : Value} {odm4 anm4 : Option Addr} {slm4 : Array (Option Value)}
    {fm5 : Addr} {ocm5 kVm5 dcm5 pmm5 cdm5 ctm5 : Value} {odm5 anm5 : Option Addr} {slm5 : Array (Option Value)}
    {fm6 : Addr} {ocm6 kVm6 dcm6 pmm6 cdm6 ctm6 : Value} {odm6 anm6 : Option Addr} {slm6 : Array (Option Value)}
    {fm7 : Addr} {ocm7 kVm7 dcm7 pmm7 cdm7 ctm7 : Value} {odm7 anm7 : Option Addr} {slm7 : Array (Option Value)}
    {fm8 : Addr} {ocm8 kVm8 dcm8 pmm8 cdm8 ctm8 : Value} {odm8 anm8 : Option Addr} {slm8 : Array (Option Value)}
    {fm9 : Addr} {ocm9 kVm9 dcm9 pmm9 cdm9 ctm9 : Value} {odm9 anm9 : Option Addr} {slm9 : Array (Option Value)}
    {fm10 : Addr} {ocm10 kVm10 dcm10 pmm10 cdm10 ctm10 : Value} {odm10 anm10 : Option Addr} {slm10 : Array (Option Value)}
    {fm11 : Addr} {ocm11 kVm11 dcm11 pmm11 cdm11 ctm11 : Value} {odm11 anm11 : Option Addr} {slm11 : Array (Option Value)}
    {fm12 : Addr} {ocm12 kVm12 dcm12 pmm12 cdm12 ctm12 : Value} {odm12 anm12 : Option Addr} {slm12 : Array (Option Value)}
    {fm13 : Addr} {ocm13 kVm13 dcm13 pmm13 cdm13 ctm13 : Value} {odm13 anm13 : Option Addr} {slm13 : Array (Option Value)}
    {pI : Addr} {rI : List Value}
    {ft0 : Addr} {oct0 kVt0 dct0 pmt0 cdt0 ctt0 : Value} {odt0 ant0 : Option Addr} {slt0 : Array (Option Value)}
    {ft1 : Addr} {oct1 kVt1 dct1 pmt1 cdt1 ctt1 : Value} {odt1 ant1 : Option Addr} {slt1 : Array (Option Value)}
    {ft2 : Addr} {oct2 kVt2 dct2 pmt2 cdt2 ctt2 : Value} {odt2 ant2 : Option Addr} {slt2 : Array (Option Value)}
    {ft3 : Addr} {oct3 kVt3 dct3 pmt3 cdt3 ctt3 : Value} {odt3 ant3 : Option Addr} {slt3 : Array (Option Value)}
    {cd tb : Addr} {ocL kVL dcL pmL ctL : Value} {odL anL : Option Addr} {slL : Array (Option Value)} {fL : Addr}
    {nm q : Str} {N : Addr} {bs bm sub : List Value} {sn : List Str} {ab : Bool} {col : Option Bool} {ddE : Option Addr} {g0 g1 g2 g3 g5 : Option Value}
    {fI cda cc : Addr} {ocI kVI dcI pmI ctI : Value} {odI anI : Option Addr} {slI : Array (Option Value)} {vsC : Array Value} {fileS : Str} {tf : Tok} {ccl cl : Value} {cdd cld : Option Addr} {ccs csl : Array (Option Value)}
    {CInsideItself : Addr}
    {CInvalidCourse : Addr}
    {CInvalidHands : Addr}
    {CInvalidLog : Addr}
    {CInvalidNumber : Addr}
    {CIsSealed : Addr}
    {CNoCourse : Addr}
    {CNotHeld : Addr}
    {CNotInside : Addr}
    {CNotSealed : Addr}
    {CUnknownBox : Addr}
    {CUnknownHand : Addr}
    {CUnknownItem : Addr}
    {CUnknownSeal : Addr}
    {th tbx tth ts : Tok}
    (aC : PySem.W.nsIn K mainGlobals "House" = some (some (.ref C)))
    (aCE : PySem.W.nsIn K mainGlobals "InvalidHouse" = some (some (.ref CE)))
    (aCW : PySem.W.nsIn K mainGlobals "WatchError" = some (some (.ref CW)))
    (am0 : PySem.W.nsIn K mainGlobals "is_number" = some (some (.ref fm0)))
    (lm0 : K.lookup fm0 = some ⟨ocm0, odm0, .func (PySem.W.fnOf "is_number" "is_number" (defArgs sNum) (defBody sNum) (defScope sNum) .none kVm0 dcm0 pmm0 anm0 cdm0 ctm0), slm0⟩)
    (cm0 : PySem.W.codeIn K cdm0 "is_number" = true)
    (km0 : PySem.W.keepIn K (.ref fm0) = true)
    (am1 : PySem.W.nsIn K mainGlobals "how_many" = some (some (.ref fm1)))
    (lm1 : K.lookup fm1 = some ⟨ocm1, odm1, .func (PySem.W.fnOf "how_many" "how_many" (defArgs sMany) (defBody sMany) (defScope sMany) .none kVm1 dcm1 pmm1 anm1 cdm1 ctm1), slm1⟩)
    (cm1 : PySem.W.codeIn K cdm1 "how_many" = true)
    (km1 : PySem.W.keepIn K (.ref fm1) = true)
    (am2 : PySem.W.nsIn K mainGlobals "is_place" = some (some (.ref fm2)))
    (lm2 : K.lookup fm2 = some ⟨ocm2, odm2, .func (PySem.W.fnOf "is_place" "is_place" (defArgs sIsPl) (defBody sIsPl) (defScope sIsPl) .none kVm2 dcm2 pmm2 anm2 cdm2 ctm2), slm2⟩)
    (cm2 : PySem.W.codeIn K cdm2 "is_place" = true)
    (km2 : PySem.W.keepIn K (.ref fm2) = true)
    (am3 : PySem.W.nsIn K mainGlobals "need_boxes" = some (some (.ref fm3)))
    (lm3 : K.lookup fm3 = some ⟨ocm3, odm3, .func (PySem.W.fnOf "need_boxes" "need_boxes" (defArgs sBoxes) (defBody sBoxes) (defScope sBoxes) .none kVm3 dcm3 pmm3 anm3 cdm3 ctm3), slm3⟩)
    (cm3 : PySem.W.codeIn K cdm3 "need_boxes" = true)
    (km3 : PySem.W.keepIn K (.ref fm3) = true)
    (am4 : PySem.W.nsIn K mainGlobals "need_house" = some (some (.ref fm4)))
    (lm4 : K.lookup fm4 = some ⟨ocm4, odm4, .func (PySem.W.fnOf "need_house" "need_house" (defArgs sNeed) (defBody sNeed) (defScope sNeed) .none kVm4 dcm4 pmm4 anm4 cdm4 ctm4), slm4⟩)
    (cm4 : PySem.W.codeIn K cdm4 "need_house" = true)
    (km4 : PySem.W.keepIn K (.ref fm4) = true)
    (am5 : PySem.W.nsIn K mainGlobals "_law_begun" = some (some (.ref fm5)))
    (lm5 : K.lookup fm5 = some ⟨ocm5, odm5, .func (PySem.W.fnOf "_law_begun" "_law_begun" (defArgs sBegun) (defBody sBegun) (defScope sBegun) .none kVm5 dcm5 pmm5 anm5 cdm5 ctm5), slm5⟩)
    (cm5 : PySem.W.codeIn K cdm5 "_law_begun" = true)
    (km5 : PySem.W.keepIn K (.ref fm5) = true)
    (am6 : PySem.W.nsIn K mainGlobals "_law_take" = some (some (.ref fm6)))
    (lm6 : K.lookup fm6 = some ⟨ocm6, odm6, .func (PySem.W.fnOf "_law_take" "_law_take" (defArgs sTake) (defBody sTake) (defScope sTake) .none kVm6 dcm6 pmm6 anm6 cdm6 ctm6), slm6⟩)
    (cm6 : PySem.W.codeIn K cdm6 "_law_take" = true)
    (km6 : PySem.W.keepIn K (.ref fm6) = true)
    (am7 : PySem.W.nsIn K mainGlobals "_law_alike" = some (some (.ref fm7)))
    (lm7 : K.lookup fm7 = some ⟨ocm7, odm7, .func (PySem.W.fnOf "_law_alike" "_law_alike" (defArgs sAlike) (defBody sAlike) (defScope sAlike) .none kVm7 dcm7 pmm7 anm7 cdm7 ctm7), slm7⟩)
    (cm7 : PySem.W.codeIn K cdm7 "_law_alike" = true)
    (km7 : PySem.W.keepIn K (.ref fm7) = true)
    (am8 : PySem.W.nsIn K mainGlobals "_law_places" = some (some (.ref fm8)))
    (lm8 : K.lookup fm8 = some ⟨ocm8, odm8, .func (PySem.W.fnOf "_law_places" "_law_places" (defArgs sPlaces) (defBody sPlaces) (defScope sPlaces) .none kVm8 dcm8 pmm8 anm8 cdm8 ctm8), slm8⟩)
    (cm8 : PySem.W.codeIn K cdm8 "_law_places" = true)
    (km8 : PySem.W.keepIn K (.ref fm8) = true)
    (am9 : PySem.W.nsIn K mainGlobals "_law_house" = some (some (.ref fm9)))
    (lm9 : K.lookup fm9 = some ⟨ocm9, odm9, .func (PySem.W.fnOf "_law_house" "_law_house" (defArgs sHouse) (defBody sHouse) (defScope sHouse) .none kVm9 dcm9 pmm9 anm9 cdm9 ctm9), slm9⟩)
    (cm9 : PySem.W.codeIn K cdm9 "_law_house" = true)
    (km9 : PySem.W.keepIn K (.ref fm9) = true)
    (am10 : PySem.W.nsIn K mainGlobals "_law_error" = some (some (.ref fm10)))
    (lm10 : K.lookup fm10 = some ⟨ocm10, odm10, .func (PySem.W.fnOf "_law_error" "_law_error" (defArgs sErr) (defBody sErr) (defScope sErr) .none kVm10 dcm10 pmm10 anm10 cdm10 ctm10), slm10⟩)
    (cm10 : PySem.W.codeIn K cdm10 "_law_error" = true)
    (km10 : PySem.W.keepIn K (.ref fm10) = true)
    (am11 : PySem.W.nsIn K mainGlobals "_law_is_place" = some (some (.ref fm11)))
    (lm11 : K.lookup fm11 = some ⟨ocm11, odm11, .func (PySem.W.fnOf "_law_is_place" "_law_is_place" (defArgs sLIsPl) (defBody sLIsPl) (defScope sLIsPl) .none kVm11 dcm11 pmm11 anm11 cdm11 ctm11), slm11⟩)
    (cm11 : PySem.W.codeIn K cdm11 "_law_is_place" = true)
    (km11 : PySem.W.keepIn K (.ref fm11) = true)
    (am12 : PySem.W.nsIn K mainGlobals "_law_due" = some (some (.ref fm12)))
    (lm12 : K.lookup fm12 = some ⟨ocm12, odm12, .func (PySem.W.fnOf "_law_due" "_law_due" (defArgs sDue) (defBody sDue) (defScope sDue) .none kVm12 dcm12 pmm12 anm12 cdm12 ctm12), slm12⟩)
    (cm12 : PySem.W.codeIn K cdm12 "_law_due" = true)
    (km12 : PySem.W.keepIn K (.ref fm12) = true)
    (am13 : PySem.W.nsIn K mainGlobals "_law_rows" = some (some (.ref fm13)))
    (lm13 : K.lookup fm13 = some ⟨ocm13, odm13, .func (PySem.W.fnOf "_law_rows" "_law_rows" (defArgs sRows) (defBody sRows) (defScope sRows) .none kVm13 dcm13 pmm13 anm13 cdm13 ctm13), slm13⟩)
    (cm13 : PySem.W.codeIn K cdm13 "_law_rows" = true)
    (km13 : PySem.W.keepIn K (.ref fm13) = true)
    (at0 : PySem.W.findIn K (.ref C) "__init__" = some (some (.ref ft0)))
    (lt0 : K.lookup ft0 = some ⟨oct0, odt0, .func (PySem.W.fnOf "__init__" "House.__init__" (defArgs sInit) (defBody sInit) (defScope sInit) .none kVt0 dct0 pmt0 ant0 cdt0 ctt0), slt0⟩)
    (ct0 : PySem.W.codeIn K cdt0 "House.__init__" = true)
    (kt0 : PySem.W.keepIn K (.ref ft0) = true)
    (i0 : PySem.W.isFn K (.ref ft0) = true)
    (pa : PySem.W.findIn K (.ref C) "all_items" = some (some (.ref pI)))
    (at1 : PySem.W.recIn K pI "property" = some (.ref ft1 :: rI))
    (lt1 : K.lookup ft1 = some ⟨oct1, odt1, .func (PySem.W.fnOf "all_items" "House.all_items" (defArgs sItems) (defBody sItems) (defScope sItems) .none kVt1 dct1 pmt1 ant1 cdt1 ctt1), slt1⟩)
    (ct1 : PySem.W.codeIn K cdt1 "House.all_items" = true)
    (kt1 : PySem.W.keepIn K (.ref ft1) = true)
    (pg : PySem.W.specialIn K (.ref pI) "__get__" = some (some (.builtin "property.__get__")))
    (pt : PySem.W.takesIn K (.ref pI) = some true)
    (at2 : PySem.W.findIn K (.ref C) "__contains__" = some (some (.ref ft2)))
    (lt2 : K.lookup ft2 = some ⟨oct2, odt2, .func (PySem.W.fnOf "__contains__" "House.__contains__" (defArgs sHas) (defBody sHas) (defScope sHas) .none kVt2 dct2 pmt2 ant2 cdt2 ctt2), slt2⟩)
    (ct2 : PySem.W.codeIn K cdt2 "House.__contains__" = true)
    (kt2 : PySem.W.keepIn K (.ref ft2) = true)
    (i2 : PySem.W.isFn K (.ref ft2) = true)
    (at3 : PySem.W.findIn K (.ref C) "__eq__" = some (some (.ref ft3)))
    (lt3 : K.lookup ft3 = some ⟨oct3, odt3, .func (PySem.W.fnOf "__eq__" "House.__eq__" (defArgs sEqH) (defBody sEqH) (defScope sEqH) .none kVt3 dct3 pmt3 ant3 cdt3 ctt3), slt3⟩)
    (ct3 : PySem.W.codeIn K cdt3 "House.__eq__" = true)
    (kt3 : PySem.W.keepIn K (.ref ft3) = true)
    (i3 : PySem.W.isFn K (.ref ft3) = true)
    (aL : PySem.W.nsIn K mainGlobals "law" = some (some (.ref fL)))
    (lL : K.lookup fL = some ⟨ocL, odL, .func (PySem.W.fnOf "law" "law" (defArgs sLaw) (defBody sLaw) (defScope sLaw) .none kVL dcL pmL anL (.ref cd) ctL), slL⟩)
    (cL : PySem.W.codeIn K (.ref cd) "law" = true)
    (hpg : PySem.W.plainGet K C Str.empty = true)
    (hhd : PySem.W.hasDictIn K C = true)
    (hpo : PySem.W.plainOver K C = true)
    (hsa : PySem.W.findIn K (.ref C) "__setattr__" = some (some (.builtin "object.__setattr__")))
    (hmk : PySem.W.makesIn K C = true)
    (hkc : PySem.W.keepIn K (.ref C) = true)
    (nH : PySem.W.findIn K (.ref C) "hands" = some none)
    (nB : PySem.W.findIn K (.ref C) "boxes" = some none)
    (nT : PySem.W.findIn K (.ref C) "things" = some none)
    (nS : PySem.W.findIn K (.ref C) "seals" = some none)
    (nSt : PySem.W.findIn K (.ref C) "state" = some none)
    (cha : PySem.W.findIn K (.ref C) "__class__" = some (some (.builtin "object.__class__")))
    (chn : PySem.W.specialIn K (.builtin "object.__class__") "__get__" = some (some (.builtin "getset_descriptor.__get__")))
    (cht : PySem.W.takesIn K (.builtin "object.__class__") = some true)
    (chm : PySem.W.mroIn K C (.type "object") = some true)
    (chk : PySem.W.kitOne K (.ref C) (.ref C) = some true)
    (xL : K.lookup CE = some (excClassObj nm q CE N bs bm true sn sub ab col ddE g0 g1 g2 g3 g5 "ValueError.__new__"))
    (xv : PySem.HandSPX.refsVE bm = true)
    (xa : PySem.W.alongIn K "__init__" ((((Value.ref CE :: bm).dropWhile (· != .ref CE)).drop 1)) = some (some (.builtin "ValueError.__init__")))
    (xsa : PySem.W.findIn K (.ref CE) "__setattr__" = some (some (.builtin "object.__setattr__")))
    (xex : PySem.W.subIn K (.ref CE) (.type "BaseException") = some true)
    (xty : PySem.W.typeIn K (.ref CE) = some (.type "type"))
    (xkc : PySem.W.keepIn K (.ref CE) = true)
    (xtp : PySem.W.nsIn K cStatics "thirdparty.any" = some none)
    (xve : PySem.W.subIn K (.ref CE) (.type "ValueError") = some true)
    (xse : PySem.W.mroIn K CE (.ref CE) = some true)
    (xga : PySem.W.findIn K (.ref CE) "__getattribute__" = some (some (.builtin "BaseException.__getattribute__")))
    (xgg : PySem.W.findIn K (.ref CE) "__getattr__" = some none)
    (xhd : PySem.W.hasDictIn K CE = true)
    (xha : PySem.W.findIn K (.ref CE) "__class__" = some (some (.builtin "object.__class__")))
    (xhm : PySem.W.mroIn K CE (.type "object") = some true)
    (xnP : PySem.W.findIn K (.ref CE) "part" = some none)
    (xnI : PySem.W.findIn K (.ref CE) "index" = some none)
    (xi : PySem.W.findIn K (.ref CE) "__init__" = some (some (.ref fI)))
    (xit : PySem.W.typeIn K (.ref fI) = some (.type "function"))
    (xil : K.lookup fI = some ⟨ocI, odI, .func (PySem.W.ksFn "__init__" "InvalidHouse.__init__" (defArgs sIH) (defBody sIH) (defScope sIH) .none kVI dcI pmI anI (.ref cda) ctI cc), slI⟩)
    (xic : PySem.W.codeIn K (.ref cda) "InvalidHouse.__init__" = true)
    (xcl : K.lookup cda = some ⟨ccl, cdd, .fields vsC, ccs⟩)
    (xcf : vsC[2]? = some (.str fileS tf))
    (xff : ((l.prog.main.file : Str) == fileS) = true)
    (xcc : K.lookup cc = some ⟨cl, cld, .cell (some (.ref CE)), csl⟩)
    (xtop : (l.prog.main.scope.names.lookup ("super" : Str)).isSome = false)
    (wbe : PySem.W.subIn K (.ref CW) (.type "BaseException") = some true)
    (wcl : PySem.W.hasDictIn K CW = true)
    (wty : PySem.W.typeIn K (.ref CW) = some (.type "type"))
    (wsu : PySem.W.subIn K (.ref CE) (.ref CW) = some true)
    (kve : PySem.W.kitOne K (.ref CE) (.type "ValueError") = some true)
    (nInsideItself : PySem.W.nsIn K mainGlobals "InsideItself" = some (some (.ref CInsideItself)))
    (qInsideItself : PySem.W.kitOne K (.ref CE) (.ref CInsideItself) = some false)
    (nInvalidCourse : PySem.W.nsIn K mainGlobals "InvalidCourse" = some (some (.ref CInvalidCourse)))
    (qInvalidCourse : PySem.W.kitOne K (.ref CE) (.ref CInvalidCourse) = some false)
    (nInvalidHands : PySem.W.nsIn K mainGlobals "InvalidHands" = some (some (.ref CInvalidHands)))
    (qInvalidHands : PySem.W.kitOne K (.ref CE) (.ref CInvalidHands) = some false)
    (nInvalidLog : PySem.W.nsIn K mainGlobals "InvalidLog" = some (some (.ref CInvalidLog)))
    (qInvalidLog : PySem.W.kitOne K (.ref CE) (.ref CInvalidLog) = some false)
    (nInvalidNumber : PySem.W.nsIn K mainGlobals "InvalidNumber" = some (some (.ref CInvalidNumber)))
    (qInvalidNumber : PySem.W.kitOne K (.ref CE) (.ref CInvalidNumber) = some false)
    (nIsSealed : PySem.W.nsIn K mainGlobals "IsSealed" = some (some (.ref CIsSealed)))
    (qIsSealed : PySem.W.kitOne K (.ref CE) (.ref CIsSealed) = some false)
    (nNoCourse : PySem.W.nsIn K mainGlobals "NoCourse" = some (some (.ref CNoCourse)))
    (qNoCourse : PySem.W.kitOne K (.ref CE) (.ref CNoCourse) = some false)
    (nNotHeld : PySem.W.nsIn K mainGlobals "NotHeld" = some (some (.ref CNotHeld)))
    (qNotHeld : PySem.W.kitOne K (.ref CE) (.ref CNotHeld) = some false)
    (nNotInside : PySem.W.nsIn K mainGlobals "NotInside" = some (some (.ref CNotInside)))
    (qNotInside : PySem.W.kitOne K (.ref CE) (.ref CNotInside) = some false)
    (nNotSealed : PySem.W.nsIn K mainGlobals "NotSealed" = some (some (.ref CNotSealed)))
    (qNotSealed : PySem.W.kitOne K (.ref CE) (.ref CNotSealed) = some false)
    (nUnknownBox : PySem.W.nsIn K mainGlobals "UnknownBox" = some (some (.ref CUnknownBox)))
    (qUnknownBox : PySem.W.kitOne K (.ref CE) (.ref CUnknownBox) = some false)
    (nUnknownHand : PySem.W.nsIn K mainGlobals "UnknownHand" = some (some (.ref CUnknownHand)))
    (qUnknownHand : PySem.W.kitOne K (.ref CE) (.ref CUnknownHand) = some false)
    (nUnknownItem : PySem.W.nsIn K mainGlobals "UnknownItem" = some (some (.ref CUnknownItem)))
    (qUnknownItem : PySem.W.kitOne K (.ref CE) (.ref CUnknownItem) = some false)
    (nUnknownSeal : PySem.W.nsIn K mainGlobals "UnknownSeal" = some (some (.ref CUnknownSeal)))
    (qUnknownSeal : PySem.W.kitOne K (.ref CE) (.ref CUnknownSeal) = some false)
    (qInvalidHouse : PySem.W.kitOne K (.ref CE) (.ref CE) = some true)
    (zisinstance : PySem.W.nsIn K mainGlobals "isinstance" = some none)
    (zint : PySem.W.nsIn K mainGlobals "int" = some none)
    (zbool : PySem.W.nsIn K mainGlobals "bool" = some none)
    (zlen : PySem.W.nsIn K mainGlobals "len" = some none)
    (zenumerate : PySem.W.nsIn K mainGlobals "enumerate" = some none)
    (ztuple : PySem.W.nsIn K mainGlobals "tuple" = some none)
    (zlist : PySem.W.nsIn K mainGlobals "list" = some none)
    (zrange : PySem.W.nsIn K mainGlobals "range" = some none)
    (zstr : PySem.W.nsIn K mainGlobals "str" = some none)
    (zValueError : PySem.W.nsIn K mainGlobals "ValueError" = some none)
    (zsuper : PySem.W.nsIn K mainGlobals "super" = some none)
    (jh : PySem.W.nsIn K mainGlobals "MOST_HANDS" = some (some (.int 4 th)))
    (jb : PySem.W.nsIn K mainGlobals "MOST_BOXES" = some (some (.int 3 tbx)))
    (jt : PySem.W.nsIn K mainGlobals "MOST_THINGS" = some (some (.int 4 tth)))
    (js : PySem.W.nsIn K mainGlobals "MOST_SEALS" = some (some (.int 3 ts)))
    (hcd : PySem.W.codeHdIn K cd tb = true)
    (ntb : K.lookup tb = none)
    (hT : h.get? tb = some { cls := .none, data := .fields #[] }) : LamX.LawAtS l w K CX0 9 63 "_law_script" mg fa h := by
  have e := hfa.symm.trans (PySem.W.mg_of X G aL)
  cases e
  have B : Bt mg := ⟨PySem.W.mg_none_of X G zisinstance, PySem.W.mg_none_of X G zint, PySem.W.mg_none_of X G zbool, PySem.W.mg_none_of X G zlen, PySem.W.mg_none_of X G zenumerate, PySem.W.mg_none_of X G ztuple, PySem.W.mg_none_of X G zlist, PySem.W.mg_none_of X G zrange, PySem.W.mg_none_of X G zstr⟩
  have Z : Cs mg := ⟨⟨_, PySem.W.mg_of X G jh⟩, ⟨_, PySem.W.mg_of X G jb⟩, ⟨_, PySem.W.mg_of X G jt⟩, ⟨_, PySem.W.mg_of X G js⟩⟩
  have cl : Cls K C := ⟨hpg, hhd, hpo, hsa⟩
  have hc : HouseC K C := ⟨cl, nH, nB, nT, nS, nSt⟩
  have hi : HouseI K C := ⟨cha, chn, cht, chm, chk⟩
  have gC := PySem.W.mg_of X G aC
  have gCE := PySem.W.mg_of X G aCE
  have Fis_number := fun_mk (st := sNum) lm0 cm0 km0
  have bis_number := Fis_number.binds (ps := ["value", "limit"]) fun _ _ _ _ _ _ us hl => match us, hl with | [_, _], _ => rfl
  have gis_number := PySem.W.mg_of X G am0
  have Fhow_many := fun_mk (st := sMany) lm1 cm1 km1
  have bhow_many := Fhow_many.binds (ps := ["house", "word"]) fun _ _ _ _ _ _ us hl => match us, hl with | [_, _], _ => rfl
  have ghow_many := PySem.W.mg_of X G am1
  have Fis_place := fun_mk (st := sIsPl) lm2 cm2 km2
  have bis_place := Fis_place.binds (ps := ["place", "hands", "boxes"]) fun _ _ _ _ _ _ us hl => match us, hl with | [_, _, _], _ => rfl
  have gis_place := PySem.W.mg_of X G am2
  have Fneed_boxes := fun_mk (st := sBoxes) lm3 cm3 km3
  have bneed_boxes := Fneed_boxes.binds (ps := ["hands", "boxes"]) fun _ _ _ _ _ _ us hl => match us, hl with | [_, _], _ => rfl
  have gneed_boxes := PySem.W.mg_of X G am3
  have Fneed_house := fun_mk (st := sNeed) lm4 cm4 km4
  have bneed_house := Fneed_house.binds (ps := ["hands", "boxes", "things", "seals"]) fun _ _ _ _ _ _ us hl => match us, hl with | [_, _, _, _], _ => rfl
  have gneed_house := PySem.W.mg_of X G am4
  have F_law_begun := fun_mk (st := sBegun) lm5 cm5 km5
  have b_law_begun := F_law_begun.binds (ps := ["_law_script"]) fun _ _ _ _ _ _ us hl => match us, hl with | [_], _ => rfl
  have g_law_begun := PySem.W.mg_of X G am5
  have F_law_take := fun_mk (st := sTake) lm6 cm6 km6
  have b_law_take := F_law_take.binds (ps := ["_law_box", "_law_many"]) fun _ _ _ _ _ _ us hl => match us, hl with | [_, _], _ => rfl
  have g_law_take := PySem.W.mg_of X G am6
  have F_law_alike := fun_mk (st := sAlike) lm7 cm7 km7
  have b_law_alike := F_law_alike.binds (ps := ["_law_found", "_law_due_here"]) fun _ _ _ _ _ _ us hl => match us, hl with | [_, _], _ => rfl
  have g_law_alike := PySem.W.mg_of X G am7
  have F_law_places := fun_mk (st := sPlaces) lm8 cm8 km8
  have b_law_places := F_law_places.binds (ps := ["_law_box", "_law_hands", "_law_many"]) fun _ _ _ _ _ _ us hl => match us, hl with | [_, _, _], _ => rfl
  have g_law_places := PySem.W.mg_of X G am8
  have F_law_house := fun_mk (st := sHouse) lm9 cm9 km9
  have b_law_house := F_law_house.binds (ps := ["_law_box", "_law_sizes"]) fun _ _ _ _ _ _ us hl => match us, hl with | [_, _], _ => rfl
  have g_law_house := PySem.W.mg_of X G am9
  have F_law_error := fun_mk (st := sErr) lm10 cm10 km10
  have b_law_error := F_law_error.binds (ps := ["_law_work"]) fun _ _ _ _ _ _ us hl => match us, hl with | [_], _ => rfl
  have g_law_error := PySem.W.mg_of X G am10
  have F_law_is_place := fun_mk (st := sLIsPl) lm11 cm11 km11
  have b_law_is_place := F_law_is_place.binds (ps := ["_law_part", "_law_index", "_law_place", "_law_hands", "_law_boxes", "_law_seals"]) fun _ _ _ _ _ _ us hl => match us, hl with | [_, _, _, _, _, _], _ => rfl
  have g_law_is_place := PySem.W.mg_of X G am11
  have F_law_due := fun_mk (st := sDue) lm12 cm12 km12
  have b_law_due := F_law_due.binds (ps := ["_law_hands", "_law_boxes", "_law_things", "_law_seals"]) fun _ _ _ _ _ _ us hl => match us, hl with | [_, _, _, _], _ => rfl
  have g_law_due := PySem.W.mg_of X G am12
  have F_law_rows := fun_mk (st := sRows) lm13 cm13 km13
  have b_law_rows := F_law_rows.binds (ps := ["_law_box", "_law_most", "_law_odd"]) fun _ _ _ _ _ _ us hl => match us, hl with | [_, _, _], _ => rfl
  have g_law_rows := PySem.W.mg_of X G am13
  have Ft0 := fun_mk (st := sInit) lt0 ct0 kt0
  have bt0 := Ft0.binds (ps := ["self", "hands", "boxes", "things", "seals"]) fun _ _ _ _ _ _ us hl => match us, hl with | [_, _, _, _, _], _ => rfl
  have Ft1 := fun_mk (st := sItems) lt1 ct1 kt1
  have bt1 := Ft1.binds (ps := ["self"]) fun _ _ _ _ _ _ us hl => match us, hl with | [_], _ => rfl
  have Ft2 := fun_mk (st := sHas) lt2 ct2 kt2
  have bt2 := Ft2.binds (ps := ["self", "item"]) fun _ _ _ _ _ _ us hl => match us, hl with | [_, _], _ => rfl
  have Ft3 := fun_mk (st := sEqH) lt3 ct3 kt3
  have bt3 := Ft3.binds (ps := ["self", "other"]) fun _ _ _ _ _ _ us hl => match us, hl with | [_, _], _ => rfl
  have M : Mk K C ft0 := ⟨hmk, at0, i0, hkc⟩
  have oex : OexC K CE := ⟨⟨nm, q, N, bs, bm, sn, sub, ab, col, ddE, g0, g1, g2, g3, g5, xL, xv⟩, xsa, xex, xty, xkc⟩
  have sup : SupC l.prog K mg CE := ⟨oex, ⟨nm, q, N, bs, bm, sn, sub, ab, col, ddE, g0, g1, g2, g3, g5, xL, xv, xa⟩, xtp, PySem.W.mg_none_of X G zsuper, xve, xse, xtop⟩
  have bIH : Binds K (PySem.W.ksFn "__init__" "InvalidHouse.__init__" (defArgs sIH) (defBody sIH) (defScope sIH) .none kVI dcI pmI anI (.ref cda) ctI cc) (["self", "part", "index"] : List Str) [] := Binds.all fun us hl => match us, hl with | [_, _, _], _ => rfl
  have T : ExcI l.prog K mg "InvalidHouse" "InvalidHouse.__init__" sIH CE fI (PySem.W.ksFn "__init__" "InvalidHouse.__init__" (defArgs sIH) (defBody sIH) (defScope sIH) .none kVI dcI pmI anI (.ref cda) ctI cc) :=
    ⟨sup, xi, xit, gCE, ⟨ocI, odI, kVI, dcI, pmI, anI, ctI, slI, cc, cda, rfl, xil, xic, ⟨ccl, cdd, vsC, ccs, fileS, tf, xcl, xcf, xff⟩, ⟨_, cld, csl, xcc⟩⟩, bIH⟩
  have EX : ExcC K CE := ⟨xga, xgg, xex, xhd, xha, chn, cht, xhm⟩
  have EF : ErrF K mg CE CW := ⟨EX, ⟨xga, xgg, xex, xhd⟩, xnP, xnI, PySem.W.mg_of X G aCW, PySem.W.exm_ref wbe wcl wty wsu, PySem.W.mg_none_of X G zValueError, kve, ⟨_, PySem.W.mg_of X G nInsideItself, qInsideItself⟩, ⟨_, PySem.W.mg_of X G nInvalidCourse, qInvalidCourse⟩, ⟨_, PySem.W.mg_of X G nInvalidHands, qInvalidHands⟩, ⟨_, gCE, qInvalidHouse⟩, ⟨_, PySem.W.mg_of X G nInvalidLog, qInvalidLog⟩, ⟨_, PySem.W.mg_of X G nInvalidNumber, qInvalidNumber⟩, ⟨_, PySem.W.mg_of X G nIsSealed, qIsSealed⟩, ⟨_, PySem.W.mg_of X G nNoCourse, qNoCourse⟩, ⟨_, PySem.W.mg_of X G nNotHeld, qNotHeld⟩, ⟨_, PySem.W.mg_of X G nNotInside, qNotInside⟩, ⟨_, PySem.W.mg_of X G nNotSealed, qNotSealed⟩, ⟨_, PySem.W.mg_of X G nUnknownBox, qUnknownBox⟩, ⟨_, PySem.W.mg_of X G nUnknownHand, qUnknownHand⟩, ⟨_, PySem.W.mg_of X G nUnknownItem, qUnknownItem⟩, ⟨_, PySem.W.mg_of X G nUnknownSeal, qUnknownSeal⟩⟩
  refine ⟨PySem.W.fnOf "law" "law" (defArgs sLaw) (defBody sLaw) (defScope sLaw) .none kVL dcL pmL anL (.ref cd) ctL, [(cd, tb)], spLaw K tb, fun p hp => by rw [List.mem_singleton.mp hp]; exact hT, fun p hp => by rw [List.mem_singleton.mp hp]; exact ntb, fun p hp => by rw [List.mem_singleton.mp hp]; exact PySem.W.codeHd_of_K X hcd, fun s v => .of_eq rfl, fun H a ns hl _ hTb hS => ⟨a, ns, rfl, hTb (cd, tb) List.mem_cons_self, hS, hl, fun _ => rfl⟩, fun base hb hg hTB => ?_⟩
  have TB : LamX.TabB base mg cd tb := hTB (cd, tb) List.mem_cons_self
  have GN : FnOk l.prog w K mg base CX0 1 fm0 (PySem.W.fnOf "is_number" "is_number" (defArgs sNum) (defBody sNum) (defScope sNum) .none kVm0 dcm0 pmm0 anm0 cdm0 ctm0) ["value", "limit"] spNum := ok_num Fis_number B
  have GM : FnOk l.prog w K mg base CX0 1 fm1 (PySem.W.fnOf "how_many" "how_many" (defArgs sMany) (defBody sMany) (defScope sMany) .none kVm1 dcm1 pmm1 anm1 cdm1 ctm1) ["house", "word"] (spMany K C) := ok_many Fhow_many B hc
  have GP : FnOk l.prog w K mg base CX0 2 fm2 (PySem.W.fnOf "is_place" "is_place" (defArgs sIsPl) (defBody sIsPl) (defScope sIsPl) .none kVm2 dcm2 pmm2 anm2 cdm2 ctm2) ["place", "hands", "boxes"] (spIsPl K) := ok_ispl Fis_place Fis_number B gis_number bis_number
  have GI0 : FnOk l.prog w K mg base CX0 1 fI _ ["self", "part", "index"] (spIH CE) := ok_ih T xnP xnI
  have GB := ok_boxes (w := w) (base := base) Fneed_boxes B Z GP gis_place Fis_place.kp bis_place T GI0
  have GNH := ok_need (w := w) (base := base) Fneed_house B Z GP gis_place Fis_place.kp bis_place GN gis_number Fis_number.kp bis_number GB gneed_boxes Fneed_boxes.kp bneed_boxes T GI0
  have GH := ok_house (w := w) (base := base) Ft0 B hc GNH gneed_house Fneed_house.kp bneed_house
  have GT : FnOk l.prog w K mg base CX0 1 fm6 (PySem.W.fnOf "_law_take" "_law_take" (defArgs sTake) (defBody sTake) (defScope sTake) .none kVm6 dcm6 pmm6 anm6 cdm6 ctm6) ["_law_box", "_law_many"] spTake := ok_take F_law_take B
  have GPL := ok_places (w := w) (base := base) F_law_places GT g_law_take F_law_take.kp b_law_take
  have GLH := ok_lhouse (w := w) (base := base) F_law_house B GT g_law_take F_law_take.kp b_law_take GPL g_law_places F_law_places.kp b_law_places M GH gC bt0
  have GIP : FnOk l.prog w K mg base CX0 1 fm11 (PySem.W.fnOf "_law_is_place" "_law_is_place" (defArgs sLIsPl) (defBody sLIsPl) (defScope sLIsPl) .none kVm11 dcm11 pmm11 anm11 cdm11 ctm11) ["_law_part", "_law_index", "_law_place", "_law_hands", "_law_boxes", "_law_seals"] (spLIsPl K) := ok_lispl F_law_is_place B
  have GD := ok_due (w := w) (base := base) F_law_due B GIP g_law_is_place F_law_is_place.kp b_law_is_place
  have GR := ok_rows (w := w) (base := base) F_law_rows B GT g_law_take F_law_take.kp b_law_take
  have GIt : FnOk l.prog w K mg base CX0 1 ft1 _ ["self"] (spItems K C) := ok_items Ft1 B hc
  have GHa := ok_has (w := w) (base := base) Ft2 B GM ghow_many Fhow_many.kp bhow_many GN gis_number Fis_number.kp bis_number
  have GEq : FnOk l.prog w K mg base CX0 1 ft3 _ ["self", "other"] (spEqH K C) := ok_eqh Ft3 B hc hi gC
  have GBe : FnOk l.prog w K mg base CX0 1 fm5 (PySem.W.fnOf "_law_begun" "_law_begun" (defArgs sBegun) (defBody sBegun) (defScope sBegun) .none kVm5 dcm5 pmm5 anm5 cdm5 ctm5) ["_law_script"] (spBegun K) := ok_begun F_law_begun B
  have LF : LawF l.prog w K mg base C CE CW fa fm5 fm6 fm7 fm9 fm10 fm12 fm13 ft0 ft1 pI ft2 ft3 (PySem.W.fnOf "law" "law" (defArgs sLaw) (defBody sLaw) (defScope sLaw) .none kVL dcL pmL anL (.ref cd) ctL) (PySem.W.fnOf "_law_begun" "_law_begun" (defArgs sBegun) (defBody sBegun) (defScope sBegun) .none kVm5 dcm5 pmm5 anm5 cdm5 ctm5) (PySem.W.fnOf "_law_take" "_law_take" (defArgs sTake) (defBody sTake) (defScope sTake) .none kVm6 dcm6 pmm6 anm6 cdm6 ctm6) (PySem.W.fnOf "_law_alike" "_law_alike" (defArgs sAlike) (defBody sAlike) (defScope sAlike) .none kVm7 dcm7 pmm7 anm7 cdm7 ctm7) (PySem.W.fnOf "_law_house" "_law_house" (defArgs sHouse) (defBody sHouse) (defScope sHouse) .none kVm9 dcm9 pmm9 anm9 cdm9 ctm9) (PySem.W.fnOf "_law_error" "_law_error" (defArgs sErr) (defBody sErr) (defScope sErr) .none kVm10 dcm10 pmm10 anm10 cdm10 ctm10) (PySem.W.fnOf "_law_due" "_law_due" (defArgs sDue) (defBody sDue) (defScope sDue) .none kVm12 dcm12 pmm12 anm12 cdm12 ctm12) (PySem.W.fnOf "_law_rows" "_law_rows" (defArgs sRows) (defBody sRows) (defScope sRows) .none kVm13 dcm13 pmm13 anm13 cdm13 ctm13) _ _ _ _ :=
    { Bg := GBe, mB := g_law_begun, kB := F_law_begun.kp, bB := b_law_begun, T := GT, mT := g_law_take, kT := F_law_take.kp, bT := b_law_take, A := ok_alike F_law_alike B g_law_alike b_law_alike, mA := g_law_alike, kA := F_law_alike.kp, bA := b_law_alike,
      LH := GLH, mLH := g_law_house, kLH := F_law_house.kp, bLH := b_law_house, E := F_law_error, mE := g_law_error, bE := b_law_error, EF := EF, D := GD, mD := g_law_due, kD := F_law_due.kp, bD := b_law_due, R := GR, mR := g_law_rows, kR := F_law_rows.kp, bR := b_law_rows,
      hc := hc, cl := cl, M := M, GH := GH, mH := gC, bGH := bt0, Pr := ⟨pa, pg, pt, ⟨rI, at1⟩⟩, I := GIt, bI := bt1, H := GHa, Hs := at2, Hi := i2, bH := bt2, Q := GEq, Qs := at3, Qi := i3, bQ := bt3 }
  exact ok_law LF B TB lL cL
end Kw

set_option Elab.async false
set_option linter.all false
open PySem PySem.W PyProof.Rows
set_option maxRecDepth 100000 in
set_option maxHeartbeats 0 in
theorem PySem.Challenge.cw_sealwatch_k01_houses_validated_holds : PySem.Challenge.rw_sealwatch_k01_houses_validated.Holds := by
  w_on; o_law; k_head; (case hw => w_witness2)
  k_fill
  refine LamX.walk_ofTs (l := PySem.Challenge.rw_sealwatch_k01_houses_validated) (n := 63) (k := 9) (CX := fun _ => L2.CX0) (x := "_law_script") rfl (by decide) rfl ⟨rfl, by decide, by decide⟩ (fun w h Y => PySem.W.km_in_of Y) ?F (fun _ _ _ _ _ z => z)
  case F =>
    intro w mg fa h Y KX G hmg
    refine' Kw.all_mk (tb := 373) KX G hmg ?aC ?aCE ?aCW ?am0 ?lm0 ?cm0 ?km0 ?am1 ?lm1 ?cm1 ?km1 ?am2 ?lm2 ?cm2 ?km2 ?am3 ?lm3 ?cm3 ?km3 ?am4 ?lm4 ?cm4 ?km4 ?am5 ?lm5 ?cm5 ?km5 ?am6 ?lm6 ?cm6 ?km6 ?am7 ?lm7 ?cm7 ?km7 ?am8 ?lm8 ?cm8 ?km8 ?am9 ?lm9 ?cm9 ?km9 ?am10 ?lm10 ?cm10 ?km10 ?am11 ?lm11 ?cm11 ?km11 ?am12 ?lm12 ?cm12 ?km12 ?am13 ?lm13 ?cm13 ?km13 ?at0 ?lt0 ?ct0 ?kt0 ?i0 ?pa ?at1 ?lt1 ?ct1 ?kt1 ?pg ?pt ?at2 ?lt2 ?ct2 ?kt2 ?i2 ?at3 ?lt3 ?ct3 ?kt3 ?i3 ?aL ?lL ?cL ?hpg ?hhd ?hpo ?hsa ?hmk ?hkc ?nH ?nB ?nT ?nS ?nSt ?cha ?chn ?cht ?chm ?chk ?xL ?xv ?xa ?xsa ?xex ?xty ?xkc ?xtp ?xve ?xse ?xga ?xgg ?xhd ?xha ?xhm ?xnP ?xnI ?xi ?xit ?xil ?xic ?xcl ?xcf ?xff ?xcc ?xtop ?wbe ?wcl ?wty ?wsu ?kve ?nInsideItself ?qInsideItself ?nInvalidCourse ?qInvalidCourse ?nInvalidHands ?qInvalidHands ?nInvalidLog ?qInvalidLog ?nInvalidNumber ?qInvalidNumber ?nIsSealed ?qIsSealed ?nNoCourse ?qNoCourse ?nNotHeld ?qNotHeld ?nNotInside ?qNotInside ?nNotSealed ?qNotSealed ?nUnknownBox ?qUnknownBox ?nUnknownHand ?qUnknownHand ?nUnknownItem ?qUnknownItem ?nUnknownSeal ?qUnknownSeal ?qInvalidHouse ?zisinstance ?zint ?zbool ?zlen ?zenumerate ?ztuple ?zlist ?zrange ?zstr ?zValueError ?zsuper ?jh ?jb ?jt ?js ?hcd ?ntb ?hT
    (case aC => k_is)
    (case aCE => k_is)
    (case aCW => k_is)
    (case am0 => k_is)
    (case lm0 => k_is)
    (case cm0 => k_is)
    (case km0 => k_is)
    (case am1 => k_is)
    (case lm1 => k_is)
    (case cm1 => k_is)
    (case km1 => k_is)
    (case am2 => k_is)
    (case lm2 => k_is)
    (case cm2 => k_is)
    (case km2 => k_is)
    (case am3 => k_is)
    (case lm3 => k_is)
    (case cm3 => k_is)
    (case km3 => k_is)
    (case am4 => k_is)
    (case lm4 => k_is)
    (case cm4 => k_is)
    (case km4 => k_is)
    (case am5 => k_is)
    (case lm5 => k_is)
    (case cm5 => k_is)
    (case km5 => k_is)
    (case am6 => k_is)
    (case lm6 => k_is)
    (case cm6 => k_is)
    (case km6 => k_is)
    (case am7 => k_is)
    (case lm7 => k_is)
    (case cm7 => k_is)
    (case km7 => k_is)
    (case am8 => k_is)
    (case lm8 => k_is)
    (case cm8 => k_is)
    (case km8 => k_is)
    (case am9 => k_is)
    (case lm9 => k_is)
    (case cm9 => k_is)
    (case km9 => k_is)
    (case am10 => k_is)
    (case lm10 => k_is)
    (case cm10 => k_is)
    (case km10 => k_is)
    (case am11 => k_is)
    (case lm11 => k_is)
    (case cm11 => k_is)
    (case km11 => k_is)
    (case am12 => k_is)
    (case lm12 => k_is)
    (case cm12 => k_is)
    (case km12 => k_is)
    (case am13 => k_is)
    (case lm13 => k_is)
    (case cm13 => k_is)
    (case km13 => k_is)
    (case at0 => k_is)
    (case lt0 => k_is)
    (case ct0 => k_is)
    (case kt0 => k_is)
    (case i0 => k_is)
    (case pa => k_is)
    (case at1 => k_is)
    (case lt1 => k_is)
    (case ct1 => k_is)
    (case kt1 => k_is)
    (case pg => k_is)
    (case pt => k_is)
    (case at2 => k_is)
    (case lt2 => k_is)
    (case ct2 => k_is)
    (case kt2 => k_is)
    (case i2 => k_is)
    (case at3 => k_is)
    (case lt3 => k_is)
    (case ct3 => k_is)
    (case kt3 => k_is)
    (case i3 => k_is)
    (case aL => k_is)
    (case lL => k_is)
    (case cL => k_is)
    (case hpg => k_is)
    (case hhd => k_is)
    (case hpo => k_is)
    (case hsa => k_is)
    (case hmk => k_is)
    (case hkc => k_is)
    (case nH => k_is)
    (case nB => k_is)
    (case nT => k_is)
    (case nS => k_is)
    (case nSt => k_is)
    (case cha => k_is)
    (case chn => k_is)
    (case cht => k_is)
    (case chm => k_is)
    (case chk => kit_is)
    (case xL => k_is)
    (case xv => first | rfl | kernel_rfl | decide +kernel)
    (case xa => first | rfl | kernel_rfl | decide +kernel)
    (case xsa => k_is)
    (case xex => k_is)
    (case xty => k_is)
    (case xkc => k_is)
    (case xtp => k_is)
    (case xve => k_is)
    (case xse => k_is)
    (case xga => k_is)
    (case xgg => k_is)
    (case xhd => k_is)
    (case xha => k_is)
    (case xhm => k_is)
    (case xnP => k_is)
    (case xnI => k_is)
    (case xi => k_is)
    (case xit => k_is)
    (case xil => k_is)
    (case xic => k_is)
    (case xcl => k_is)
    (case xcf => first | rfl | kernel_rfl | decide +kernel)
    (case xff => first | rfl | kernel_rfl | decide +kernel)
    (case xcc => k_is)
    (case xtop => first | rfl | kernel_rfl | decide +kernel)
    (case wbe => k_is)
    (case wcl => k_is)
    (case wty => k_is)
    (case wsu => k_is)
    (case kve => kit_is)
    (case nInsideItself => k_is)
    (case qInsideItself => kit_is)
    (case nInvalidCourse => k_is)
    (case qInvalidCourse => kit_is)
    (case nInvalidHands => k_is)
    (case qInvalidHands => kit_is)
    (case nInvalidLog => k_is)
    (case qInvalidLog => kit_is)
    (case nInvalidNumber => k_is)
    (case qInvalidNumber => kit_is)
    (case nIsSealed => k_is)
    (case qIsSealed => kit_is)
    (case nNoCourse => k_is)
    (case qNoCourse => kit_is)
    (case nNotHeld => k_is)
    (case qNotHeld => kit_is)
    (case nNotInside => k_is)
    (case qNotInside => kit_is)
    (case nNotSealed => k_is)
    (case qNotSealed => kit_is)
    (case nUnknownBox => k_is)
    (case qUnknownBox => kit_is)
    (case nUnknownHand => k_is)
    (case qUnknownHand => kit_is)
    (case nUnknownItem => k_is)
    (case qUnknownItem => kit_is)
    (case nUnknownSeal => k_is)
    (case qUnknownSeal => kit_is)
    (case qInvalidHouse => kit_is)
    (case zisinstance => k_is)
    (case zint => k_is)
    (case zbool => k_is)
    (case zlen => k_is)
    (case zenumerate => k_is)
    (case ztuple => k_is)
    (case zlist => k_is)
    (case zrange => k_is)
    (case zstr => k_is)
    (case zValueError => k_is)
    (case zsuper => k_is)
    (case jh => k_is)
    (case jb => k_is)
    (case jt => k_is)
    (case js => k_is)
    (case hcd => first | rfl | kernel_rfl | decide +kernel)
    (case ntb => first | rfl | kernel_rfl | decide +kernel)
    (case hT => exact PySem.W.km_tabs_of Y 373 (by decide))
#print axioms PySem.Challenge.cw_sealwatch_k01_houses_validated_holds
