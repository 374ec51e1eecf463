import PyProof.Rows.All
import Wide.All
import OpenK.AllK
import Wide.FinOn
import PyProof.EqAt
import PyProof.EqKinds
import PyProof.TupleCall
import KE.KExcSuper
import HandS.Base
import HandS.Call
import HandS.List
import HandS.Ends
import HandS.Exc
import HandS.ExcInit
import KE.GoesMore
import HandS.Iter
import KE.KIsAll
import KE.KTryMore
import HandS.ExcIs
import HandS.Deep
import HandS.Words
import HandS.Strs
import HandS.ForExc
import HandS.Comp
import HandS.FStr
import HandS.Property
import HandS.IsInst
import HandS.TupAny
import HandS.RaiseMore
import PySem.Challenge.RW_sealwatch_k02_whole_deeds_done
import HandS.StrMore
import HandS.Lambda
import HandS.ExcField
import PyProof.Rows.MatchSeqLen
import HandS.FStrTup
import HandS.Sort
import HandS.TupLe
import PyProof.P3Eq
import KE.KSortTup
import KE.KCallOwn
import HandS.TryOnly
import HandS.Conv
import HandS.More
import HandS.EndTab
set_option Elab.async false
set_option linter.all false
set_option maxRecDepth 100000
set_option maxHeartbeats 4000000
/-! An own exception class (over own classes over ValueError) whose `__init__` begins with `super().__init__(text)` and then stores fields: its promise (FnOk), so that pmk_oex serves it. -/
namespace Kw
open PySem PySem.Spec PyProof.Rows L2

/-- the scope of such an __init__: parameters alone, the class's cell, the name super -/
structure SupScope (N : List Str) (sc : Scope) : Prop where
  kind : sc.kind = .function
  co : sc.isCoroutine = false
  gen : sc.isGenerator = false
  nd : N.Nodup
  par : ∀ x ∈ N, sc.names.lookup x = some .local
  nocell : ∀ y ∈ sc.names, y.2 ≠ .cell
  onlyFree : ∀ y, sc.names.lookup y = some .free → y = ("__class__" : Str)
  cls : sc.names.lookup ("__class__" : Str) = some .free
  sup : sc.names.lookup ("super" : Str) = some .globalImplicit

abbrev sEnv (qual : Str) (scope : Scope) (L f : Addr) (cd : Value) (cc : Addr) : Env := PySem.W.ksEnv qual scope L f cd cc

/-- the context of the body -/
def supCx (CX : CXT) (P : Program) (w : World) (K : PySem.W.Frag) (mg : Str → Option Value) (base : Heap) (N : List Str) (qual : Str) (scope : Scope) (f : Addr) (cd : Value) (cc : Addr) (A : Around) (outer : List Env) (s : Shared) (H : Hp) (E : XK) : Cx where
  prog := P
  w := w
  K := K
  mg := mg
  base := base
  A := A.deeper (sEnv qual scope s.heap.objs.size f cd cc)
  N := N
  s_0 := s
  H_0 := H
  env := sEnv qual scope s.heap.objs.size f cd cc
  outer := outer
  stack := sEnv qual scope s.heap.objs.size f cd cc :: outer
  ex := []
  calm := true
  fn := fun _ => false
  pn := []
  xe := fun e s' => wpAny (model P w) (A.deeper (sEnv qual scope s.heap.objs.size f cd cc)) (leaving (sEnv qual scope s.heap.objs.size f cd cc) e) (fun _ s'' => CX outer H s E e s'') (fun e' s'' => CX outer H s E e' s'') s'

section
variable {CX : CXT} {P : Program} {w : World} {K : PySem.W.Frag} {mg : Str → Option Value} {base : Heap} {N : List Str} {qual : Str} {scope : Scope} {f cc : Addr} {cd : Value} {A : Around} {outer : List Env} {s : Shared} {H : Hp} {E : XK}
theorem sup_start {us : List Value} {vs : List V} {h1 : Heap} {tk : Nat} {D : Addr} {ccl : Value} {ccd : Option Addr} {ccs : Array (Option Value)} (S : SupScope N scope) (hd : A.handled = none) (e0 : Env0 P w K mg base A outer s H) (hl : vs.length = N.length) (r : Vals vs us)
    (hcell : K.lookup cc = some ⟨ccl, ccd, .cell (some (.ref D)), ccs⟩)
    (hns : h1.Ns s.heap.objs.size (fun x => (N.zip us).reverse.lookup x)) (hk : ∀ b o, s.heap.get? b = some o → h1.get? b = some o) :
    Inv (supCx CX P w K mg base N qual scope f cd cc A outer s H E) [] (vs.map some) H { s with heap := h1, toks := tk } := by
  have noA : ∀ b : Addr, b ∉ (supCx CX P w K mg base N qual scope f cd cc A outer s H E).ex := fun b z => absurd (show b ∈ ([] : List Addr) from z) (by simp)
  have KX := e0.mod.kin
  have hcb := KX _ _ hcell
  have cells : ∀ {y c}, (supCx CX P w K mg base N qual scope f cd cc A outer s H E).env.cells.lookup y = some c → y = ("__class__" : Str) ∧ c = cc := fun {y c} h => by
    have h' : List.lookup y [(("__class__" : Str), cc)] = some c := h
    by_cases e : y = ("__class__" : Str)
    · subst e
      have q : List.lookup ("__class__" : Str) [(("__class__" : Str), cc)] = some cc := by simp [List.lookup]
      rw [q] at h'
      exact ⟨rfl, (Option.some.inj h').symm⟩
    · have q : (y == ("__class__" : Str)) = false := by simpa using e
      simp [List.lookup, q] at h'
  refine ⟨⟨e0.mod, S.kind, rfl, rfl, Nat.le_refl _, fun y z c h1 h2 => (cells h1).1.trans (cells h2).1.symm, fun y hy => ?_, fun y c h _ => Bool.noConfusion (show false = true from h), fun _ => hd, Around.frames_deeper e0.frames, .inr ⟨rfl, rfl⟩, fun b z => absurd z (noA b), e0.bs, e0.bsz, fun b _ _ => noA b, fun b z => absurd z (noA b), e0.funs, e0.frf⟩,
    rfl, e0.bare, Un.kept hk, ⟨_, hns, fun i y v h1 h2 h3 => ?_⟩, fun y c h => ?_, e0.hok.fresh (Nat.le_refl _), fun y c h => ?_, fun p hp => absurd (show p ∈ ([] : List (Addr × Obj)) from hp) (by simp), e0.hok.kept hk, ?_⟩
  · have hy : scope.names.lookup y = some .cell ∨ scope.names.lookup y = some .free := hy
    rcases hy with hy | hy
    · exact absurd rfl (S.nocell _ (PySem.mem_of_lookup hy))
    · have e := S.onlyFree y hy
      subst e
      exact ⟨cc, by show List.lookup ("__class__" : Str) [(("__class__" : Str), cc)] = some cc; simp [List.lookup]⟩
  · rw [List.getElem?_map] at h2
    cases e : vs[i]? with
    | none =>
      rw [e] at h2
      cases h2
    | some a =>
      rw [e] at h2
      cases h2
      obtain ⟨u, hu, rv⟩ := r.get e
      have hp : N[i]? = some y := h1
      refine ⟨u, rv, .inl ⟨S.par y (List.mem_of_getElem? hp), ?_⟩⟩
      have hlen := r.length
      -- the place of y in the reversed bindings
      have key : ∀ (N : List Str) (us : List Value) (i : Nat), N.Nodup → N[i]? = some y → us[i]? = some u → (N.zip us).reverse.lookup y = some u := by
        intro N
        induction N with
        | nil => intro us i _ h; simp at h
        | cons n N ih =>
          intro us i nd h1 h2
          cases us with
          | nil => simp at h2
          | cons u0 us =>
            rw [List.zip_cons_cons, List.reverse_cons]
            cases i with
            | zero =>
              simp at h1 h2
              subst h1 h2
              have hn : (N.zip us).reverse.lookup n = none := by
                have hnn := (List.nodup_cons.mp nd).1
                cases q : (N.zip us).reverse.lookup n with
                | none => rfl
                | some z =>
                  have hm := PySem.mem_of_lookup q
                  exact absurd (List.of_mem_zip (List.mem_reverse.mp hm)).1 hnn
              rw [List.lookup_append, hn]
              simp [List.lookup]
            | succ i =>
              have q := ih us i (List.nodup_cons.mp nd).2 (by simpa using h1) (by simpa using h2)
              rw [List.lookup_append, q]
              rfl
      exact key N us i S.nd hp hu
  · obtain ⟨_, rfl⟩ := cells h
    exact ⟨_, _, hk _ _ (e0.bs _ _ hcb).1, rfl⟩
  · obtain ⟨_, rfl⟩ := cells h
    exact (e0.bs _ _ hcb).2
  · show (vs.map some).length = N.length
    rw [List.length_map, hl]
end

/-! ### super().__init__(text) on an exception that is being made -/
/-- what the written part says: the class at C that is made, the class at D in whose body the __init__ stands (here the same) -/
structure SupC (prog : Program) (K : PySem.W.Frag) (mg : Str → Option Value) (C : Addr) : Prop where
  oex : OexC K C
  along : ∃ nm q N bs bm sn sub ab col dd k0 k1 k2 k3 k5, K.lookup C = some (excClassObj nm q C N bs bm true sn sub ab col dd k0 k1 k2 k3 k5 "ValueError.__new__") ∧ PySem.HandSPX.refsVE bm = true ∧
    PySem.W.alongIn K "__init__" ((((Value.ref C :: bm).dropWhile (· != .ref C)).drop 1)) = some (some (.builtin "ValueError.__init__"))
  tp : PySem.W.nsIn K cStatics "thirdparty.any" = some none
  sup : mg "super" = none
  isVE : PySem.W.subIn K (.ref C) (.type "ValueError") = some true
  self : PySem.W.mroIn K C (.ref C) = some true
  htop : (prog.main.scope.names.lookup ("super" : Str)).isSome = false

theorem boot_super : bootBuiltins "super" = some (.type "super") := by first | boot_by_name | rfl | kernel_rfl

section
variable {X : Cx} {pins : List (Addr × Obj)} {σ : L2.St} {H : Hp} {s : Shared} {a C : Addr} {E : Value → Shared → Prop} {A : Around}
/-- the built-in __init__, bound: nothing of it is told -/
theorem bw_ok {us : List Value} {u : Addr} {Q : Value → Shared → Prop} (T : OexC X.K C) (I : Inv X pins σ H s) (e : H a = some (exo a C none)) (hu : s.heap.get? u = some (PySem.W.kxs_mw "ValueError.__init__" a)) (hl : us.length ≤ sizeLine) (h : ∀ s', Inv X pins σ H s' → Q .none s') :
    wpAny (model X.prog X.w) A (call (.ref u) us) Q E s := by
  obtain ⟨nm, q, N, bs, bm, sn, sub, ab, col, dd, k0, k1, k2, k3, k5, hC, hbm⟩ := T.cls
  obtain ⟨t1, ho⟩ := exo_at I.hok e
  have hCk := I.kIn _ _ hC
  obtain ⟨hp, g, d, t, os⟩ := s
  have fin : ∀ h' : Heap, (∀ b o, b ≠ a → hp.get? b = some o → h'.get? b = some o) → h'.get? a = some (PySem.HandSPX.excO C hp.objs.size) → h'.get? hp.objs.size = some (PySem.W.excTup us) → Q .none ⟨h', g, d, t, os⟩ := fun h' k hx _ => by
    have J := I.write (t' := t) (x := a) (e := a) (o := exo a C none) (by rw [e]; exact True.intro) (.inl rfl) k ⟨_, hx⟩ (exo_ok hx)
    have eu : upd H a (exo a C none) = H := by
      funext b
      by_cases hb : b = a
      · rw [hb, upd_same, e]
      · rw [upd_ne hb]
    rw [eu] at J
    exact h _ J
  refine wpAny_call (codeAny_of_tree ?_)
  show wpAny _ A.in1 (callAny (.ref u) ⟨us, []⟩) _ _ _
  simp only [callAny]
  refine wpAny_bind (wpAny_load hu ?_)
  simp only [PySem.W.kxs_mw, show (Value.type "method-wrapper" == Value.type "method" || Value.type "method-wrapper" == Value.type "builtin_function_or_method" || Value.type "method-wrapper" == Value.type "method-wrapper") = true by decide, if_true]
  refine PySem.W.KFB.if_so (by decide) ?_
  refine wpAny_bind (PySem.W.check_bound_init F.excBase_ValueError.toExcCallFacts hCk ho rfl ?_)
  refine wpAny_bind (wpAny_pure (wpAny_pure ?_))
  refine ⟨plainId_quiet F.excBase_ValueError.init.plain _, codeAny_builtin F.excBase_ValueError.initEntry ?_⟩
  exact PySem.W.exc_init_tree (cls := .ref C) (t0 := t1) (dv := none) (c2 := .none) (c3 := .none) (b4 := .bool false) ho hl fin
end

/-! ### the body: super().__init__(e); the rest -/
/-- the reading: e a text, then self is an exception that is being made, then the rest -/
def tSup (C : Addr) (te : TE) (t : TS) : TS := fun D σ H => te σ H fun v H1 => (∃ z, v = .str z) ∧ ∃ a, σ[0]? = some (some (.ref a)) ∧ H1 a = some (exo a C none) ∧ t D σ H1
abbrev supCall (e : Expr) (p0 p1 p2 p3 : Pos) : Expr := .Call (.Attribute (.Call (.Name "super" p0) [] [] p1) "__init__" p2) [e] [] p3
section
variable {CX : CXT} {P : Program} {w : World} {K : PySem.W.Frag} {mg : Str → Option Value} {base : Heap} {k : Nat} {N : List Str} {name qual : Str} {scope : Scope} {params : Arguments} {f cc cda C : Addr} {ar : Arg} {vsC : Array Value} {fileS : Str} {tf : Tok}
  {dV kV doc pm ct oc ccl cl : Value} {an od cdd cld : Option Addr} {osl ccs csl : Array (Option Value)} {e : Expr} {rest : List Stmt} {p0 p1 p2 p3 p4 : Pos} {sp : Sp} {pl : Addr → Sem Bool}
theorem fn_super (T : SupC P K mg C)
    (lk : K.lookup f = some ⟨oc, od, .func (PySem.W.ksFn name qual params (.Expr (supCall e p0 p1 p2 p3) p4 :: rest) scope dV kV doc pm an (.ref cda) ct cc), osl⟩) (hcd : PySem.W.codeIn K (.ref cda) qual = true)
    (hp : (params.posonlyargs ++ params.args).head? = some ar) (hself : N[0]? = some ar.arg)
    (hcode : K.lookup cda = some ⟨ccl, cdd, .fields vsC, ccs⟩) (hvs : vsC[2]? = some (.str fileS tf)) (hfile : ((P.main.file : Str) == fileS) = true)
    (hcell : K.lookup cc = some ⟨cl, cld, .cell (some (.ref C)), csl⟩)
    (S : SupScope N scope) (len : ∀ vs H Q E, sp vs H Q E → vs.length = N.length)
    (hsw : ∀ L, swapsWith (supCall e p0 p1 p2 p3) none p4.line (sEnv qual scope L f (.ref cda) cc) = pure false)
    (hev : ∀ L, eval (supCall e p0 p1 p2 p3) (sEnv qual scope L f (.ref cda) cc) = (do
      let ov ← attributeBase (.Call (.Name "super" p0) [] [] p1) "__init__" (sEnv qual scope L f (.ref cda) cc) (eval (.Call (.Name "super" p0) [] [] p1) (sEnv qual scope L f (.ref cda) cc))
      standAt p2.atName
      let (g, first) ← holding [ov] (getMethod ov "__init__" (pl L))
      callWith p3 g first (backTo p3 (starEach [e] (sEnv qual scope L f (.ref cda) cc))) []))
    (hst : ∀ L, starEach [e] (sEnv qual scope L f (.ref cda) cc) = [(false, eval e (sEnv qual scope L f (.ref cda) cc))])
    (hbody : ∀ (A : Around) (outer : List Env) (s : Shared) (H : Hp) (vs : List V) (Q : VK) (E : XK), Room k (A.deeper (sEnv qual scope s.heap.objs.size f (.ref cda) cc)) → sp vs H Q E →
      ∃ te t, PE (supCx CX P w K mg base N qual scope f (.ref cda) cc A outer s H E) e te ∧ PSs (supCx CX P w K mg base N qual scope f (.ref cda) cc A outer s H E) rest t ∧
        (∃ a, vs[0]? = some (V.ref a) ∧ H a = some (exo a C none)) ∧ tSup C te t { nx := fun _ H' => Q .non H', rt := Q } (vs.map some) H) :
    FnOk P w K mg base CX (k + 1) f (PySem.W.ksFn name qual params (.Expr (supCall e p0 p1 p2 p3) p4 :: rest) scope dV kV doc pm an (.ref cda) ct cc) N sp := by
  refine ⟨len, fun A outer s H args us vs Q E hr e0 hb r hsp => ?_⟩
  have hl := len _ _ _ _ hsp
  have KX : K.In s.heap := e0.mod.kin.keeps fun b o e => (e0.bs b o e).1
  have lim : s.heap.NoLimit := e0.mod.nolimit.keeps fun b o e => (e0.bs b o e).1
  refine PySem.ks_codeAny_call_defAt (binds := N.zip us) hr.depth (KX _ _ lk) rfl lim (PySem.W.codeRec_of KX hcd) rfl hb S.nocell (fun y hy => S.par y.1 (List.of_mem_zip hy).1) (fun h1 hns hk => ?_) S.co S.gen S.kind
  obtain ⟨te, t, pe, pss, ⟨a, hva, hHa⟩, hq⟩ := hbody A outer s H vs Q E (hr.deeper _) hsp
  have I : L2.Inv (supCx CX P w K mg base N qual scope f (.ref cda) cc A outer s H E) [] (vs.map some) H { s with heap := h1, toks := s.toks + (N.zip us).length } := sup_start S hr.hd e0 hl r hcell hns hk
  have fin : ∀ {σ' : L2.St} {H' : Hp} {v : V} {u : Value} {s' : Shared}, L2.Inv (supCx CX P w K mg base N qual scope f (.ref cda) cc A outer s H E) [] σ' H' s' → RelV v u → Q v H' → CE outer P w H s Q u s' :=
    fun {σ' H' v u s'} J rv q => ⟨v, H', J.os, J.bare, J.base, J.hok, rv, q⟩
  show PySem.wpAt _ _ _ (execs _ (sEnv qual scope s.heap.objs.size f (.ref cda) cc)) _ _ _
  refine PySem.ks_wpAt_execs_cons (PySem.ks_wpAt_Expr_any (PySem.ks_wpAt_MethodCall (pl := pl s.heap.objs.size) ?_ (hev _)) I.quiet (hsw _))
  obtain ⟨nm, q, N', bs, bm, sn, sub, ab, col, dd, k0, k1, k2, k3, k5, hC, hbm, hal⟩ := T.along
  have KX1 : K.In h1 := KX.keeps hk
  have hcl : PySem.W.clsIn K C = some { name := nm, bases := bs, mro := .ref C :: bm, ns := N', qualname := q, hasDict := true, slotNames := sn, subclasses := sub, abstract := ab, collection := col, hasDel := false } := by unfold PySem.W.clsIn; rw [hC] <;> rfl
  have e0' : (vs.map some)[0]? = some (some (V.ref a)) := by rw [List.getElem?_map, hva]; rfl
  -- self, a
  obtain ⟨m, hnm, hlm⟩ := id I.loc
  obtain ⟨uS, ruS, lkS⟩ := hlm 0 ar.arg (V.ref a) hself e0' (.inl (S.par _ (List.mem_of_getElem? hself)))
  obtain rfl : uS = Value.ref a := ruS
  have hma : m ar.arg = some (.ref a) := by
    rcases lkS with ⟨_, z⟩ | ⟨z, _⟩
    · exact z
    · have z' : scope.names.lookup ar.arg = some .cell ∨ scope.names.lookup ar.arg = some .free := z
      rw [S.par _ (List.mem_of_getElem? hself)] at z'
      rcases z' with z' | z' <;> cases z'
  obtain ⟨t1, ho⟩ := exo_at I.hok hHa
  obtain ⟨mb, hmb, hmb2⟩ := I.mod.blt
  refine PySem.ks_wpAt_super_base (env := sEnv qual scope s.heap.objs.size f (.ref cda) cc) S.sup S.cls (by decide) rfl (KX1 _ _ lk) rfl hp rfl (KX1 _ _ hcode) rfl hvs hfile T.htop ?_
  refine PySem.W.ks_loadName_global S.kind S.sup (Calls.loadGlobal_builtin (env := sEnv qual scope s.heap.objs.size f (.ref cda) cc) (I.mod.glob.keeps I.bk) T.sup (hmb.keeps I.bk) ((hmb2 _ (by decide +kernel)).trans boot_super) ⟨rfl, ?_⟩)
  refine wpAny_loadName_free S.kind S.cls rfl ⟨_, KX1 _ _ hcell, rfl⟩ ?_
  refine wpAny_loadName_local S.kind (S.par _ (List.mem_of_getElem? hself)) hnm hma ?_
  obtain ⟨oD, hD1, hD2⟩ : ∃ oD, h1.get? C = some oD ∧ oD.data = .cls { name := nm, bases := bs, mro := .ref C :: bm, ns := N', qualname := q, hasDict := true, slotNames := sn, subclasses := sub, abstract := ab, collection := col, hasDel := false } := ⟨_, KX1 _ _ hC, rfl⟩
  refine PySem.ks_wpAny_isType_cls hD1 hD2 ⟨rfl, ?_⟩
  refine PySem.ks_wpAny_call_super hD1 hD2 ho rfl (fun c e => nomatch e) (PySem.W.looks_mroIn KX1 T.self) (fun h2 eso kk => ?_)
  -- the super object stands; its method
  have I2 := I.kept (t' := s.toks + (N.zip us).length) kk
  have KX2 : K.In h2 := KX1.keeps kk
  have ho2 := kk _ _ ho
  have It : PySem.W.InstAt h2 a { cls := .ref C, dict := none, data := .fields #[.ref t1, .none, .none, .none, .bool false, .none] } C none := ⟨ho2, rfl, rfl, trivial⟩
  refine PySem.W.kxs_getMethod PySem.W.kxs_ValueError eso (PySem.W.looks_opaque KX2 T.tp) (l₀ := .ref C :: bm) (fun A Q E s k q => wpAny_bind ((PySem.W.looks_clsIn KX2 hcl) A _ E s k (wpAny_pure q))) rfl KX2 hal (It.type.andThen (PySem.W.looks_subIn KX2 T.isVE)) (PySem.W.ks_ne KX2 It hcl) (by decide) ?_
  have I3 := I2.kept (t' := s.toks + (N.zip us).length + 1) (h' := h2.push (PySem.W.kxs_mw "ValueError.__init__" a)) fun b o e => Heap.get?_push_of_some _ e
  have hu : (h2.push (PySem.W.kxs_mw "ValueError.__init__" a)).get? h2.objs.size = some (PySem.W.kxs_mw "ValueError.__init__" a) := Heap.get?_push_at rfl rfl
  have I4 := I3.pins_of (pins' := [(h2.objs.size, PySem.W.kxs_mw "ValueError.__init__" a)]) (fun p hp => by
    obtain rfl := List.mem_singleton.mp hp
    exact ⟨hu, I2.hok.fresh (Nat.le_refl _), Nat.ne_of_gt I2.lt, I2.nofs (Nat.le_refl _), fun v z => nomatch z⟩)
  show wpAny _ _ (callWith p3 (.ref h2.objs.size) [] (backTo p3 (starEach [e] (sEnv qual scope s.heap.objs.size f (.ref cda) cc))) []) _ _ _
  have pa : PA (supCx CX P w K mg base N qual scope f (.ref cda) cc A outer s H E) [e] (tCons te tNil) := pa_cons pe pa_nil (hst _)
  have ru := pa.run p3 _ _ (vs.map some) H (fun ws H1 => match ws with | [v] => (∃ z, v = .str z) ∧ ∃ a, (vs.map some)[0]? = some (some (.ref a)) ∧ H1 a = some (exo a C none) ∧ t { nx := fun _ H' => Q .non H', rt := Q } (vs.map some) H1 | _ => False) I4 hq
  have ehs : starEach [e] (supCx CX P w K mg base N qual scope f (.ref cda) cc A outer s H E).env = [(false, eval e (sEnv qual scope s.heap.objs.size f (.ref cda) cc))] := hst _
  rw [ehs] at ru
  rw [hst]
  refine PySem.W.kxs_callWith (i := "ValueError.__init__") (x := a) rfl (Calls.evalArgs_plain (thn ru fun ws s5 hw => ?_))
  obtain ⟨vs5, H5, I5, r5, q5⟩ := hw
  have hu5 : s5.heap.get? h2.objs.size = some (PySem.W.kxs_mw "ValueError.__init__" a) := (I5.pin (h2.objs.size, PySem.W.kxs_mw "ValueError.__init__" a) (List.mem_append.mpr (.inr (List.mem_singleton.mpr rfl)))).1
  refine ⟨hu5, ?_⟩
  cases r5 with
  | nil => exact q5.elim
  | @cons v5 u5 vr ur rv rr =>
    cases rr with
    | cons _ _ => exact q5.elim
    | nil =>
      obtain ⟨_, a', ea', hH5, q5⟩ := q5
      have ea : a' = a := by
        have z := ea'.symm.trans e0'
        cases z
        rfl
      subst ea
      refine bw_ok (X := supCx CX P w K mg base N qual scope f (.ref cda) cc A outer s H E) T.oex I5 hH5 hu5 (by show 1 ≤ sizeLine; rw [sizeLine_eq]; decide) fun s6 I6 => ?_
      have I7 : L2.Inv (supCx CX P w K mg base N qual scope f (.ref cda) cc A outer s H E) [] (vs.map some) H5 s6 := I6.unpinned (pins := []) (pl := [(h2.objs.size, PySem.W.kxs_mw "ValueError.__init__" a')])
      show PySem.wpAt _ _ _ (execs rest _) _ _ _
      refine PySem.wpAt_of_wpAny (wpAny_mono (pss.run [] s6 (vs.map some) H5 _ I7 q5) (fun fl s' hs => ?_) fun _ _ x => x)
      cases fl with
      | ret u =>
        obtain ⟨v, σ', H', J, rv, q⟩ := hs
        exact fin J rv q
      | next =>
        obtain ⟨σ', H', J, q⟩ := hs
        exact fin (v := V.non) (u := Value.none) J rfl q
      | brk =>
        obtain ⟨_, _, _, q⟩ := hs
        exact False.elim q
      | cont =>
        obtain ⟨_, _, _, q⟩ := hs
        exact False.elim q
end
end Kw

set_option Elab.async false
set_option linter.all false
set_option maxRecDepth 100000
set_option maxHeartbeats 4000000
/-! More operators: `in` by an own `__contains__`, `==` by an own `__eq__`, enumerate(tuple), `in` over a tuple of data, list.count of bools. -/
namespace Kw
open PySem PySem.Spec PyProof.Rows L2
section
variable {X : Cx} {CX : CXT} {C f : Addr} {fd : FuncData} {k : Nat} {ps : List Str} {sp : Sp} {E : XK}
/-- x in o, o an object of C whose __contains__ keeps sp and gives a bool -/
def rInOwn (C : Addr) (sp : Sp) (E : XK) : R2 := fun x y H Q => ∃ b dx fs, y = .ref b ∧ H b = some (.ins C dx fs) ∧ sp [y, x] H (fun v H' => ∃ k, v = .bl k ∧ Q (.bl k) H') E
def rNotInOwn (C : Addr) (sp : Sp) (E : XK) : R2 := fun x y H Q => ∃ b dx fs, y = .ref b ∧ H b = some (.ins C dx fs) ∧ sp [y, x] H (fun v H' => ∃ k, v = .bl k ∧ Q (.bl (!k)) H') E
theorem op_inOwn (F : FnOk X.prog X.w X.K X.mg X.base CX k f fd ps sp) (hs : PySem.W.findIn X.K (.ref C) "__contains__" = some (some (.ref f))) (hf : PySem.W.isFn X.K (.ref f) = true) (hr : Room k X.A) (hb : Binds X.K fd ps []) (hx : Passes CX X E) :
    OpR X (compareOp .In) (rInOwn C sp E) := by
  intro pins s σ H x y v u Q I rx ry h
  obtain ⟨b, dx, fs, rfl, hH, hsp⟩ := h
  cases ry
  obtain ⟨mA, J, _⟩ := ins_get I.hok hH
  obtain ⟨od, J, _⟩ := J.look
  obtain ⟨m, hF⟩ := I.fr
  refine PySem.W.in_K hF I.ok.mod.kin J hs hf ?_
  refine thn (run_fn (vs := [.ref b, x]) (dvs := []) F hr hb .nil hx I (.cons rfl (.cons rx .nil)) hsp) fun w s1 hw => ?_
  obtain ⟨z, H1, I1, rz, kk, ez, q⟩ := hw
  subst ez
  obtain rfl : w = Value.bool kk := rz
  exact wpAny_truthy_bool ⟨V.bl _, H1, I1, rfl, q⟩
theorem op_notInOwn (F : FnOk X.prog X.w X.K X.mg X.base CX k f fd ps sp) (hs : PySem.W.findIn X.K (.ref C) "__contains__" = some (some (.ref f))) (hf : PySem.W.isFn X.K (.ref f) = true) (hr : Room k X.A) (hb : Binds X.K fd ps []) (hx : Passes CX X E) :
    OpR X (compareOp .NotIn) (rNotInOwn C sp E) := by
  intro pins s σ H x y v u Q I rx ry h
  obtain ⟨b, dx, fs, rfl, hH, hsp⟩ := h
  cases ry
  obtain ⟨mA, J, _⟩ := ins_get I.hok hH
  obtain ⟨od, J, _⟩ := J.look
  obtain ⟨m, hF⟩ := I.fr
  refine PySem.W.notIn_K hF I.ok.mod.kin J hs hf ?_
  refine thn (run_fn (vs := [.ref b, x]) (dvs := []) F hr hb .nil hx I (.cons rfl (.cons rx .nil)) hsp) fun w s1 hw => ?_
  obtain ⟨z, H1, I1, rz, kk, ez, q⟩ := hw
  subst ez
  obtain rfl : w = Value.bool kk := rz
  exact wpAny_truthy_bool ⟨V.bl _, H1, I1, rfl, q⟩
/-- o == p, o and p instances of C whose __eq__ keeps sp and gives a bool -/
def rEqOwn (C : Addr) (sp : Sp) (E : XK) : R2 := fun x y H Q => ∃ a b dx fs dy gs, x = .ref a ∧ y = .ref b ∧ H a = some (.ins C dx fs) ∧ H b = some (.ins C dy gs) ∧ sp [x, y] H (fun v H' => ∃ k, v = .bl k ∧ Q (.bl k) H') E
theorem op_eqOwn (F : FnOk X.prog X.w X.K X.mg X.base CX k f fd ps sp) (hs : PySem.W.findIn X.K (.ref C) "__eq__" = some (some (.ref f))) (hf : PySem.W.isFn X.K (.ref f) = true) (hr : Room k X.A) (hb : Binds X.K fd ps []) (hx : Passes CX X E) :
    OpR X (compareOp .Eq) (rEqOwn C sp E) := by
  intro pins s σ H x y v u Q I rx ry h
  obtain ⟨a, b, dx, fs, dy, gs, rfl, rfl, ha, hb', hsp⟩ := h
  cases rx
  cases ry
  obtain ⟨mA, J, _⟩ := ins_get I.hok ha
  obtain ⟨mB, J', _⟩ := ins_get I.hok hb'
  obtain ⟨od, J, _⟩ := J.look
  obtain ⟨od', J', _⟩ := J'.look
  obtain ⟨m, hF⟩ := I.fr
  show wpAny _ _ (richCompare .Eq (.ref a) (.ref b)) _ _ _
  refine PySem.W.cmp_K (op := .Eq) (tb := .ref C) hr.units0 hF I.ok.mod.kin J J'.type (by simp [PySem.W.notFirst]) hs hf ?_
  refine thn (run_fn (vs := [.ref a, .ref b]) (dvs := []) F hr hb .nil hx I (.cons rfl (.cons rfl .nil)) hsp) fun w s1 hw => ?_
  obtain ⟨z, H1, I1, rz, kk, ez, q⟩ := hw
  subst ez
  obtain rfl : w = Value.bool kk := rz
  exact ⟨V.bl _, H1, I1, rfl, q⟩
end

/-! ### enumerate(tuple) -/
theorem meets_enumerate_newT (l : Addr) (items : Array Value) :
    Meets (Builtin.«enumerate.__new__» ⟨[.type "enumerate", .ref l], []⟩) (fun _ R s => s.heap.IsTuple l items ∧
      R (.ok (.ret (.ref (s.heap.push { cls := .type "tuple_iterator", data := .fields #[.ref l, .int 0 0] }).objs.size)))
        { s with heap := (s.heap.push { cls := .type "tuple_iterator", data := .fields #[.ref l, .int 0 0] }).push { cls := .type "enumerate", data := .fields #[.none, .bool false, .ref s.heap.objs.size, rawInt 0, .none, .none] } }) :=
  .of_wp fun prog w A R s h => by
    obtain ⟨hp, g, d, tk, os⟩ := s; obtain ⟨hL, h⟩ := h
    have hsub := sub_enumerate
    have q1 : ∀ {A' : Around} {E : Value → Shared → Prop} {Q : Value → Shared → Prop}, Q (.ref hp.objs.size) ⟨hp.push { cls := .type "tuple_iterator", data := .fields #[.ref l, .int 0 0] }, g, d, tk, os⟩ → wpAny (model prog w) A' (pyIter (.ref l)) Q E ⟨hp, g, d, tk, os⟩ :=
      fun q => wpAny_pyIter_tuple hL q
    wp_walk using q1
    refine wpAny_stack_any fun st => wpAny_pure ?_
    split
    · rename_i c _ _ _ _ _
      cases (c == Value.type "enumerate")
      · wp_walk using q1
        exact ⟨_, rfl, h⟩
      · wp_walk using q1
        exact ⟨_, rfl, h⟩
    · wp_walk using q1
      exact ⟨_, rfl, h⟩
theorem call_enumerate_tuple {prog : Program} {w : World} {A : Around} {E : Value → Shared → Prop} {s : Shared} {l : Addr} {items : Array Value} {Q : Value → Shared → Prop} (hL : s.heap.IsTuple l items)
    (h : ∀ h', IsEnum h' (s.heap.objs.size + 1) s.heap.objs.size 0 .none → h'.IsTupleIter s.heap.objs.size l 0 → h'.objs.size = s.heap.objs.size + 2 →
      (∀ b o, s.heap.get? b = some o → h'.get? b = some o) → Q (.ref (s.heap.objs.size + 1)) { s with heap := h' }) :
    wpAny (model prog w) A (call (.type "enumerate") [.ref l]) Q E s := by
  refine callType_new F.called_enumerate (by decide) (F.typeCall_enumerate_1 _) (F.newCall_enumerate_1 _) (fun obj => F.args_object_init_2 obj _) F.entry_enumerate_new
    (meets_enumerate_newT l items) ⟨hL, ?_⟩
  have hz : (s.heap.push { cls := .type "tuple_iterator", data := .fields #[.ref l, .int 0 0] }).objs.size = s.heap.objs.size + 1 := Heap.size_push ..
  show _ ∧ _
  rw [hz]
  have he : IsEnum ((s.heap.push { cls := .type "tuple_iterator", data := .fields #[.ref l, .int 0 0] }).push
      { cls := .type "enumerate", data := .fields #[.none, .bool false, .ref s.heap.objs.size, rawInt 0, .none, .none] }) (s.heap.objs.size + 1) s.heap.objs.size 0 .none := by
    have := Heap.get?_push_size (s.heap.push { cls := .type "tuple_iterator", data := .fields #[.ref l, .int 0 0] })
      (o := { cls := .type "enumerate", data := .fields #[.none, .bool false, .ref s.heap.objs.size, rawInt 0, .none, .none] }) rfl
    rw [hz] at this; exact this
  refine ⟨⟨_, he, rfl⟩, h _ he ⟨_, Heap.get?_push_of_some _ (Heap.get?_push_size _ rfl), rfl, rfl⟩ (by rw [Heap.size_push, hz]) fun b o x => Heap.get?_push_of_some _ (Heap.get?_push_of_some _ x)⟩
/-- the tuple at a, each item in a new pair -/
def Itet (K : PySem.W.Frag) (a : Addr) : It :=
  ⟨fun i H => ∃ (xs : List V) (x : V), SqT K H a xs ∧ xs[i]? = some x, fun i H v H' => ∃ T x, v = .ref T ∧ H T = none ∧ H' = upd H T (.tup [.int (i : Nat), x]) ∧ ∀ xs, SqT K H a xs → xs[i]? = some x, fun i H => ∃ xs : List V, SqT K H a xs ∧ xs.length ≤ i⟩
theorem turn_enumT {P : Program} {w : World} {K : PySem.W.Frag} {elts : List Expr} {kk : Nat} {tpos : Pos} (a e it : Addr) :
    Turn P w K (.Tuple elts kk tpos) (Itet K a) [e, it] e (fun i h => (∃ old, IsEnum h e it ((i : Nat) : Int) old) ∧ h.IsTupleIter it a i ∧ e ≠ it) where
  mem := by simp
  obj := fun i h st b hb => by
    obtain ⟨⟨old, he⟩, ⟨o, ho, hc, hd⟩, _⟩ := st
    have e' : b = e ∨ b = it := by simpa using hb
    rcases e' with z | z
    · rw [z]; exact ⟨_, he, fun v q => nomatch q⟩
    · rw [z]; exact ⟨o, ho, fun v q => by rw [hd] at q; cases q⟩
  keep := fun i h h' st k => let ⟨⟨old, he⟩, hi, hne⟩ := st; ⟨⟨old, k e (by simp) _ he⟩, hi.at fun o q => k it (by simp) o q, hne⟩
  item := by
    intro X hP hw hK hc i pins s σ H E I hf st hg
    subst hP hw hK
    obtain ⟨⟨old, he⟩, hit, hne⟩ := st
    obtain ⟨xs, x, hq, hx⟩ := hg
    obtain ⟨its, rv, p, hz⟩ := I.tuple hq
    obtain ⟨u, hu, ru⟩ := rv.get hx
    have hel : e < s.heap.objs.size := Heap.lt_size he
    have hil : it < s.heap.objs.size := by obtain ⟨_, q, _⟩ := hit; exact Heap.lt_size q
    have hat : a ≠ it := fun z => by
      obtain ⟨o1, q1, c1, _⟩ := p
      obtain ⟨o2, q2, c2, _⟩ := hit
      rw [z, q2] at q1
      have q3 := Option.some.inj q1
      subst q3
      rw [c2] at c1
      have c3 : Value.type "tuple_iterator" = Value.type "tuple" := c1
      revert c3
      decide
    have hea : e ≠ a := fun z => by
      obtain ⟨o1, q1, c1, _⟩ := p
      rw [← z] at q1
      have q2 := Option.some.inj (he.symm.trans q1)
      subst q2
      have c3 : Value.type "enumerate" = Value.type "tuple" := c1
      revert c3
      decide
    have hlt : i < its.toArray.size := by
      have z := (List.getElem?_eq_some_iff.mp hu).1
      simpa using z
    refine wpAny_pyNext_enum_itemD (Draws.tuple (prog := X.prog) (w := X.w) (A := X.A.in1) (show X.A.in1.handled = none from I.ok.hd hc) it a hat its.toArray) he ⟨hit, p⟩ hlt hne (by simp [hne, hea]) fun x' h' tk hP ho hst' hT hsz hk => ?_
    have ex : x' = u := by
      have z : its[i]? = some x' := by simpa using hP
      rw [hu] at z
      exact (Option.some.inj z).symm
    subst ex
    refine ⟨_, rfl, wpAny_letOwnedTupleGo_enum (s := { s with heap := h', toks := tk + 1 }) ho fun h'' he' sb => ?_⟩
    have hT2 : h''.get? s.heap.objs.size = some { cls := .type "tuple", data := .seq #[.int i tk, x'] } := (sb.2 _ (Nat.ne_of_gt hel)).trans hT
    have new : ObjOk X.prog X.w (upd H s.heap.objs.size (.tup [.int (i : Nat), x])) h'' s.heap.objs.size (.tup [.int (i : Nat), x]) :=
      ⟨by show 2 ≤ sizeLine; decide, [.int i tk, x'], .cons ⟨_, rfl⟩ (.cons ru .nil), ⟨_, hT2, rfl, _, rfl⟩⟩
    have I1 : L2.Inv X pins σ (upd H s.heap.objs.size (.tup [.int (i : Nat), x])) { s with heap := h'', toks := tk + 1 } :=
      I.turnedNew (ch := [e, it]) (fun b ob hb q => (sb.2 b (fun z => hb (by simp [z]))).trans (hk b ob (fun z => hb (by simp [z])) (fun z => hb (by simp [z])) q)) hf (Nat.le_refl _) new
    refine ⟨.ref s.heap.objs.size, _, I1, rfl, ⟨_, x, rfl, I.hok.fresh (Nat.le_refl _), rfl, fun ys hy => by rw [I.tuple_inj hy hq]; exact hx⟩, ⟨⟨x', ?_⟩, hst'.1.at fun o q => (sb.2 it (Ne.symm hne)).trans q, hne⟩, fun b hb => ?_⟩
    · have e1 : ((i + 1 : Nat) : Int) = (i : Int) + 1 := by omega
      rw [e1]; exact he'
    · have hb' : b < s.heap.objs.size := by
        have e' : b = e ∨ b = it := by simpa using hb
        rcases e' with z | z
        · rw [z]; exact hel
        · rw [z]; exact hil
      rw [upd_ne (Nat.ne_of_lt hb')]
      exact (hf b hb).1
  done := by
    intro X hP hw hK hc i pins s σ H E I hf st hg
    subst hP hw hK
    obtain ⟨⟨old, he⟩, hit, hne⟩ := st
    obtain ⟨xs, hq, hx⟩ := hg
    obtain ⟨its, rv, p, hz⟩ := I.tuple hq
    have hat : a ≠ it := fun z => by
      obtain ⟨o1, q1, c1, _⟩ := p
      obtain ⟨o2, q2, c2, _⟩ := hit
      rw [z, q2] at q1
      have q3 := Option.some.inj q1
      subst q3
      rw [c2] at c1
      have c3 : Value.type "tuple_iterator" = Value.type "tuple" := c1
      revert c3
      decide
    obtain ⟨f0, f1, f2, f3, f4, f5⟩ := hf it (by simp)
    have hl := rv.length
    have hT : s.TypeIs (.ref e) "enumerate" := ⟨_, he, rfl⟩
    unfold pyNext
    refine wpAny_bind (wpAny_attempt (wpAny_callSpecial?_slot (name := Str.ofString "__next__") hT F.slot_enumerate_next
      (wpAny_call_entry F.slot_enumerate_next hT F.entry_enumerate_next ?_ (F.args_enumerate_next_1 _))))
    show wpAny _ _ (field (.ref e) 2 >>= _) _ _ _
    refine wpAny_bind (wpAny_field he rfl (x := .ref it) rfl ?_)
    refine wpAny_bind (wpAny_nextOf_tuple_end (show X.A.in1.handled = none from I.ok.hd hc) hit p (by simp; omega) fun h' x he' hx' => ?_)
    obtain ⟨o, ho, hcx⟩ := hx'
    refine wpAny_bind (wpAny_isInstance (T := "StopIteration") (b := true) ⟨o, ho, hcx⟩ isSubtype_stop ?_)
    exact wpAny_pure ⟨rfl, I.turned (t' := s.toks) (fun b o hb q => he' b o hb q) f0 f1 f3 f4 f5⟩
  self := fun A i s Q E st h => let ⟨⟨_, he⟩, _⟩ := st; wpAny_pyIter_enum he h

def iEnumT (K : PySem.W.Frag) (ta : TA) : TI := fun σ H R => ta σ H fun vs H1 => ∃ a xs, vs = [.ref a] ∧ SqT K H1 a xs ∧ R (Itet K a) H1
theorem pi_enumT {X : Cx} {e : Expr} {ta : TA} {p pos tpos : Pos} {elts : List Expr} {kk : Nat} (hg : Gl X "enumerate") (hm : X.mg "enumerate" = none) (ha : PA X [e] ta) (hs : starEach [e] X.env = [(false, eval e X.env)] := by rfl) :
    PI X (.Tuple elts kk tpos) (.Call (.Name "enumerate" p) [e] [] pos) (iEnumT X.K ta) := by
  refine ⟨fun pins s σ H R I h => ?_⟩
  refine Call_ (ld_blt I hg hm boot_enumerate (PyProof.Rows.callWith_type1 (thn (ha.run pos pins s σ H _ I h) fun us s1 ⟨vs, H1, I1, r1, q1⟩ => ?_) hs rfl))
  obtain ⟨a, xs, ex, hq, q⟩ := q1
  subst ex
  cases r1 with
  | cons r rr =>
    cases rr
    cases r
    obtain ⟨its, rv, p', hz⟩ := I1.tuple hq
    refine call_enumerate_tuple p' fun h' he hit hsz hk => wpAny_pyIter_enum he ?_
    have I2 : L2.Inv X pins σ H1 { s1 with heap := h' } := I1.kept (t' := s1.toks) hk
    refine ⟨s1.heap.objs.size + 1, [s1.heap.objs.size + 1, s1.heap.objs.size], _, _, H1, rfl, I2, turn_enumT a (s1.heap.objs.size + 1) s1.heap.objs.size, ⟨⟨.none, he⟩, hit, Nat.succ_ne_self _⟩, fun b hb => ?_, q⟩
    have e' : b = s1.heap.objs.size + 1 ∨ b = s1.heap.objs.size := by simpa using hb
    have hle : s1.heap.objs.size ≤ b := by
      rcases e' with z | z
      · rw [z]; exact Nat.le_add_right _ _
      · rw [z]; exact Nat.le_refl _
    exact I1.fpOk hle (I1.hok.fresh hle)
/-- a for over enumerate(tuple), the invariant Pv by the turn -/
theorem for_enumT {K : PySem.W.Frag} {a : Addr} {xs : List V} {g : TG} {tb : TS} {D : Ends} {σ : L2.St} {H : Hp} (Pv : Nat → L2.St → Hp → Prop) (h0 : Pv 0 σ H) (hl : ∀ i σ H, i ≤ xs.length → Pv i σ H → SqT K H a xs)
    (hs : ∀ i x σ H T, xs[i]? = some x → Pv i σ H → H T = none → g (.ref T) σ (upd H T (.tup [.int (i : Nat), x])) fun σ2 H2 => tb { D with nx := Pv (i + 1), ct := Pv (i + 1), bk := D.nx } σ2 H2)
    (hd : ∀ σ H, Pv xs.length σ H → D.nx σ H) :
    ∃ W : Nat → Nat → L2.St → Hp → Prop, (∃ m, W 0 m σ H) ∧ ∀ i m σ H, W i m σ H →
      ((Itet K a).stop i H ∧ D.nx σ H) ∨ ((Itet K a).go i H ∧ ∃ N : L2.St → Hp → Prop, (∀ σ' H', N σ' H' → ∃ m', m' < m ∧ W (i + 1) m' σ' H') ∧ ∀ x H', (Itet K a).yld i H x H' → g x σ H' fun σ2 H2 => tb { D with nx := N, ct := N, bk := D.nx } σ2 H2) := by
  refine ⟨fun i m σ H => m = xs.length - i ∧ i ≤ xs.length ∧ Pv i σ H, ⟨xs.length, by simp, Nat.zero_le _, h0⟩, ?_⟩
  rintro i m σ H ⟨rfl, hi, p⟩
  have q := hl i σ H hi p
  by_cases hlt : i < xs.length
  · refine .inr ⟨⟨xs, xs[i], q, by simp [hlt]⟩, Pv (i + 1), fun σ' H' p' => ⟨xs.length - (i + 1), by omega, rfl, hlt, p'⟩, fun x H' y => ?_⟩
    obtain ⟨T, x', ev, hT, eH, hx⟩ := y
    subst ev eH
    exact hs i x' σ H T (hx xs q) p hT
  · have e : i = xs.length := by omega
    subst e
    exact .inl ⟨⟨xs, q, Nat.le_refl _⟩, hd σ H p⟩
end Kw

set_option Elab.async false
set_option linter.all false
set_option maxRecDepth 100000
set_option maxHeartbeats 4000000
namespace Kw
open PySem PySem.Spec PyProof.Rows L2
section
variable {X : Cx}
/-- x in t, t a tuple of data of any depth -/
def rInDT (K : PySem.W.Frag) (neg : Bool) : R2 := fun x y H Q => ∃ d ds, Dp K H x d ∧ Dp K H y (.tuple ds) ∧ SeqAt.shaped d = true ∧ SeqAt.shaped (.tuple ds) = true ∧ Q (.bl (if neg then !(ds.any fun z => PyData.eqv z d) else ds.any fun z => PyData.eqv z d)) H
theorem op_inDT (hu : X.A.units + 65 < cLine) : OpR X (compareOp .In) (rInDT X.K false) := by
  intro pins s σ H x y v u Q I rx ry h
  obtain ⟨d, ds, hd, he, sd, se, q⟩ := h
  obtain ⟨as, r1⟩ := Dp.reads I d x v hd rx
  obtain ⟨bs, r2⟩ := Dp.reads I (.tuple ds) y u he ry
  exact SeqAt.in_tuple_reads r2 r1 (SeqAt.canLay_of_shaped se) (SeqAt.canLay_of_shaped sd) (room_in_shaped sd hu) ⟨.bl _, H, I, rfl, q⟩
theorem op_notInDT (hu : X.A.units + 65 < cLine) : OpR X (compareOp .NotIn) (rInDT X.K true) := by
  intro pins s σ H x y v u Q I rx ry h
  obtain ⟨d, ds, hd, he, sd, se, q⟩ := h
  obtain ⟨as, r1⟩ := Dp.reads I d x v hd rx
  obtain ⟨bs, r2⟩ := Dp.reads I (.tuple ds) y u he ry
  exact SeqAt.notIn_tuple_reads r2 r1 (SeqAt.canLay_of_shaped se) (SeqAt.canLay_of_shaped sd) (room_in_shaped sd hu) ⟨.bl _, H, I, rfl, q⟩
/-- xs.count(b), xs a list of bools -/
def rCntB (K : PySem.W.Frag) : V → List V → Hp → VK → Prop := fun x xs H Q => ∃ (p : Addr) (bs : List Bool) (b : Bool), x = .ref p ∧ xs = [.bl b] ∧ SqL K H p (bs.map V.bl) ∧ Q (.int (bs.count b : Nat)) H
def eqb (b : Bool) (v : Value) : Bool := match v with
  | .bool c => c == b
  | _ => false
theorem mt_countB : MtR X "list.count" (rCntB X.K) := by
  intro pins s σ H x xs v us Q I rx rxs h
  obtain ⟨p, bs, b, rfl, rfl, hs, q⟩ := h
  cases rx
  obtain ⟨u, rfl, ru⟩ := rxs.one
  obtain rfl : u = Value.bool b := ru
  obtain ⟨its, rv, ⟨⟨cls, dd, data, sl⟩, n, ho, hc, hdn, hd⟩, hlen⟩ := I.list hs
  simp only at hc hd
  subst hc hd
  have hi : its = bs.map Value.bool := rv.bls
  refine call_meets PySem.F.slot_list_count ⟨_, ho, rfl⟩ PySem.F.entry_list_count (PySem.F.args_list_count_2 _ _)
    (SeqAt.list_countAt p its.toArray n dd sl (.bool b) (eqb b)) ⟨ho, fun y hy => ?_, ?_⟩
  · have hy' : y ∈ its := by simpa using hy
    rw [hi] at hy'
    obtain ⟨c, _, rfl⟩ := List.mem_map.mp hy'
    have g := eqAt_V (A := X.A.in1) (s := s) (y := V.bl c) (x := V.bl b) (u := Value.bool c) (v := Value.bool b) rfl rfl rfl rfl
    have e : eqV (V.bl c) (V.bl b) = eqb b (Value.bool c) := by cases b <;> cases c <;> rfl
    rw [← e]
    exact g
  · have ec : its.toArray.toList.countP (eqb b) = bs.count b := by
      rw [hi]
      show (bs.map Value.bool).countP (eqb b) = bs.count b
      rw [List.countP_map]
      rfl
    refine ⟨.int (bs.count b : Nat), H, I.tok _, ⟨s.toks, ?_⟩, q⟩
    show Value.int ((its.toArray.toList.countP (eqb b) : Nat) : Int) s.toks = Value.int ((bs.count b : Nat) : Int) s.toks
    rw [ec]
end

/-! ### isinstance of a caught error of an own class, with a dict of its own or without -/
section
open PySem.W
variable {prog : Program} {w : World} {A : Around} {E : Value → Shared → Prop} {s : Shared} {K : Frag} {x D : Addr} {ox : Obj}
theorem findObj_dataO {C : Addr} {name : Str} {a g : Value} {od : Option Obj} (hc : (clsIn K C).isSome = true) (ha : findIn K (.ref C) name = some (some a)) (hg : specialIn K a "__get__" = some (some g)) (ht : takesIn K a = some true) : findObj K C od name = some (.bind g a) := by
  obtain ⟨cd, hc⟩ := Option.isSome_iff_exists.mp hc
  unfold findObj
  rw [hc, Option.bind_some, ha, Option.bind_some]
  simp [hg, ht]
theorem kin_classO {od : Option Obj} {Q : Option Value → Shared → Prop} (hga : findIn K (.ref D) "__getattribute__" = some (some (.builtin "BaseException.__getattribute__"))) (hgt : findIn K (.ref D) "__getattr__" = some none) (hsub : subIn K (.ref D) (.type "BaseException") = some true)
    (hdct : hasDictIn K D = true) (ha : findIn K (.ref D) "__class__" = some (some (.builtin "object.__class__")))
    (hn : specialIn K (.builtin "object.__class__") "__get__" = some (some (.builtin "getset_descriptor.__get__"))) (htk : takesIn K (.builtin "object.__class__") = some true) (hm : mroIn K D (.type "object") = some true)
    (X : K.In s.heap) (I : InstAt s.heap x ox D od) (h : Q (some (.ref D)) { s with toks := s.toks + 1 }) : wpAny (model prog w) A (getAttr? (.ref x) "__class__") Q E s := by
  have hf : findObj K D od "__class__" = some (.bind (.builtin "getset_descriptor.__get__") (.builtin "object.__class__")) := findObj_dataO (by obtain ⟨cd, hc, _⟩ := any_some hdct; rw [hc]; rfl) ha hn htk
  obtain ⟨hp, g, d, t, os⟩ := s
  have L0 := I.type (M := model prog w)
  have L1 := looks_findIn (M := model prog w) X hga
  have L2' := looks_findIn (M := model prog w) X hgt
  have L3 := looks_find (M := model prog w) X I hf
  have sub : Looks (model prog w) hp (isInstance (.ref x) (.type "BaseException")) true := L0.andThen (looks_subIn X hsub)
  have hx0 : (false && onTheHeap (Value.builtin "BaseException.__getattribute__")) = false := rfl
  have hx2 : (Value.builtin "BaseException.__getattribute__" == Value.builtin "object.__getattribute__") = false := by decide +kernel
  have hx1 : (onTheHeap (Value.ref D) && Value.builtin "BaseException.__getattribute__" == Value.builtin "object.__getattribute__") = false := by rw [hx2]; rfl
  unfold getAttr? getAttrBy? getAttrBy
  refine wpAny_bind (wpAny_mkText (wpAny_bind (wpAny_attempt (wpAny_holding (wpAny_bind (L0.at (wpAny_bind (L1.at ?_))))))))
  show wpAny _ _ (if (onTheHeap (Value.ref D) && Value.builtin "BaseException.__getattribute__" == Value.builtin "object.__getattribute__") = true then _ else _) _ _ _
  rw [hx1, if_neg Bool.false_ne_true]
  unfold getAttrByItsOwn hookBefore
  refine wpAny_bind ?_
  rw [if_pos (show onTheHeap (Value.ref D) = true from rfl)]
  refine L2'.at ?_
  refine wpAny_bind (wpAny_attempt (wpAny_holding ?_))
  unfold callGetattribute
  rw [hx0, if_neg Bool.false_ne_true]
  unfold boundAndCalled
  rw [PySem.F.excAttr_ValueError.ga.bind (.ref x)]
  refine wpAny_bind (wpAny_pure ?_)
  show wpAny _ _ (call (.builtin "BaseException.__getattribute__") [.ref x, .str "__class__" t]) _ _ _
  refine wpAny_call (PySem.codeAny_call_builtin PySem.F.excAttr_ValueError.ga.plain PySem.F.entry_bexc_ga ?_)
  refine @check_slot (model prog w) _ _ ⟨hp, g, d, t + 1, os⟩ "BaseException.__getattribute__" "BaseException" "__getattribute__" (.ref x) [.str "__class__" t] [] _ (by decide +kernel) (by decide +kernel) sub (PySem.F.args_bexc_ga (.ref x) (.str "__class__" t)) ?_
  unfold Builtin.«object.__getattribute__»
  refine wpAny_bind (wpAny_of_eq (a := ((Value.ref x : Value), [Value.str "__class__" t])) (by first | rfl | (simp only [slotArgs]; rfl)) ?_)
  refine wpAny_bind (wpAny_pure (wpAny_bind (L0.at (wpAny_bind (L3.at ?_)))))
  show wpAny _ _ (holding [Value.builtin "object.__class__"] (call (.builtin "getset_descriptor.__get__") [.builtin "object.__class__", .ref x, .ref D]) >>= ret) _ _ _
  refine wpAny_bind (wpAny_holding (wpAny_call (class_get (s := ⟨hp, g, d, t + 1, os⟩) (ox := ox) (od := od) X I hm ?_)))
  refine wpAny_pure ?_
  show wpAny _ _ (handedOut (.ref D)) _ _ _
  rw [handedOut_of (v := .ref D) rfl]
  first
    | exact wpAny_pure (wpAny_pure h)
    | exact wpAny_pure h
    | exact wpAny_pure (wpAny_bind (wpAny_pure (wpAny_pure h)))
theorem kitx_excO (hga : findIn K (.ref D) "__getattribute__" = some (some (.builtin "BaseException.__getattribute__"))) (hgt : findIn K (.ref D) "__getattr__" = some none) (hsub : subIn K (.ref D) (.type "BaseException") = some true) (hdct : hasDictIn K D = true) (ha : findIn K (.ref D) "__class__" = some (some (.builtin "object.__class__")))
    (hn : specialIn K (.builtin "object.__class__") "__get__" = some (some (.builtin "getset_descriptor.__get__"))) (htk : takesIn K (.builtin "object.__class__") = some true) (hm : mroIn K D (.type "object") = some true) :
    KitX K (.ref x) (.ref D) (fun h => ∃ od, InstAt h x ox D od) where
  ty := fun _ _ _ ⟨_, I⟩ => I.type
  it := fun _ _ X _ => by
    obtain ⟨cdD, hcD, _⟩ := any_some hdct
    unfold clsIn at hcD
    split at hcD
    · rename_i c' d' cd' sl' ho
      intro A' Q' E' s' k q
      unfold isType loadHead
      exact wpAny_bind (wpAny_loadPart (k _ _ (X _ _ ho)) (wpAny_pure q))
    · cases hcD
  ne := fun h tp dd its n sl X htp => by
    obtain ⟨cdD, hcD, _⟩ := any_some hdct
    refine Bool.eq_false_iff.mpr fun q => ?_
    have e : D = tp := Value.ref.inj (beq_iff_eq.mp q)
    subst e
    unfold clsIn at hcD
    split at hcD
    · rename_i c' d' cd' sl' ho
      have z := (X _ _ ho).symm.trans htp
      cases z
    · cases hcD
  ca := fun X ⟨_, I⟩ k => kin_classO hga hgt hsub hdct ha hn htk hm X I k
end
/-- the suite's error stands at a: its class D, its dict none or an error's dict -/
theorem call_isO {X : Cx} {a D : Addr} {dd : Option Addr} {oe : Obj} {pn : List (Addr × Obj)} (C : ExcC X.K D) (hz : Zc (.ref D) dd oe) (hf : ∃ vs, oe.data = .fields vs) :
    CallR (X.suite a ((a, oe) :: pn)) (.builtin "isinstance") (fun xs H Q => (∀ d, dd = some d → ∃ fs, H d = some (.xd fs)) ∧ rIsE X.K D a xs H Q) := by
  intro pins s σ H xs us Q I r h
  obtain ⟨hd, c, cv, b, rfl, hcv, e, q⟩ := h
  cases r with
  | cons rx rr =>
    cases rr with
    | cons rt rr =>
      cases rr
      cases rx
      have ec := hcv _ rt
      subst ec
      obtain ⟨hget, _⟩ := I.pin (a, oe) (List.mem_append.mpr (.inl List.mem_cons_self))
      obtain ⟨vs, hv⟩ := hf
      have J : ∃ od, PySem.W.InstAt s.heap a oe D od := by
        obtain ⟨h1, h2⟩ := hz
        have hn : PySem.W.notCls oe = true := by unfold PySem.W.notCls; rw [hv] <;> rfl
        cases dd with
        | none => exact ⟨none, hget, h1, hn, by rw [show oe.dict = none from h2]; trivial⟩
        | some d =>
          obtain ⟨fs, hfs⟩ := hd d rfl
          obtain ⟨mA, ⟨o, es, ep, ho, hr⟩, _⟩ := (show ObjOk X.prog X.w H s.heap d (.xd fs) from I.hok d _ hfs)
          exact ⟨some o, hget, h1, hn, by rw [h2]; exact ho⟩
      exact PySem.W.kia_one (kitx_excO C.hg C.hk C.hs C.hd C.ha C.hn C.ht C.hm) I.kIn J e (fun z => nomatch z) fun tk => ⟨.bl b, H, I.kept (t' := tk) fun _ _ z => z, rfl, q⟩
end Kw

set_option Elab.async false
set_option linter.all false
set_option maxRecDepth 100000
set_option maxHeartbeats 4000000
/-! Data on the heap and what stays. -/
namespace Kw
open PySem PySem.Spec PyProof.Rows L2

/-- all stays but the lists at b and l, and the tables -/
structure Kp (b l : Addr) (H H' : Hp) : Prop where
  nl : ∀ a o, H a = some o → (∀ xs, o ≠ .lst xs) → (∀ ps, o ≠ .tbl ps) → H' a = some o
  ls : ∀ a xs, H a = some (.lst xs) → a ≠ b → a ≠ l → H' a = some (.lst xs)
theorem Kp.refl (b l : Addr) (H : Hp) : Kp b l H H := ⟨fun _ _ h _ _ => h, fun _ _ h _ _ => h⟩
theorem Kp.trans {b l : Addr} {H H1 H2 : Hp} (x : Kp b l H H1) (y : Kp b l H1 H2) : Kp b l H H2 :=
  ⟨fun a o h n t => y.nl a o (x.nl a o h n t) n t, fun a xs h n t => y.ls a xs (x.ls a xs h n t) n t⟩
theorem Kp.same {b l : Addr} {H H' : Hp} (e : Same H H') : Kp b l H H' := ⟨fun a o h _ _ => e a o h, fun a xs h _ _ => e a _ h⟩
theorem same_upd {H : Hp} {p : Addr} {o : HO} (h : H p = none) : Same H (upd H p o) := fun a u e => by
  rw [upd_ne (ne_of_none e h)]
  exact e
theorem Same.upd2 {H H' : Hp} {p : Addr} {o : HO} (e : Same H H') (h : H' p = none) : Same H (upd H' p o) := e.trans (same_upd h)
theorem free_kp {b l : Addr} {H H' : Hp} (k : Kp b l H H') {p : Addr} (h : H' p = none) (hb : ∃ xs, H' b = some (.lst xs)) (hl : ∃ xs, H' l = some (.lst xs)) (ht : ∀ a ps, H a = some (.tbl ps) → ∃ ps', H' a = some (.tbl ps')) : H p = none := by
  cases q : H p with
  | none => rfl
  | some o =>
    have nb : p ≠ b := fun z => by
      obtain ⟨xs, e⟩ := hb
      rw [z, e] at h
      cases h
    have nl : p ≠ l := fun z => by
      obtain ⟨xs, e⟩ := hl
      rw [z, e] at h
      cases h
    by_cases hls : ∃ xs, o = .lst xs
    · obtain ⟨xs, rfl⟩ := hls
      rw [k.ls p xs q nb nl] at h
      cases h
    · by_cases htb : ∃ ps, o = .tbl ps
      · obtain ⟨ps, rfl⟩ := htb
        obtain ⟨ps', e⟩ := ht p ps q
        rw [e] at h
        cases h
      · rw [k.nl p o q (fun xs z => hls ⟨xs, z⟩) (fun ps z => htb ⟨ps, z⟩)] at h
        cases h

/-! data without lists -/
mutual
def noL : PyData → Bool
  | .none => true
  | .bool _ => true
  | .int _ => true
  | .str _ => true
  | .tuple ds => noLs ds
  | .list _ => false
  | .dict _ => false
def noLs : List PyData → Bool
  | [] => true
  | d :: ds => noL d && noLs ds
end
/-- what is not a list or a table stays -/
def Nl (H H' : Hp) : Prop := ∀ a o, H a = some o → (∀ xs, o ≠ .lst xs) → (∀ ps, o ≠ .tbl ps) → H' a = some o
theorem SqT.nl {K : PySem.W.Frag} {H H' : Hp} {a : Addr} {xs : List V} (k : Nl H H') (h : SqT K H a xs) : SqT K H' a xs := by
  rcases h with (h | ⟨o, h⟩) | h
  · exact .inl (.inl (k _ _ h (fun _ z => nomatch z) fun _ z => nomatch z))
  · exact .inl (.inr ⟨o, k _ _ h (fun _ z => nomatch z) fun _ z => nomatch z⟩)
  · exact .inr h
theorem SqT.same {K : PySem.W.Frag} {H H' : Hp} {a : Addr} {xs : List V} (k : Same H H') (h : SqT K H a xs) : SqT K H' a xs := SqT.nl (fun a o e _ _ => k a o e) h
mutual
theorem Dp.nl {K : PySem.W.Frag} {H H' : Hp} (k : Nl H H') : ∀ (d : PyData) (v : V), noL d = true → Dp K H v d → Dp K H' v d
  | .none, _, _, h => by cases h; exact .non
  | .bool b, _, _, h => by cases h; exact .bl b
  | .int i, _, _, h => by cases h; exact .int i
  | .str x, _, _, h => by cases h; exact .str x
  | .list ds, _, n, _ => by simp [noL] at n
  | .tuple ds, _, n, h => by
    cases h with
    | tup hs ha => exact .tup (SqT.nl k hs) (Dp.nls k ds _ (by simpa [noL] using n) ha)
  | .dict _, _, n, _ => by simp [noL] at n
theorem Dp.nls {K : PySem.W.Frag} {H H' : Hp} (k : Nl H H') : ∀ (ds : List PyData) (vs : List V), noLs ds = true → DpAll K H vs ds → DpAll K H' vs ds
  | [], _, _, h => by cases h; exact .nil
  | d :: ds, _, n, h => by
    cases h with
    | cons h1 h2 =>
      have n' : noL d = true ∧ noLs ds = true := by simpa [noLs] using n
      exact .cons (Dp.nl k d _ n'.1 h1) (Dp.nls k ds _ n'.2 h2)
end
/-- tuples that are read stay -/
def Tp (H H' : Hp) : Prop := ∀ a xs, Rd H a (.tup xs) → Rd H' a (.tup xs)
mutual
theorem Dp.tp {K : PySem.W.Frag} {H H' : Hp} (k : Tp H H') : ∀ (d : PyData) (v : V), noL d = true → Dp K H v d → Dp K H' v d
  | .none, _, _, h => by cases h; exact .non
  | .bool b, _, _, h => by cases h; exact .bl b
  | .int i, _, _, h => by cases h; exact .int i
  | .str x, _, _, h => by cases h; exact .str x
  | .list ds, _, n, _ => by simp [noL] at n
  | .tuple ds, _, n, h => by
    cases h with
    | tup hs ha => exact .tup (hs.elim (fun r => .inl (k _ _ r)) .inr) (Dp.tps k ds _ (by simpa [noL] using n) ha)
  | .dict _, _, n, _ => by simp [noL] at n
theorem Dp.tps {K : PySem.W.Frag} {H H' : Hp} (k : Tp H H') : ∀ (ds : List PyData) (vs : List V), noLs ds = true → DpAll K H vs ds → DpAll K H' vs ds
  | [], _, _, h => by cases h; exact .nil
  | d :: ds, _, n, h => by
    cases h with
    | cons h1 h2 =>
      have n' : noL d = true ∧ noLs ds = true := by simpa [noLs] using n
      exact .cons (Dp.tp k d _ n'.1 h1) (Dp.tps k ds _ n'.2 h2)
end
mutual
theorem Dp.same {K : PySem.W.Frag} {H H' : Hp} (k : Same H H') : ∀ (d : PyData) (v : V), Dp K H v d → Dp K H' v d
  | .none, _, h => by cases h; exact .non
  | .bool b, _, h => by cases h; exact .bl b
  | .int i, _, h => by cases h; exact .int i
  | .str x, _, h => by cases h; exact .str x
  | .list ds, _, h => by
    cases h with
    | lst hs ha => exact .lst (k.seq hs) (Dp.sames k ds _ ha)
  | .tuple ds, _, h => by
    cases h with
    | tup hs ha => exact .tup (SqT.same k hs) (Dp.sames k ds _ ha)
  | .dict _, _, h => by cases h
theorem Dp.sames {K : PySem.W.Frag} {H H' : Hp} (k : Same H H') : ∀ (ds : List PyData) (vs : List V), DpAll K H vs ds → DpAll K H' vs ds
  | [], _, h => by cases h; exact .nil
  | d :: ds, _, h => by
    cases h with
    | cons h1 h2 => exact .cons (Dp.same k d _ h1) (Dp.sames k ds _ h2)
end
theorem DpAll.len {K : PySem.W.Frag} {H : Hp} : ∀ {vs : List V} {ds : List PyData}, DpAll K H vs ds → vs.length = ds.length
  | _, _, .nil => rfl
  | _, _, .cons _ h => by simp [DpAll.len h]
theorem DpAll.get {K : PySem.W.Frag} {H : Hp} : ∀ {vs : List V} {ds : List PyData} {i : Nat} {x : V}, DpAll K H vs ds → vs[i]? = some x → ∃ d, ds[i]? = some d ∧ Dp K H x d
  | _, _, _, _, .nil, e => by simp at e
  | _, _, 0, _, .cons h _, e => by
    simp at e
    subst e
    exact ⟨_, rfl, h⟩
  | _, _, i + 1, x, .cons _ t, e => by
    obtain ⟨d, h1, h2⟩ := DpAll.get (i := i) (x := x) t (by simpa using e)
    exact ⟨d, by simpa using h1, h2⟩
theorem DpAll.app {K : PySem.W.Frag} {H : Hp} : ∀ {vs ws : List V} {ds es : List PyData}, DpAll K H vs ds → DpAll K H ws es → DpAll K H (vs ++ ws) (ds ++ es)
  | _, _, _, _, .nil, h => h
  | _, _, _, _, .cons h t, k => .cons h (DpAll.app t k)
theorem DpAll.take {K : PySem.W.Frag} {H : Hp} : ∀ {vs : List V} {ds : List PyData} (n : Nat), DpAll K H vs ds → DpAll K H (vs.take n) (ds.take n)
  | _, _, 0, _ => .nil
  | _, _, _ + 1, .nil => .nil
  | _, _, n + 1, .cons h t => .cons h (DpAll.take n t)
theorem noLs_map {α : Type} (f : α → PyData) (h : ∀ a, noL (f a) = true) : ∀ l : List α, noLs (l.map f) = true
  | [] => rfl
  | a :: l => by simp [noLs, h a, noLs_map f h l]

/-! ### places -/
inductive Wd where
  | hand | box | gone
  deriving DecidableEq
def Wd.str : Wd → Str
  | .hand => "hand"
  | .box => "box"
  | .gone => "gone"
abbrev Pl := Wd × Int
def plD (p : Pl) : PyData := .tuple [.str p.1.str, .int p.2]
def plsD (ps : List Pl) : PyData := .tuple (ps.map plD)
theorem wd_ok (w : Wd) : PyData.strOk w.str = true := by cases w <;> decide +kernel
theorem wd_inj {u v : Wd} (h : u.str = v.str) : u = v := by cases u <;> cases v <;> first | rfl | (revert h; decide +kernel)
theorem noL_pl (p : Pl) : noL (plD p) = true := rfl
theorem noL_pls (ps : List Pl) : noL (plsD ps) = true := noLs_map plD noL_pl ps
theorem lay_pl (p : Pl) : PyData.canLay0 (plD p) = true := by simp [plD, PyData.canLay0, PyData.canLayAll0, wd_ok]
theorem lay_pls : ∀ ps : List Pl, PyData.canLayAll0 (ps.map plD) = true
  | [] => rfl
  | p :: ps => by simp [PyData.canLayAll0, lay_pl p, lay_pls ps]
theorem depth_pl (p : Pl) : PyData.depth (plD p) = 1 := by simp [plD, PyData.depth, PyData.depthAll]
theorem depth_pls : ∀ ps : List Pl, PyData.depthAll (ps.map plD) ≤ 1
  | [] => by simp [PyData.depthAll]
  | p :: ps => by
    have := depth_pls ps
    have := depth_pl p
    simp [PyData.depthAll]
    omega
theorem shaped_pl (p : Pl) : SeqAt.shaped (plD p) = true := by simp [SeqAt.shaped, lay_pl, depth_pl]
theorem shaped_pls (ps : List Pl) : SeqAt.shaped (plsD ps) = true := by
  have h1 := lay_pls ps
  have h2 := depth_pls ps
  simp [SeqAt.shaped, plsD, PyData.canLay0, PyData.depth, h1]
  omega
theorem eqv_pl (p q : Pl) : PyData.eqv (plD p) (plD q) = decide (p = q) := by
  obtain ⟨u, i⟩ := p
  obtain ⟨v, j⟩ := q
  by_cases h1 : u = v
  · subst h1
    by_cases h2 : i = j
    · subst h2
      simp [plD, PyData.eqv, PyData.eqvAll]
    · simp [plD, PyData.eqv, PyData.eqvAll, h2]
  · have h3 : ¬ u.str = v.str := fun z => h1 (wd_inj z)
    simp [plD, PyData.eqv, PyData.eqvAll, h1, h3]
theorem pl_at {K : PySem.W.Frag} {H : Hp} {x : V} {p : Pl} (h : Dp K H x (plD p)) : ∃ a, x = .ref a ∧ SqT K H a [.str p.1.str, .int p.2] := by
  cases h with
  | tup hs ha =>
    cases ha with
    | cons h1 h2 =>
      cases h1
      cases h2 with
      | cons h3 h4 =>
        cases h3
        cases h4
        exact ⟨_, rfl, hs⟩
theorem pls_at {K : PySem.W.Frag} {H : Hp} {x : V} {ps : List Pl} (h : Dp K H x (plsD ps)) : ∃ a xs, x = .ref a ∧ SqT K H a xs ∧ DpAll K H xs (ps.map plD) ∧ xs.length = ps.length := by
  cases h with
  | tup hs ha => exact ⟨_, _, rfl, hs, ha, by rw [DpAll.len ha, List.length_map]⟩
theorem pls_get {K : PySem.W.Frag} {H : Hp} {xs : List V} {ps : List Pl} {i : Nat} {x : V} (h : DpAll K H xs (ps.map plD)) (e : xs[i]? = some x) : ∃ p, ps[i]? = some p ∧ Dp K H x (plD p) := by
  obtain ⟨d, h1, h2⟩ := DpAll.get h e
  rw [List.getElem?_map] at h1
  cases q : ps[i]? with
  | none =>
    rw [q] at h1
    cases h1
  | some p =>
    rw [q] at h1
    cases h1
    exact ⟨p, rfl, h2⟩
end Kw

set_option Elab.async false
set_option linter.all false
set_option maxRecDepth 100000
set_option maxHeartbeats 4000000
namespace Kw
open PySem PySem.Spec PyProof.Rows L2
theorem room_in2 {A : Around} {a b : PyData} (h : SeqAt.shaped b = true) (hu : A.units + 65 < cLine) (n : Nat) : A.units + 1 + min n b.depth < cLine := by
  have h1 := SeqAt.depth_of_shaped h
  have h2 : min n b.depth ≤ b.depth := Nat.min_le_right _ _
  omega
section
variable {X : Cx}
/-- t.index(x), t a tuple of data: the first place of an equal one -/
def rIndexT (K : PySem.W.Frag) : V → List V → Hp → VK → Prop := fun x xs H Q => ∃ (a : Addr) (y : V) (d : PyData) (ds : List PyData) (j : Nat) (z : PyData), x = V.ref a ∧ xs = [y] ∧ Dp K H (V.ref a) (.tuple ds) ∧ Dp K H y d ∧
  SeqAt.shaped (.tuple ds) = true ∧ SeqAt.shaped d = true ∧ ds[j]? = some z ∧ PyData.eqv z d = true ∧ (∀ (m : Nat) (z' : PyData), m < j → ds[m]? = some z' → PyData.eqv z' d = false) ∧ Q (.int (j : Nat)) H
theorem mt_indexT (hu : X.A.units + 65 < cLine) : MtR X "tuple.index" (rIndexT X.K) := by
  intro pins s σ H x xs v us Q I rx rxs h
  obtain ⟨a, y, d, ds, j, z, rfl, rfl, hl, hy, sl, sd, hz, hzj, hno, q⟩ := h
  cases rx
  cases rxs with
  | cons ry rt =>
    rename_i uy ut
    cases rt
    obtain ⟨bs, r1⟩ := Dp.reads I d y uy hy ry
    have hxs : PyData.canLayAll0 ds = true := SeqAt.canLay_of_shaped sl
    cases hl with
    | tup hs ha =>
      obtain ⟨its, rv, ⟨⟨cls, dd, data, sls⟩, ho, hc, n, hdt⟩, hlen⟩ := I.tuple hs
      simp only at hc hdt
      subst hc hdt
      obtain ⟨as, h4⟩ := Dp.readsAll I ds _ its ha rv
      have hroom : X.A.units + 1 + min (PyData.depthAll ds) d.depth < cLine := room_in2 (a := d) sd hu _
      have hn : its.length = ds.length := SeqAt.ReadsAll.length ds its as h4
      have hmap : its.map (SeqAt.readOf s.heap) = ds := SeqAt.readsAll_map ds its as hxs h4
      obtain ⟨hjd, _⟩ := List.getElem?_eq_some_iff.mp hz
      have hjl : j < its.length := by omega
      have hj : j < its.toArray.size := by simpa using hjl
      have at_ : ∀ (m : Nat) (hm : m < its.toArray.size) (z' : PyData), ds[m]? = some z' → SeqAt.readOf s.heap its.toArray[m] = z' := by
        intro m hm z' hz'
        have hml : m < its.length := by simpa using hm
        rw [← hmap, List.getElem?_map, List.getElem?_eq_getElem hml] at hz'
        have e1 : SeqAt.readOf s.heap its[m] = z' := Option.some.inj (show some (SeqAt.readOf s.heap its[m]) = some z' from hz')
        simpa using e1
      refine call_meets PySem.F.slot_tuple_index ⟨_, ho, rfl⟩ PySem.F.entry_tuple_index (PySem.F.args_tuple_index_2 _ _)
        (TI.tuple_indexAt a its.toArray n dd sls uy (fun u => PyData.eqv (SeqAt.readOf s.heap u) d) j hj ?_ ?_) ⟨ho, SeqAt.items_eqAt (vs := its.toArray) (show ReadsAll s.heap its.toArray.toList ds as from h4) r1 hxs (SeqAt.canLay_of_shaped sd) hroom, ?_⟩
      · show PyData.eqv (SeqAt.readOf s.heap its.toArray[j]) d = true
        rw [at_ j hj z hz]
        exact hzj
      · intro m hm hmj
        have hmd : m < ds.length := by omega
        have hz' : ds[m]? = some ds[m] := List.getElem?_eq_getElem hmd
        show PyData.eqv (SeqAt.readOf s.heap its.toArray[m]) d = false
        rw [at_ m hm _ hz']
        exact hno m _ hmj hz'
      · exact ⟨.int (j : Nat), H, I.tok _, ⟨_, rfl⟩, q⟩
end
end Kw

set_option Elab.async false
set_option linter.all false
set_option maxRecDepth 100000
set_option maxHeartbeats 4000000
namespace Kw
open PySem PySem.Spec PyProof.Rows L2
/-- a tuple that was made here and bears no dict: it may be asked for its methods -/
def Fz (H : Hp) (a : Addr) (xs : List V) : Prop := ∃ o : Obj, H a = some (.frz o (.tup xs)) ∧ o.cls = .type "tuple" ∧ o.dict = none
theorem Fz.sq {K : PySem.W.Frag} {H : Hp} {a : Addr} {xs : List V} (h : Fz H a xs) : SqT K H a xs := by
  obtain ⟨o, h, _⟩ := h
  exact .inl (.inr ⟨o, h⟩)
theorem Fz.nl {H H' : Hp} {a : Addr} {xs : List V} (k : Nl H H') (h : Fz H a xs) : Fz H' a xs := by
  obtain ⟨o, h, c, d⟩ := h
  exact ⟨o, k _ _ h (fun _ z => nomatch z) (fun _ z => nomatch z), c, d⟩
section
variable {X : Cx}
/-- tuple(l), l a list: the new tuple, with what it is kept -/
theorem call_tupleF : CallR X (.type "tuple") (fun xs H Q => ∃ p ys, xs = [.ref p] ∧ SqL X.K H p ys ∧ ∀ (l : Addr) (o : Obj), H l = none → o.cls = .type "tuple" → o.dict = none → Q (.ref l) (L2.upd H l (.frz o (.tup ys)))) := by
  intro pins s σ H xs us Q I r h
  obtain ⟨p, ys, rfl, hq, q⟩ := h
  obtain ⟨u, rfl, rx⟩ := vals1 r
  cases rx
  obtain ⟨its, r', pl, hz⟩ := I.list hq
  have hlen := r'.length
  refine call_tuple_list pl.isList (fun h' kp => ?_) (by simp only [List.size_toArray] <;> omega)
  have I1 : Inv X pins σ H { s with heap := h' } := I.kept (t' := s.toks) kp
  have g : (h'.push { cls := .type "tuple", data := .seq its.toArray }).get? h'.objs.size = some ({ cls := .type "tuple", data := .seq its.toArray } : Obj) := Heap.get?_push_size _ rfl
  have I2 : Inv X pins σ (L2.upd H h'.objs.size (.frz { cls := .type "tuple", data := .seq its.toArray } (.tup ys))) { s with heap := h'.push { cls := .type "tuple", data := .seq its.toArray } } :=
    I1.laid (t' := s.toks) (fun b o e => Heap.get?_push_of_some _ e) (Nat.le_refl _) (show ObjOk X.prog X.w _ _ _ (.frz _ (.tup ys)) from ⟨g, hz, its, r', IsTup.new _ _⟩)
  exact ⟨.ref h'.objs.size, _, I2, rfl, q _ _ (I1.hok.fresh (Nat.le_refl _)) rfl rfl⟩
variable {o e : Expr} {es : List Expr} {to : TE} {t : TA} {name : Str} {apos cpos : Pos} {id : String} {r : V → List V → Hp → VK → Prop}
/-- o.m(..), o such a tuple -/
def tBMF (r : V → List V → Hp → VK → Prop) (to : TE) (t : TA) : TE := fun σ H Q => to σ H fun x H1 => (∃ a xs, x = .ref a ∧ Fz H1 a xs) ∧ t σ H1 fun ys H2 => r x ys H2 Q
theorem pe_bmF (slot : Slot "tuple" name id) (hty : typeOf (.builtin id) = pure (.type "method_descriptor")) (hm : MtR X id r) (ho : PE X o to) (ha : PA X (e :: es) t)
    (hbase : attributeBase o name X.env (eval o X.env) = eval o X.env := by rfl)
    (hfew : ((backTo cpos (starEach (e :: es) X.env)).all (fun x => !x.1) && (backToKw cpos (keywordEach [] X.env)).all (fun x => x.1.isSome)
      && decide ((e :: es).length + ([] : List Keyword).length + (if ([] : List Keyword).isEmpty then 0 else 1) < 30)) = true := by rfl)
    (hline : (apos.endLine == cpos.line) = true := by rfl) (hs : starEach (e :: es) X.env = (false, eval e X.env) :: starEach es X.env := by rfl) (hplain : (backTo cpos (starEach es X.env)).any (·.1) = false := by rfl) :
    PE X (.Call (.Attribute o name apos) (e :: es) [] cpos) (tBMF r to t) := by
  refine ⟨fun pins s σ H Q I h => ?_⟩
  refine wpAny_Call_method_late hbase hfew hline rfl (thn (ho.run pins s σ H _ I h) fun v s1 hv => ?_)
  obtain ⟨x, H1, I1, r1, ⟨a, xs, rfl, ob, hf, hc, hd⟩, q1⟩ := hv
  cases r1
  obtain ⟨hg, _⟩ := I1.hok a _ hf
  refine ⟨"tuple", id, PySem.F.plainAttrs_tuple, slot, hty, ⟨ob, hg, hc⟩, fun b eb => ?_, ?_⟩
  · cases eb
    exact ⟨ob, hg, hd⟩
  have hA := ha.run cpos pins s1 σ H1 _ I1 q1
  rw [hs] at hA ⊢
  refine Calls.callWith_builtin (by show (false || (backTo cpos (starEach es X.env)).any (·.1)) = false; rw [hplain] <;> rfl) (Calls.evalArgs_plain ?_)
  exact thn hA fun us s2 hu => by
    obtain ⟨vs, H2, I2, r2, q2⟩ := hu
    exact hm pins s2 σ H2 (.ref a) vs (.ref a) us _ I2 rfl r2 q2
end
end Kw

set_option Elab.async false
set_option linter.all false
set_option maxRecDepth 100000
set_option maxHeartbeats 4000000
namespace Kw
open PySem PySem.Spec PyProof.Rows L2

def top (i : Nat) : Stmt := PySem.Challenge.pw_sealwatch_k02_whole_deeds_done.main.body.getD i (.Pass ⟨0, 0, 0, 0⟩)
abbrev sIH : Stmt := inClass (top 3) 0
abbrev sNum : Stmt := top 19
abbrev sMany : Stmt := top 20
abbrev sInit : Stmt := inClass (top 47) 0
abbrev sItems : Stmt := inClass (top 47) 1
abbrev sHas : Stmt := inClass (top 47) 2
abbrev sEqH : Stmt := inClass (top 47) 3
abbrev sNeed : Stmt := top 48
abbrev sBoxes : Stmt := top 49
abbrev sIsPl : Stmt := top 50

/-! ### the built-in names that the module leaves alone -/
structure Bt (mg : Str → Option Value) : Prop where
  isi : mg "isinstance" = none
  int : mg "int" = none
  bool : mg "bool" = none
  len : mg "len" = none
  enu : mg "enumerate" = none
  tup : mg "tuple" = none
  lst : mg "list" = none
  rng : mg "range" = none
  str : mg "str" = none

section
variable {P : Program} {w : World} {K : PySem.W.Frag} {mg : Str → Option Value} {base : Heap}
/-! ### is_number -/
def numOk (n l : Int) : Bool := decide (0 ≤ n) && decide (n < l)
def spNum : Sp := fun vs H Q _ => ∃ n l : Int, vs = [.int n, .int l] ∧ Q (.bl (numOk n l)) H
theorem scNum : FnScope ["value", "limit"] ["value", "limit"] (defScope sNum) := ⟨rfl, rfl, rfl, by decide +kernel, rfl, by decide +kernel, by decide +kernel⟩
theorem ok_num {f : Addr} {fd : FuncData} (F : Fun K "is_number" "is_number" sNum f fd) (B : Bt mg) : FnOk P w K mg base CX0 1 f fd ["value", "limit"] spNum := by
  refine F.ok scNum (fun vs H Q E h => ?_) (fun cdv A outer s H vs Q E hr h => ?_)
  · obtain ⟨n, l, rfl, _⟩ := h
    rfl
  · obtain ⟨n, l, rfl, k⟩ := h
    refine ⟨_, pss_one (ps_ret (pe_and (pe_callB call_isi (by rfl) B.isi (by decide +kernel) (pa_cons (pv 0) (pa_cons (pe_bltn (v := .ty "int") (by rfl) B.int (by decide +kernel) rfl) pa_nil)))
      (pe_and (pe_not (pe_callB call_isi (by rfl) B.isi (by decide +kernel) (pa_cons (pv 0) (pa_cons (pe_bltn (v := .ty "bool") (by rfl) B.bool (by decide +kernel) rfl) pa_nil))))
        (pe_one (pe_chain op_le op_lt pe_int (pv 0) (pv 1)))))), ?_⟩
    refine ⟨_, rfl, _, _, _, _, true, rfl, .ty "int", .base (.int n), kit_ty (by decide +kernel), _, rfl, iteT ?_⟩
    refine ⟨_, rfl, _, _, _, _, false, rfl, .ty "bool", .base (.int n), kit_ty (by decide +kernel), _, rfl, _, rfl, iteT ?_⟩
    refine ⟨_, rfl, _, _, rfl, rfl, _, rfl, ?_⟩
    unfold numOk at k
    by_cases c : (0 : Int) ≤ n
    · rw [decide_eq_true c] at k ⊢
      refine iteT ⟨_, rfl, _, _, rfl, rfl, ?_⟩
      exact k
    · rw [decide_eq_false c] at k ⊢
      exact iteF k

/-! ### houses -/
structure Hs where
  hands : Int
  bs : List Pl
  ts : List Pl
  ss : List Pl
def stD (d : Hs) : PyData := .tuple [plsD d.bs, plsD d.ts, plsD d.ss]
def hsFs (n : Int) (vb vt vs vst : V) : List (Str × V) := putF "state" vst (putF "seals" vs (putF "things" vt (putF "boxes" vb (putF "hands" (.int n) []))))
theorem fs_hands (n : Int) (vb vt vs vst : V) : (hsFs n vb vt vs vst).lookup ("hands" : Str) = some (.int n) := by
  unfold hsFs
  rw [lookup_putF, if_neg (by decide +kernel), lookup_putF, if_neg (by decide +kernel), lookup_putF, if_neg (by decide +kernel), lookup_putF, if_neg (by decide +kernel), lookup_putF, if_pos rfl]
theorem fs_boxes (n : Int) (vb vt vs vst : V) : (hsFs n vb vt vs vst).lookup ("boxes" : Str) = some vb := by
  unfold hsFs
  rw [lookup_putF, if_neg (by decide +kernel), lookup_putF, if_neg (by decide +kernel), lookup_putF, if_neg (by decide +kernel), lookup_putF, if_pos rfl]
theorem fs_things (n : Int) (vb vt vs vst : V) : (hsFs n vb vt vs vst).lookup ("things" : Str) = some vt := by
  unfold hsFs
  rw [lookup_putF, if_neg (by decide +kernel), lookup_putF, if_neg (by decide +kernel), lookup_putF, if_pos rfl]
theorem fs_seals (n : Int) (vb vt vs vst : V) : (hsFs n vb vt vs vst).lookup ("seals" : Str) = some vs := by
  unfold hsFs
  rw [lookup_putF, if_neg (by decide +kernel), lookup_putF, if_pos rfl]
theorem fs_state (n : Int) (vb vt vs vst : V) : (hsFs n vb vt vs vst).lookup ("state" : Str) = some vst := by
  unfold hsFs
  rw [lookup_putF, if_pos rfl]
structure HouseAt (K : PySem.W.Frag) (C : Addr) (H : Hp) (h : Addr) (d : Hs) : Prop where
  ex : ∃ dx vb vt vs vst, H h = some (.ins C dx (hsFs d.hands vb vt vs vst)) ∧ Dp K H vb (plsD d.bs) ∧ Dp K H vt (plsD d.ts) ∧ Dp K H vs (plsD d.ss) ∧ Dp K H vst (stD d)
theorem noL_st (d : Hs) : noL (stD d) = true := by simp [stD, noL, noLs, noL_pls]
theorem HouseAt.nl {K : PySem.W.Frag} {C : Addr} {H H' : Hp} {h : Addr} {d : Hs} (k : Nl H H') (x : HouseAt K C H h d) : HouseAt K C H' h d := by
  obtain ⟨dx, vb, vt, vs, vst, h0, h1, h2, h3, h4⟩ := x.ex
  exact ⟨dx, vb, vt, vs, vst, k _ _ h0 (fun _ z => nomatch z) (fun _ z => nomatch z), Dp.nl k _ _ (noL_pls _) h1, Dp.nl k _ _ (noL_pls _) h2, Dp.nl k _ _ (noL_pls _) h3, Dp.nl k _ _ (noL_st _) h4⟩
/-! ### a state of which the row of seals may be asked for its methods -/
def Fv (H : Hp) (v : V) : Prop := ∃ a xs, v = .ref a ∧ Fz H a xs
theorem Fv.nl {H H' : Hp} {v : V} (k : Nl H H') (h : Fv H v) : Fv H' v := by
  obtain ⟨a, xs, e, f⟩ := h
  exact ⟨a, xs, e, f.nl k⟩
structure StF (K : PySem.W.Frag) (H : Hp) (v : V) (d : Hs) : Prop where
  ex : ∃ a v1 v2 v3, v = .ref a ∧ SqT K H a [v1, v2, v3] ∧ Dp K H v1 (plsD d.bs) ∧ Dp K H v2 (plsD d.ts) ∧ Dp K H v3 (plsD d.ss) ∧ Fv H v3
theorem StF.dp {K : PySem.W.Frag} {H : Hp} {v : V} {d : Hs} (x : StF K H v d) : Dp K H v (stD d) := by
  obtain ⟨a, v1, v2, v3, rfl, s, d1, d2, d3, _⟩ := x.ex
  exact .tup s (.cons d1 (.cons d2 (.cons d3 .nil)))
theorem StF.nl {K : PySem.W.Frag} {H H' : Hp} {v : V} {d : Hs} (k : Nl H H') (x : StF K H v d) : StF K H' v d := by
  obtain ⟨a, v1, v2, v3, e, s, d1, d2, d3, f⟩ := x.ex
  exact ⟨a, v1, v2, v3, e, SqT.nl k s, Dp.nl k _ _ (noL_pls _) d1, Dp.nl k _ _ (noL_pls _) d2, Dp.nl k _ _ (noL_pls _) d3, f.nl k⟩
theorem StF.same {K : PySem.W.Frag} {H H' : Hp} {v : V} {d : Hs} (k : Same H H') (x : StF K H v d) : StF K H' v d := x.nl fun a o h _ _ => k a o h
def HouseF (K : PySem.W.Frag) (C : Addr) (H : Hp) (h : Addr) (d : Hs) : Prop := ∃ dx vb vt vs vst, H h = some (.ins C dx (hsFs d.hands vb vt vs vst)) ∧ StF K H vst d
theorem HouseF.nl {K : PySem.W.Frag} {C : Addr} {H H' : Hp} {h : Addr} {d : Hs} (k : Nl H H') (x : HouseF K C H h d) : HouseF K C H' h d := by
  obtain ⟨dx, vb, vt, vs, vst, h0, h1⟩ := x
  exact ⟨dx, vb, vt, vs, vst, k _ _ h0 (fun _ z => nomatch z) (fun _ z => nomatch z), h1.nl k⟩
/-- what the class House must say -/
structure HouseC (K : PySem.W.Frag) (C : Addr) : Prop where
  cl : Cls K C
  nH : NoAttr K C "hands"
  nB : NoAttr K C "boxes"
  nT : NoAttr K C "things"
  nS : NoAttr K C "seals"
  nSt : NoAttr K C "state"
/-! ### how_many -/
def manyOf (d : Hs) (w : Str) : Nat := if w = "box" then d.bs.length else if w = "seal" then d.ss.length else if w = "thing" then d.ts.length else 0
def spMany (K : PySem.W.Frag) (C : Addr) : Sp := fun vs H Q _ => ∃ (h : Addr) (d : Hs) (w : Str), vs = [.ref h, .str w] ∧ HouseAt K C H h d ∧ Q (.int (manyOf d w)) H
theorem scMany : FnScope ["house", "word"] ["house", "word"] (defScope sMany) := ⟨rfl, rfl, rfl, by decide +kernel, rfl, by decide +kernel, by decide +kernel⟩
theorem ok_many {f C : Addr} {fd : FuncData} (F : Fun K "how_many" "how_many" sMany f fd) (B : Bt mg) (T : HouseC K C) : FnOk P w K mg base CX0 1 f fd ["house", "word"] (spMany K C) := by
  refine F.ok scMany (fun vs H Q E h => ?_) (fun cdv A outer s H vs Q E hr h => ?_)
  · obtain ⟨h, d, w, rfl, _⟩ := h
    rfl
  · obtain ⟨h, d, w, rfl, hd, k⟩ := h
    obtain ⟨dx, vb, vt, vs, vst, h0, h1, h2, h3, h4⟩ := hd.ex
    obtain ⟨ab, xb, eb, qb, db, lb⟩ := pls_at h1
    obtain ⟨at', xt, et, qt, dt, lt⟩ := pls_at h2
    obtain ⟨as, xs, es, qs, ds, ls⟩ := pls_at h3
    subst eb et es
    refine ⟨_, pss_cons (ps_if (pt_cmpR op_eq (pv 1) pe_str (nomark _)) (pss_one (ps_ret (pe_callB call_len_seq (by rfl) B.len PySem.boot_len (pa_cons (pe_fld (pv 0) rfl) pa_nil)))) pss_nil)
      (pss_cons (ps_if (pt_cmpR op_eq (pv 1) pe_str (nomark _)) (pss_one (ps_ret (pe_callB call_len_seq (by rfl) B.len PySem.boot_len (pa_cons (pe_fld (pv 0) rfl) pa_nil)))) pss_nil)
      (pss_cons (ps_if (pt_cmpR op_eq (pv 1) pe_str (nomark _)) (pss_one (ps_ret (pe_callB call_len_seq (by rfl) B.len PySem.boot_len (pa_cons (pe_fld (pv 0) rfl) pa_nil)))) pss_nil)
      (pss_one (ps_ret pe_int)))), ?_⟩
    have e0 : ∀ (z : Str), decide ((V.str w) = V.str z) = decide (w = z) := fun z => by
      by_cases c : w = z
      · rw [decide_eq_true c, c]; exact decide_eq_true rfl
      · rw [decide_eq_false c]; exact decide_eq_false fun q => c (V.str.inj q)
    refine ⟨_, rfl, rfl, _, rfl, ?_⟩
    rw [e0]
    unfold manyOf at k
    refine ite2 (fun c => ?_) (fun c => ?_)
    · have c' := of_decide_eq_true c
      rw [if_pos c', ← lb] at k
      exact ⟨_, rfl, h, C, dx, _, _, rfl, h0, T.cl, T.nB, fs_boxes _ _ _ _ _, _, _, rfl, .inr qb, k⟩
    have c' : ¬ w = "box" := fun z => c (decide_eq_true z)
    rw [if_neg c'] at k
    refine ⟨_, rfl, rfl, _, rfl, ?_⟩
    rw [e0]
    refine ite2 (fun c => ?_) (fun c => ?_)
    · have c' := of_decide_eq_true c
      rw [if_pos c', ← ls] at k
      exact ⟨_, rfl, h, C, dx, _, _, rfl, h0, T.cl, T.nS, fs_seals _ _ _ _ _, _, _, rfl, .inr qs, k⟩
    have c' : ¬ w = "seal" := fun z => c (decide_eq_true z)
    rw [if_neg c'] at k
    refine ⟨_, rfl, rfl, _, rfl, ?_⟩
    rw [e0]
    refine ite2 (fun c => ?_) (fun c => ?_)
    · have c' := of_decide_eq_true c
      rw [if_pos c', ← lt] at k
      exact ⟨_, rfl, h, C, dx, _, _, rfl, h0, T.cl, T.nT, fs_things _ _ _ _ _, _, _, rfl, .inr qt, k⟩
    have c' : ¬ w = "thing" := fun z => c (decide_eq_true z)
    rw [if_neg c'] at k
    exact k
/-! ### is_place -/
def plOk (p : Pl) (hands boxes : Int) : Bool := if p.1 = .hand then numOk p.2 hands else decide (p.1 = .box) && numOk p.2 boxes
def spIsPl (K : PySem.W.Frag) : Sp := fun vs H Q _ => ∃ (x : V) (p : Pl) (n m : Int), vs = [x, .int n, .int m] ∧ Dp K H x (plD p) ∧ Q (.bl (plOk p n m)) H
theorem scIsPl : FnScope ["place", "hands", "boxes", "word", "number"] ["place", "hands", "boxes"] (defScope sIsPl) := ⟨rfl, rfl, rfl, by decide +kernel, rfl, by decide +kernel, by decide +kernel⟩
theorem decS (a b : Str) : decide ((V.str a) = V.str b) = decide (a = b) := by
  by_cases c : a = b
  · rw [decide_eq_true c, c]; exact decide_eq_true rfl
  · rw [decide_eq_false c]; exact decide_eq_false fun q => c (V.str.inj q)
theorem ok_ispl {f g : Addr} {fd fdg : FuncData} (F : Fun K "is_place" "is_place" sIsPl f fd) (FG : Fun K "is_number" "is_number" sNum g fdg) (B : Bt mg) (mG : mg "is_number" = some (.ref g)) (bG : Binds K fdg ["value", "limit"] []) : FnOk P w K mg base CX0 2 f fd ["place", "hands", "boxes"] (spIsPl K) := by
  have G : FnOk P w K mg base CX0 1 g fdg ["value", "limit"] spNum := ok_num FG B
  refine F.ok scIsPl (fun vs H Q E h => ?_) (fun cdv A outer s H vs Q E hr h => ?_)
  · obtain ⟨x, p, n, m, rfl, _⟩ := h
    rfl
  · obtain ⟨x, p, n, m, rfl, hp, k⟩ := h
    obtain ⟨a, rfl, q⟩ := pl_at hp
    refine ⟨_, pss_cons (ps_asg (pv 0) (pg_tup (by rfl) (pgs_cons (pg_name (i := 3) scIsPl.nd rfl (.inl rfl)) (pgs_cons (pg_name (i := 4) scIsPl.nd rfl (.inl rfl)) pgs_nil))))
      (pss_cons (ps_if (pt_cmpR op_eq (pv 3) pe_str (nomark _)) (pss_one (ps_ret (pe_call G hr rfl mG FG.kp bG .nil pass0 (pa_cons (pv 4) (pa_cons (pv 1) pa_nil))))) pss_nil)
      (pss_one (ps_ret (pe_and (pe_cmpR op_eq (pv 3) pe_str (nomark _)) (pe_one (pe_call G hr rfl mG FG.kp bG .nil pass0 (pa_cons (pv 4) (pa_cons (pv 2) pa_nil)))))))), ?_⟩
    refine ⟨_, rfl, a, _, rfl, q, rfl, _, _, rfl, _, _, rfl, rfl, ?_⟩
    refine ⟨_, rfl, rfl, _, rfl, ?_⟩
    rw [decS]
    unfold plOk at k
    obtain ⟨u, i⟩ := p
    cases u with
    | hand =>
      rw [if_pos rfl] at k
      refine iteT ⟨_, rfl, _, rfl, i, n, rfl, k⟩
    | box =>
      rw [if_neg (show ¬ Wd.box = Wd.hand by decide)] at k
      refine iteF ⟨_, rfl, rfl, true, rfl, iteT ⟨_, rfl, _, rfl, i, m, rfl, k⟩⟩
    | gone =>
      rw [if_neg (show ¬ Wd.gone = Wd.hand by decide)] at k
      exact iteF ⟨_, rfl, rfl, false, rfl, iteF k⟩

/-! ### InvalidHouse(part, index) -/
theorem onlyFree_by {sc : Scope} (h : (sc.names.all fun p => !decide (p.2 = .free) || decide (p.1 = ("__class__" : Str))) = true) : ∀ y, sc.names.lookup y = some .free → y = ("__class__" : Str) := fun y hy => by
  have m := PySem.mem_of_lookup hy
  have q := List.all_eq_true.mp h _ m
  simpa using q
/-- what the written part says of such a class, its __init__ (the text st, bound under qual), the method's cell -/
structure ExcI (P : Program) (K : PySem.W.Frag) (mg : Str → Option Value) (x qual : Str) (st : Stmt) (C f : Addr) (fd : FuncData) : Prop where
  sup : SupC P K mg C
  at_ : PySem.W.findIn K (.ref C) "__init__" = some (some (.ref f))
  ty : PySem.W.typeIn K (.ref f) = some (.type "function")
  mgC : mg x = some (.ref C)
  ex : ∃ (oc : Value) (od : Option Addr) (kV doc pm : Value) (an : Option Addr) (ct : Value) (osl : Array (Option Value)) (cc cda : Addr), fd = PySem.W.ksFn "__init__" qual (defArgs st) (defBody st) (defScope st) .none kV doc pm an (.ref cda) ct cc ∧
    K.lookup f = some ⟨oc, od, .func fd, osl⟩ ∧ PySem.W.codeIn K (.ref cda) qual = true ∧
    (∃ ccl cdd vsC ccs fileS tf, K.lookup cda = some ⟨ccl, cdd, .fields vsC, ccs⟩ ∧ vsC[2]? = some (.str fileS tf) ∧ ((P.main.file : Str) == fileS) = true) ∧
    (∃ cl cld csl, K.lookup cc = some ⟨cl, cld, .cell (some (.ref C)), csl⟩)
  bind : Binds K fd (["self", "part", "index"] : List Str) []
def ihFs (z : Str) (i : Int) : List (Str × V) := [("index", .int i), ("part", .str z)]
def spIH (C : Addr) : Sp := fun vs H Q _ => ∃ (a : Addr) (z : Str) (i : Int), vs = [.ref a, .str z, .int i] ∧ H a = some (exo a C none) ∧ z.length ≤ 1000 ∧ 0 ≤ i ∧ i ≤ 1000 ∧
  ∀ dx, H dx = none → dx ≠ a → Q .non (upd (upd (upd H dx (exd dx [("part", .str z)])) a (exo a C (some dx))) dx (exd dx (ihFs z i)))
theorem scIH : SupScope ["self", "part", "index"] (defScope sIH) :=
  ⟨rfl, rfl, rfl, by decide +kernel, by decide +kernel, by decide +kernel, onlyFree_by (by decide +kernel), by decide +kernel, by decide +kernel⟩
theorem log2_small {i : Int} (h0 : 0 ≤ i) (h1 : i ≤ 1000) : i.natAbs.log2 < 1920 := by
  have h2 : i.natAbs ≤ 1000 := by omega
  by_cases h3 : i.natAbs = 0
  · rw [h3]; decide
  · have := (Nat.log2_lt h3 (k := 10)).mpr (by omega)
    omega
theorem digits_small {i : Int} (h0 : 0 ≤ i) (h1 : i ≤ 1000) : (toString i : Str).length ≤ 4 := toString_length_le h0 (k := 4) (by decide) (by omega)
theorem ok_ih {CX : CXT} {C f : Addr} {fd : FuncData} (T : ExcI P K mg "InvalidHouse" "InvalidHouse.__init__" sIH C f fd) (nP : PySem.W.findIn K (.ref C) "part" = some none) (nI : PySem.W.findIn K (.ref C) "index" = some none) :
    FnOk P w K mg base CX 1 f fd ["self", "part", "index"] (spIH C) := by
  obtain ⟨oc, od, kV, doc, pm, an, ct, osl, cc, cda, rfl, lk, hcd, ⟨ccl, cdd, vsC, ccs, fileS, tf, hcode, hvs, hfile⟩, ⟨cl, cld, csl, hcell⟩⟩ := T.ex
  refine fn_super (pl := fun _ => _) T.sup lk hcd rfl rfl hcode hvs hfile hcell scIH (fun vs H Q E h => ?_) (fun _ => rfl) (fun _ => rfl) (fun _ => rfl) (fun A outer s H vs Q E hr h => ?_)
  · obtain ⟨a, z, i, rfl, _⟩ := h
    rfl
  · obtain ⟨a, z, i, rfl, ha, hz, hi0, hi1, k⟩ := h
    refine ⟨_, _, pe_joined (.cons (pe_fmt (pv 1)) (.cons pe_str (.cons (pe_fmt (pv 2)) .nil))), pss_cons (ps_ost (pv 0) (pv 1)) (pss_one (ps_ost (pv 0) (pv 2))), ⟨a, rfl, ha⟩, ?_⟩
    have l1 : (Str.empty : Str).length = 0 := rfl
    have l2 : (": wrong at index " : Str).length = 17 := by decide +kernel
    have l3 := digits_small hi0 hi1
    have l4 : ∀ a b : Str, (a ++ b).length = a.length + b.length := Str.length_append
    have l5 := sizeLine_eq
    have hs : H a ≠ none := by rw [ha]; intro q; cases q
    refine ⟨_, rfl, .inl ⟨z, rfl, by omega, z, rfl, by rw [l4]; omega, _, rfl, by rw [l4, l4]; omega, _, rfl, .inr ⟨i, rfl, log2_small hi0 hi1, _, rfl, by rw [l4, l4, l4]; omega, ⟨_, rfl⟩, a, rfl, ha, ?_⟩⟩⟩
    refine ⟨_, rfl, _, rfl, a, C, rfl, T.sup.oex, nP, .inl ⟨ha, fun dx hd ne => ?_⟩⟩
    refine ⟨_, rfl, _, rfl, a, C, rfl, T.sup.oex, nI, .inr ⟨dx, [("part", .str z)], upd_same, by rw [upd_ne ne, upd_same], (by show 1 ≤ 900; decide), ?_⟩⟩
    exact k dx hd ne

/-! ### what is raised -/
/-- InvalidHouse(part, i) is let out -/
def Ri (C : Addr) (z : Str) (i : Nat) (H : Hp) (E : XK) : Prop := ∀ dd H', Same H H' → H' dd = some (.xd (ihFs z i)) → E (.ref C) (some dd) H'
theorem Ri.same {C : Addr} {z : Str} {i : Nat} {H H' : Hp} {E : XK} (e : Same H H') (r : Ri C z i H E) : Ri C z i H' E := fun dd H2 e2 h => r dd H2 (e.trans e2) h
/-- the reading of InvalidHouse(z, i), told by Ri -/
theorem ih_made {C : Addr} {H : Hp} {E : XK} {z : Str} {i : Nat} (hz : z.length ≤ 1000) (hi : i ≤ 1000) (r : Ri C z i H E) :
    ∀ a, H a = none → spIH C (.ref a :: ([.str z, .int i] ++ [])) (upd H a (exo a C none))
      (fun v H2 => v = .non ∧ ∃ (d : Addr) (fs : List (Str × V)), H2 a = some (exo a C (some d)) ∧ H2 d = some (exd d fs) ∧ H d = none ∧ E (.ref C) (some d) (upd (del H2 a) d (.xd fs))) (fun _ _ _ => False) := fun a ha => by
  refine ⟨a, z, i, rfl, upd_same, hz, by omega, by omega, fun dx hd ne => ⟨rfl, dx, _, by rw [upd_ne ne.symm, upd_same], upd_same, by rw [upd_ne ne] at hd; exact hd, ?_⟩⟩
  have hdx : H dx = none := by rw [upd_ne ne] at hd; exact hd
  refine r dx _ (fun b o e => ?_) upd_same
  have n1 : b ≠ dx := ne_of_none e hdx
  have n2 : b ≠ a := ne_of_none e ha
  rw [upd_ne n1, del_ne n2, upd_ne n1, upd_ne n2, upd_ne n1, upd_ne n2]
  exact e
def firstBad (f : Nat → Pl → Bool) : Nat → List Pl → Option Nat
  | _, [] => none
  | i, p :: r => if f i p = true then some i else firstBad f (i + 1) r
/-- the search, seen from turn i on -/
theorem bad_at {f : Nat → Pl → Bool} {ps : List Pl} {i : Nat} {p : Pl} (h : ps[i]? = some p) : firstBad f i (ps.drop i) = if f i p = true then some i else firstBad f (i + 1) (ps.drop (i + 1)) := by
  obtain ⟨hl, he⟩ := List.getElem?_eq_some_iff.mp h
  rw [List.drop_eq_getElem_cons hl, he]
  rfl
theorem bad_end {f : Nat → Pl → Bool} {ps : List Pl} : firstBad f ps.length (ps.drop ps.length) = none := by
  rw [List.drop_length]
  rfl
def badB (n : Int) (i : Nat) (p : Pl) : Bool := decide (i = 3) || !plOk p n i
def badBoxes (n : Int) (bs : List Pl) : Option Nat := if bs.length = 0 then some 0 else firstBad (badB n) 0 bs
def spBoxes (K : PySem.W.Frag) (C : Addr) : Sp := fun vs H Q E => ∃ (n : Int) (x : V) (bs : List Pl), vs = [.int n, x] ∧ Dp K H x (plsD bs) ∧ bs.length ≤ 100 ∧
  (∀ i, badBoxes n bs = some i → Ri C "boxes" i H E) ∧ (badBoxes n bs = none → ∀ H', Same H H' → Q .non H')
/-- the module's constants -/
structure Cs (mg : Str → Option Value) : Prop where
  h : ∃ t, mg "MOST_HANDS" = some (.int 4 t)
  b : ∃ t, mg "MOST_BOXES" = some (.int 3 t)
  t : ∃ t, mg "MOST_THINGS" = some (.int 4 t)
  s : ∃ t, mg "MOST_SEALS" = some (.int 3 t)
theorem scBoxes : FnScope ["hands", "boxes", "index", "place"] ["hands", "boxes"] (defScope sBoxes) := ⟨rfl, rfl, rfl, by decide +kernel, rfl, by decide +kernel, by decide +kernel⟩
theorem ok_boxes {f g C fI : Addr} {fd fdg fdI : FuncData} (F : Fun K "need_boxes" "need_boxes" sBoxes f fd) (B : Bt mg) (Z : Cs mg) (G : FnOk P w K mg base CX0 2 g fdg ["place", "hands", "boxes"] (spIsPl K)) (mG : mg "is_place" = some (.ref g)) (kG : PySem.W.keepIn K (.ref g) = true) (bG : Binds K fdg ["place", "hands", "boxes"] [])
    (T : ExcI P K mg "InvalidHouse" "InvalidHouse.__init__" sIH C fI fdI) (GI : FnOk P w K mg base CX0 1 fI fdI ["self", "part", "index"] (spIH C)) : FnOk P w K mg base (L2.CX P w) 3 f fd ["hands", "boxes"] (spBoxes K C) := by
  obtain ⟨tb, mB⟩ := Z.b
  refine F.okX scBoxes (fun vs H Q E h => ?_) (fun cdv A outer s H vs Q E hr h => ?_)
  · obtain ⟨n, x, bs, rfl, _⟩ := h
    rfl
  · obtain ⟨n, x, bs, rfl, hx, hl, kE, kQ⟩ := h
    obtain ⟨ab, xb, rfl, qb, db, lb⟩ := pls_at hx
    have tk : Takes (cxOf (L2.CX P w) P w K mg base ["hands", "boxes", "index", "place"] "need_boxes" (defScope sBoxes) f cdv A outer s H E) (fun cls d _ H => E cls d H) := takes_of rfl rfl rfl rfl
    refine ⟨_, pss_cons (ps_if (pt_cmpR op_eq (pe_callB call_len_seq (by rfl) B.len PySem.boot_len (pa_cons (pv 1) pa_nil)) pe_int (nomark _)) (pss_one (ps_raise rfl tk (pmk_oex T.sup.oex T.at_ T.ty GI hr T.bind .nil pass0 rfl T.mgC (pa_cons pe_str (pa_cons pe_int pa_nil))))) pss_nil)
      (pss_one (ps_for (passes_of rfl) rfl (pi_enumT (by rfl) B.enu (pa_cons (pv 1) pa_nil)) (pg_tup (by rfl) (pgs_cons (pg_name (i := 2) scBoxes.nd rfl (.inl rfl)) (pgs_cons (pg_name (i := 3) scBoxes.nd rfl (.inl rfl)) pgs_nil)))
        (pss_one (ps_if (PW.pt (pw_or (pt_cmpR op_eq (pv 2) (pe_glob (v := .int 3) rfl mB ⟨_, rfl⟩) (nomark _)) (pw_or1 (pt_not (pt_val (pe_call G hr rfl mG kG bG .nil pass0 (pa_cons (pv 3) (pa_cons (pv 0) (pa_cons (pv 2) pa_nil)))))))))
          (pss_one (ps_raise rfl tk (pmk_oex T.sup.oex T.at_ T.ty GI hr T.bind .nil pass0 rfl T.mgC (pa_cons pe_str (pa_cons (pv 2) pa_nil))))) pss_nil)))), ?_⟩
    refine ⟨_, rfl, _, _, rfl, .inr qb, rfl, _, rfl, ?_⟩
    rw [lb]
    unfold badBoxes at kE kQ
    have i0 : decide ((V.int (bs.length : Nat)) = V.int 0) = decide (bs.length = 0) := by
      by_cases c : bs.length = 0
      · rw [decide_eq_true c, c]; rfl
      · rw [decide_eq_false c]; exact decide_eq_false fun q => c (by have := V.int.inj q; omega)
    rw [i0]
    refine ite2 (fun c => ?_) (fun c => ?_)
    · have c' := of_decide_eq_true c
      rw [if_pos c'] at kE
      exact ⟨(by show 2 ≤ 1000; decide), ih_made (by decide +kernel) (by decide) (kE 0 rfl)⟩
    have c' : ¬ bs.length = 0 := fun z => c (decide_eq_true z)
    rw [if_neg c'] at kE kQ
    refine ⟨_, rfl, ab, xb, rfl, qb, for_enumT (K := K) (a := ab) (xs := xb) (fun i σ H2 => ∃ v1 v2 : Option V, σ = [some (.int n), some (.ref ab), v1, v2] ∧ Same H H2 ∧ firstBad (badB n) 0 bs = firstBad (badB n) i (bs.drop i))
      ⟨none, none, rfl, Same.refl H, by rw [List.drop_zero]⟩ (fun i σ H2 _ ⟨_, _, _, e, _⟩ => SqT.same e qb) ?_ ?_⟩
    · rintro i y σ H2 T' hi ⟨v1, v2, rfl, e, hb⟩ hT
      obtain ⟨p, hp, hy⟩ := pls_get db hi
      have e2 : Same H (upd H2 T' (.tup [.int (i : Nat), y])) := Same.upd2 e hT
      refine ⟨T', _, rfl, SqT.of upd_same, rfl, _, _, rfl, _, _, rfl, rfl, ?_⟩
      have hi100 : i < bs.length := (List.getElem?_eq_some_iff.mp hp).1
      rw [bad_at hp] at hb
      refine ⟨_, rfl, rfl, _, rfl, ?_⟩
      have i3 : decide ((V.int (i : Nat)) = V.int 3) = decide (i = 3) := by
        by_cases c : i = 3
        · rw [decide_eq_true c, c]; rfl
        · rw [decide_eq_false c]; exact decide_eq_false fun q => c (by have := V.int.inj q; omega)
      rw [i3]
      have raised : badB n i p = true → ∀ Q', (∀ cls d H', E cls d H' → Q' cls d H') → Ri C "boxes" i (upd H2 T' (.tup [.int (i : Nat), y])) Q' := fun hbad Q' hQ' => by
        rw [if_pos hbad] at hb
        exact fun dd H' e' hdd => hQ' _ _ _ (kE i hb dd H' (e2.trans e') hdd)
      unfold badB at raised hb
      by_cases c3 : i = 3
      · rw [decide_eq_true c3] at raised ⊢
        refine iteT (iteT ?_)
        exact ⟨_, rfl, (by show 2 ≤ 1000; decide), ih_made (by decide +kernel) (by omega) (raised rfl _ fun _ _ _ h => h)⟩
      · rw [decide_eq_false c3] at raised hb ⊢
        refine iteF ⟨_, rfl, _, rfl, _, rfl, _, p, n, i, rfl, Dp.nl (fun a o h _ _ => e2 a o h) _ _ (noL_pl p) hy, _, rfl, ?_⟩
        cases cp : plOk p n i with
        | false =>
          rw [cp] at raised
          refine iteT ?_
          exact ⟨_, rfl, (by show 2 ≤ 1000; decide), ih_made (by decide +kernel) (by omega) (raised rfl _ fun _ _ _ h => h)⟩
        | true =>
          rw [cp] at hb
          refine iteF ?_
          exact ⟨_, _, rfl, e2, hb⟩
    · rintro σ H2 ⟨v1, v2, rfl, e, hb⟩
      rw [lb, bad_end] at hb
      exact kQ hb H2 e

/-! ### need_house -/
def badT (n m : Int) (i : Nat) (p : Pl) : Bool := decide (i = 4) || !plOk p n m
def badS (n m : Int) (ss : List Pl) (i : Nat) (p : Pl) : Bool := (decide (i = 3) || !plOk p n m) || (decide (p.1 = .box) && (ss.take i).any fun q => decide (q = p))
def errOf (n : Int) (bs ts ss : List Pl) : Option (Str × Nat) :=
  if (!numOk n 5 || decide (n = 0)) = true then some ("hands", 0) else
  match badBoxes n bs with
  | some i => some ("boxes", i)
  | none =>
    match firstBad (badT n bs.length) 0 ts with
    | some i => some ("things", i)
    | none =>
      match firstBad (badS n bs.length ss) 0 ss with
      | some i => some ("seals", i)
      | none => none
def spNeed (K : PySem.W.Frag) (C : Addr) : Sp := fun vs H Q E => ∃ (n : Int) (x y z : V) (bs ts ss : List Pl), vs = [.int n, x, y, z] ∧ Dp K H x (plsD bs) ∧ Dp K H y (plsD ts) ∧ Dp K H z (plsD ss) ∧ bs.length ≤ 100 ∧ ts.length ≤ 100 ∧ ss.length ≤ 100 ∧
  (∀ z i, errOf n bs ts ss = some (z, i) → Ri C z i H E) ∧ (errOf n bs ts ss = none → ∀ H', Same H H' → Q .non H')
theorem decI (i j : Nat) : decide ((V.int (i : Int)) = V.int (j : Int)) = decide (i = j) := by
  by_cases c : i = j
  · rw [decide_eq_true c, c]; exact decide_eq_true rfl
  · rw [decide_eq_false c]; exact decide_eq_false fun q => c (by have := V.int.inj q; omega)
theorem decZ (i j : Int) : decide ((V.int i) = V.int j) = decide (i = j) := by
  by_cases c : i = j
  · rw [decide_eq_true c, c]; exact decide_eq_true rfl
  · rw [decide_eq_false c]; exact decide_eq_false fun q => c (V.int.inj q)
theorem any_pl (p : Pl) : ∀ l : List Pl, ((l.map plD).any fun z => PyData.eqv z (plD p)) = l.any fun q => decide (q = p)
  | [] => rfl
  | a :: l => by
    rw [List.map_cons, List.any_cons, List.any_cons, any_pl p l, eqv_pl]
theorem same_nl {H H' : Hp} (e : Same H H') : Nl H H' := fun a o h _ _ => e a o h
theorem scNeed : FnScope ["hands", "boxes", "things", "seals", "index", "place"] ["hands", "boxes", "things", "seals"] (defScope sNeed) := ⟨rfl, rfl, rfl, by decide +kernel, rfl, by decide +kernel, by decide +kernel⟩
theorem ok_need {f g gb gn C fI : Addr} {fd fdg fdb fdn fdI : FuncData} (F : Fun K "need_house" "need_house" sNeed f fd) (B : Bt mg) (Z : Cs mg)
    (G : FnOk P w K mg base CX0 2 g fdg ["place", "hands", "boxes"] (spIsPl K)) (mG : mg "is_place" = some (.ref g)) (kG : PySem.W.keepIn K (.ref g) = true) (bG : Binds K fdg ["place", "hands", "boxes"] [])
    (GN : FnOk P w K mg base CX0 1 gn fdn ["value", "limit"] spNum) (mN : mg "is_number" = some (.ref gn)) (kN : PySem.W.keepIn K (.ref gn) = true) (bN : Binds K fdn ["value", "limit"] [])
    (GB : FnOk P w K mg base (L2.CX P w) 3 gb fdb ["hands", "boxes"] (spBoxes K C)) (mB : mg "need_boxes" = some (.ref gb)) (kB : PySem.W.keepIn K (.ref gb) = true) (bB : Binds K fdb ["hands", "boxes"] [])
    (T : ExcI P K mg "InvalidHouse" "InvalidHouse.__init__" sIH C fI fdI) (GI : FnOk P w K mg base CX0 1 fI fdI ["self", "part", "index"] (spIH C)) : FnOk P w K mg base (L2.CX P w) 4 f fd ["hands", "boxes", "things", "seals"] (spNeed K C) := by
  obtain ⟨th, mH⟩ := Z.h
  obtain ⟨tt, mT⟩ := Z.t
  obtain ⟨ts', mS⟩ := Z.s
  refine F.okX scNeed (fun vs H Q E h => ?_) (fun cdv A outer s H vs Q E hr h => ?_)
  · obtain ⟨n, x, y, z, bs, ts, ss, rfl, _⟩ := h
    rfl
  · obtain ⟨n, x, y, z, bs, ts, ss, rfl, hx, hy, hz, hl1, hl2, hl3, kE, kQ⟩ := h
    obtain ⟨ab, xb, rfl, qb, db, lb⟩ := pls_at hx
    obtain ⟨at', xt, rfl, qt, dt, lt⟩ := pls_at hy
    obtain ⟨as, xs, rfl, qs, ds, ls⟩ := pls_at hz
    have hr2 : Room 2 _ := hr.mono (by decide)
    have hr1 : Room 1 _ := hr.mono (by decide)
    have hu65 : (cxOf (L2.CX P w) P w K mg base ["hands", "boxes", "things", "seals", "index", "place"] "need_house" (defScope sNeed) f cdv A outer s H E).A.units + 65 < cLine := by have := hr.un; show (A.deeper _).units + 65 < cLine; omega
    have tk : Takes (cxOf (L2.CX P w) P w K mg base ["hands", "boxes", "things", "seals", "index", "place"] "need_house" (defScope sNeed) f cdv A outer s H E) (fun cls d _ H => E cls d H) := takes_of rfl rfl rfl rfl
    refine ⟨_, pss_cons (ps_if (PW.pt (pw_or (pt_not (pt_val (pe_call GN hr1 rfl mN kN bN .nil pass0 (pa_cons (pv 0) (pa_cons (pe_op op_add (pe_glob (v := .int 4) rfl mH ⟨_, rfl⟩) pe_int) pa_nil))))) (pw_or1 (pt_cmpR op_eq (pv 0) pe_int (nomark _)))))
        (pss_one (ps_raise rfl tk (pmk_oex T.sup.oex T.at_ T.ty GI hr2 T.bind .nil pass0 rfl T.mgC (pa_cons pe_str (pa_cons pe_int pa_nil))))) pss_nil)
      (pss_cons (ps_expr (pe_call GB hr rfl mB kB bB .nil (passes_call tk (fun _ _ _ _ h => h)) (pa_cons (pv 0) (pa_cons (pv 1) pa_nil))))
      (pss_cons (ps_for (passes_of rfl) rfl (pi_enumT (by rfl) B.enu (pa_cons (pv 2) pa_nil)) (pg_tup (by rfl) (pgs_cons (pg_name (i := 4) scNeed.nd rfl (.inl rfl)) (pgs_cons (pg_name (i := 5) scNeed.nd rfl (.inl rfl)) pgs_nil)))
        (pss_one (ps_if (PW.pt (pw_or (pt_cmpR op_eq (pv 4) (pe_glob (v := .int 4) rfl mT ⟨_, rfl⟩) (nomark _)) (pw_or1 (pt_not (pt_val (pe_call G hr2 rfl mG kG bG .nil pass0 (pa_cons (pv 5) (pa_cons (pv 0) (pa_cons (pe_callB call_len_seq (by rfl) B.len PySem.boot_len (pa_cons (pv 1) pa_nil)) pa_nil)))))))))
          (pss_one (ps_raise rfl tk (pmk_oex T.sup.oex T.at_ T.ty GI hr2 T.bind .nil pass0 rfl T.mgC (pa_cons pe_str (pa_cons (pv 4) pa_nil))))) pss_nil)))
      (pss_one (ps_for (passes_of rfl) rfl (pi_enumT (by rfl) B.enu (pa_cons (pv 3) pa_nil)) (pg_tup (by rfl) (pgs_cons (pg_name (i := 4) scNeed.nd rfl (.inl rfl)) (pgs_cons (pg_name (i := 5) scNeed.nd rfl (.inl rfl)) pgs_nil)))
        (pss_cons (ps_if (PW.pt (pw_or (pt_cmpR op_eq (pv 4) (pe_glob (v := .int 3) rfl mS ⟨_, rfl⟩) (nomark _)) (pw_or1 (pt_not (pt_val (pe_call G hr2 rfl mG kG bG .nil pass0 (pa_cons (pv 5) (pa_cons (pv 0) (pa_cons (pe_callB call_len_seq (by rfl) B.len PySem.boot_len (pa_cons (pv 1) pa_nil)) pa_nil)))))))))
          (pss_one (ps_raise rfl tk (pmk_oex T.sup.oex T.at_ T.ty GI hr2 T.bind .nil pass0 rfl T.mgC (pa_cons pe_str (pa_cons (pv 4) pa_nil))))) pss_nil)
        (pss_one (ps_if (PW.pt (pw_and (pt_cmpR op_eq (pe_ix ix_tup (pv 5) pe_int (fun _ _ => rfl)) pe_str (nomark _)) (pw_and1 (pt_cmpR (op_inDT hu65) (pv 5) (pe_slice sl_tupA (pv 3) po_none (po_some (pv 4))) (by rfl)))))
          (pss_one (ps_raise rfl tk (pmk_oex T.sup.oex T.at_ T.ty GI hr2 T.bind .nil pass0 rfl T.mgC (pa_cons pe_str (pa_cons (pv 4) pa_nil))))) pss_nil))))))), ?_⟩
    refine ⟨_, rfl, _, _, rfl, rfl, n, 5, rfl, _, rfl, ?_⟩
    unfold errOf at kE kQ
    by_cases c0 : (!numOk n 5 || decide (n = 0)) = true
    · rw [if_pos c0] at kE
      have rz : tMkO C (spIH C) [] (tCons (tC (.str "hands")) (tCons (tC (.int 0)) tNil)) (start ["hands", "boxes", "things", "seals", "index", "place"] [.int n, .ref ab, .ref at', .ref as]) H (fun cls d H' => E cls d H') :=
        ⟨(by show 2 ≤ 1000; decide), ih_made (by decide +kernel) (by decide) (kE _ 0 rfl)⟩
      cases c1 : numOk n 5 with
      | false => exact iteT (iteT rz)
      | true =>
        refine iteF ⟨_, rfl, rfl, _, rfl, ?_⟩
        rw [decZ]
        rw [c1] at c0
        have c2 : decide (n = 0) = true := c0
        rw [c2]
        exact iteT rz
    rw [if_neg c0] at kE kQ
    have c1 : numOk n 5 = true := by
      cases c : numOk n 5 with
      | true => rfl
      | false => rw [c] at c0; exact absurd rfl c0
    have c2 : decide (n = 0) = false := by
      cases c : decide (n = 0) with
      | false => rfl
      | true => rw [c1, c] at c0; exact absurd rfl c0
    rw [c1]
    refine iteF ⟨_, rfl, rfl, _, rfl, ?_⟩
    rw [decZ, c2]
    refine iteF ?_
    -- need_boxes(hands, boxes)
    refine ⟨_, rfl, _, rfl, n, .ref ab, bs, rfl, hx, hl1, fun i hi => ?_, fun hb H1 e1 => ?_⟩
    · rw [hi] at kE
      exact kE _ i rfl
    rw [hb] at kE kQ
    have eqH : ∀ (m : Nat), decide ((V.int (m : Nat)) = V.int 4) = decide (m = 4) := fun m => decI m 4
    have eqH3 : ∀ (m : Nat), decide ((V.int (m : Nat)) = V.int 3) = decide (m = 3) := fun m => decI m 3
    -- for index, place in enumerate(things)
    refine ⟨_, rfl, at', xt, rfl, SqT.same e1 qt, for_enumT (K := K) (a := at') (xs := xt) (fun i σ H2 => ∃ v1 v2 : Option V, σ = [some (.int n), some (.ref ab), some (.ref at'), some (.ref as), v1, v2] ∧ Same H H2 ∧ firstBad (badT n bs.length) 0 ts = firstBad (badT n bs.length) i (ts.drop i))
      ⟨none, none, rfl, e1, by rw [List.drop_zero]⟩ (fun i σ H2 _ ⟨_, _, _, e, _⟩ => SqT.same e qt) ?_ ?_⟩
    · rintro i y σ H2 T' hi ⟨v1, v2, rfl, e, hb2⟩ hT
      obtain ⟨p, hp, hy2⟩ := pls_get dt hi
      have e2 : Same H (upd H2 T' (.tup [.int (i : Nat), y])) := Same.upd2 e hT
      refine ⟨T', _, rfl, SqT.of upd_same, rfl, _, _, rfl, _, _, rfl, rfl, ?_⟩
      have hi100 : i < ts.length := (List.getElem?_eq_some_iff.mp hp).1
      rw [bad_at hp] at hb2
      refine ⟨_, rfl, rfl, _, rfl, ?_⟩
      rw [eqH]
      have raised : badT n bs.length i p = true → Ri C "things" i (upd H2 T' (.tup [.int (i : Nat), y])) E := fun hbad => by
        rw [if_pos hbad] at hb2
        rw [hb2] at kE
        exact fun dd H' e' hdd => kE _ i rfl dd H' (e2.trans e') hdd
      unfold badT at raised hb2
      by_cases c3 : i = 4
      · rw [decide_eq_true c3] at raised ⊢
        refine iteT (iteT ?_)
        exact ⟨_, rfl, (by show 2 ≤ 1000; decide), ih_made (by decide +kernel) (by omega) (raised rfl)⟩
      · rw [decide_eq_false c3] at raised hb2 ⊢
        refine iteF ⟨_, rfl, _, rfl, _, rfl, ab, xb, rfl, .inr (SqT.same e2 qb), _, p, n, xb.length, rfl, Dp.nl (same_nl e2) _ _ (noL_pl p) hy2, _, rfl, ?_⟩
        rw [lb]
        cases cp : plOk p n bs.length with
        | false =>
          rw [cp] at raised
          refine iteT ?_
          exact ⟨_, rfl, (by show 2 ≤ 1000; decide), ih_made (by decide +kernel) (by omega) (raised rfl)⟩
        | true =>
          rw [cp] at hb2
          exact iteF ⟨_, _, rfl, e2, hb2⟩
    rintro σ H2 ⟨v1, v2, rfl, e, hb2⟩
    rw [lt, bad_end] at hb2
    rw [hb2] at kE kQ
    -- for index, place in enumerate(seals)
    refine ⟨_, rfl, as, xs, rfl, SqT.same e qs, for_enumT (K := K) (a := as) (xs := xs) (fun i σ H2 => ∃ v1 v2 : Option V, σ = [some (.int n), some (.ref ab), some (.ref at'), some (.ref as), v1, v2] ∧ Same H H2 ∧ firstBad (badS n bs.length ss) 0 ss = firstBad (badS n bs.length ss) i (ss.drop i))
      ⟨_, _, rfl, e, by rw [List.drop_zero]⟩ (fun i σ H2 _ ⟨_, _, _, e, _⟩ => SqT.same e qs) ?_ ?_⟩
    · rintro i y σ H3 T' hi ⟨v1, v2, rfl, e, hb2⟩ hT
      obtain ⟨p, hp, hy2⟩ := pls_get ds hi
      have e2 : Same H (upd H3 T' (.tup [.int (i : Nat), y])) := Same.upd2 e hT
      refine ⟨T', _, rfl, SqT.of upd_same, rfl, _, _, rfl, _, _, rfl, rfl, ?_⟩
      have hi100 : i < ss.length := (List.getElem?_eq_some_iff.mp hp).1
      rw [bad_at hp] at hb2
      refine ⟨_, rfl, rfl, _, rfl, ?_⟩
      rw [eqH3]
      have raised : badS n bs.length ss i p = true → ∀ H', Same H H' → Ri C "seals" i H' E := fun hbad H' eh => by
        rw [if_pos hbad] at hb2
        rw [hb2] at kE
        exact fun dd H'' e' hdd => kE _ i rfl dd H'' (eh.trans e') hdd
      unfold badS at raised hb2
      by_cases c3 : i = 3
      · rw [decide_eq_true c3] at raised ⊢
        refine iteT (iteT ?_)
        exact ⟨_, rfl, (by show 2 ≤ 1000; decide), ih_made (by decide +kernel) (by omega) (raised rfl _ e2)⟩
      · rw [decide_eq_false c3] at raised hb2 ⊢
        refine iteF ⟨_, rfl, _, rfl, _, rfl, ab, xb, rfl, .inr (SqT.same e2 qb), _, p, n, xb.length, rfl, Dp.nl (same_nl e2) _ _ (noL_pl p) hy2, _, rfl, ?_⟩
        rw [lb]
        cases cp : plOk p n bs.length with
        | false =>
          rw [cp] at raised
          refine iteT ?_
          exact ⟨_, rfl, (by show 2 ≤ 1000; decide), ih_made (by decide +kernel) (by omega) (raised rfl _ e2)⟩
        | true =>
          rw [cp] at raised hb2
          refine iteF ?_
          -- if place[0] == 'box' and place in seals[:index]
          obtain ⟨ap, rfl, qp⟩ := pl_at (Dp.nl (same_nl e2) _ _ (noL_pl p) hy2)
          refine ⟨_, rfl, ap, _, 0, _, rfl, rfl, qp, rfl, rfl, _, rfl, ?_⟩
          rw [decS]
          cases cw : p.1 with
          | hand =>
            rw [cw] at hb2
            exact iteF (iteF ⟨_, _, rfl, e2, hb2⟩)
          | gone =>
            rw [cw] at hb2
            exact iteF (iteF ⟨_, _, rfl, e2, hb2⟩)
          | box =>
            rw [cw] at raised hb2
            have hxl : i < xs.length := by omega
            refine iteT ⟨_, rfl, _, rfl, _, rfl, _, rfl, as, xs, rfl, SqT.same e2 qs, fun hw => ?_, fun hw T2 hT2 => ?_⟩
            · exfalso
              have h1 := hw.2
              rw [HT.sIx_nat] at h1
              omega
            · have e3 : Same H (upd (upd H3 T' (.tup [.int (i : Nat), .ref ap])) T2 (.tup (cutV xs none (some (i : Int))))) := Same.upd2 e2 hT2
              have ecut : cutV xs none (some (i : Int)) = xs.take i := by
                unfold cutV
                rw [HT.sIx_none, HT.sIx_nat, List.drop_zero, Nat.sub_zero, Nat.min_eq_left (by omega)]
              rw [ecut] at e3 ⊢
              refine ⟨plD p, (ss.take i).map plD, Dp.nl (same_nl e3) _ _ (noL_pl p) hy2, .tup (SqT.of upd_same) ?_, shaped_pl p, shaped_pls (ss.take i), _, rfl, ?_⟩
              · rw [List.map_take]
                exact DpAll.take i (Dp.sames e3 _ _ ds)
              · rw [any_pl]
                cases ca : (ss.take i).any fun q => decide (q = p) with
                | true =>
                  rw [ca] at raised
                  refine iteT ?_
                  exact ⟨_, rfl, (by show 2 ≤ 1000; decide), ih_made (by decide +kernel) (by omega) (raised rfl _ e3)⟩
                | false =>
                  rw [ca] at hb2
                  exact iteF ⟨_, _, rfl, e3, hb2⟩
    rintro σ H3 ⟨v1, v2, rfl, e, hb3⟩
    rw [ls, bad_end] at hb3
    rw [hb3] at kQ
    exact kQ rfl H3 e
end
end Kw

set_option Elab.async false
set_option linter.all false
set_option maxRecDepth 100000
set_option maxHeartbeats 4000000
namespace Kw
open PySem PySem.Spec PyProof.Rows L2
section
variable {P : Program} {w : World} {K : PySem.W.Frag} {mg : Str → Option Value} {base : Heap}
/-! ### House(hands, boxes, things, seals) -/
/-- all but what stands at h -/
def But (h : Addr) (H H' : Hp) : Prop := ∀ a o, H a = some o → a ≠ h → H' a = some o
def spHouse (K : PySem.W.Frag) (C CE : Addr) : Sp := fun vs H Q E => ∃ (h dx : Addr) (n : Int) (x y z : V) (bs ts ss : List Pl), vs = [.ref h, .int n, x, y, z] ∧ H h = some (.ins C dx []) ∧ Dp K H x (plsD bs) ∧ Dp K H y (plsD ts) ∧ Dp K H z (plsD ss) ∧ bs.length ≤ 100 ∧ ts.length ≤ 100 ∧ ss.length ≤ 100 ∧
  (∀ z i, errOf n bs ts ss = some (z, i) → Ri CE z i H E) ∧ (errOf n bs ts ss = none → ∀ H', But h H H' → HouseAt K C H' h ⟨n, bs, ts, ss⟩ → (Fv H z → HouseF K C H' h ⟨n, bs, ts, ss⟩) → Q .non H')
theorem scInit : FnScope ["self", "hands", "boxes", "things", "seals"] ["self", "hands", "boxes", "things", "seals"] (defScope sInit) := ⟨rfl, rfl, rfl, by decide +kernel, rfl, by decide +kernel, by decide +kernel⟩
theorem ok_house {f g C CE : Addr} {fd fdg : FuncData} (F : Fun K "__init__" "House.__init__" sInit f fd) (B : Bt mg) (T : HouseC K C)
    (G : FnOk P w K mg base (L2.CX P w) 4 g fdg ["hands", "boxes", "things", "seals"] (spNeed K CE)) (mG : mg "need_house" = some (.ref g)) (kG : PySem.W.keepIn K (.ref g) = true) (bG : Binds K fdg ["hands", "boxes", "things", "seals"] []) :
    FnOk P w K mg base (L2.CX P w) 5 f fd ["self", "hands", "boxes", "things", "seals"] (spHouse K C CE) := by
  refine F.okX scInit (fun vs H Q E h => ?_) (fun cdv A outer s H vs Q E hr h => ?_)
  · obtain ⟨h, dx, n, x, y, z, bs, ts, ss, rfl, _⟩ := h
    rfl
  · obtain ⟨h, dx, n, x, y, z, bs, ts, ss, rfl, hh, hx, hy, hz, hl1, hl2, hl3, kE, kQ⟩ := h
    obtain ⟨ab, xb, rfl, qb, db, lb⟩ := pls_at hx
    obtain ⟨at', xt, rfl, qt, dt, lt⟩ := pls_at hy
    obtain ⟨as, xs, rfl, qs, ds, ls⟩ := pls_at hz
    have tk : Takes (cxOf (L2.CX P w) P w K mg base ["self", "hands", "boxes", "things", "seals"] "House.__init__" (defScope sInit) f cdv A outer s H E) (fun cls d _ H => E cls d H) := takes_of rfl rfl rfl rfl
    refine ⟨_, pss_cons (ps_expr (pe_call G hr rfl mG kG bG .nil (passes_call tk (fun _ _ _ _ h => h)) (pa_cons (pv 1) (pa_cons (pv 2) (pa_cons (pv 3) (pa_cons (pv 4) pa_nil))))))
      (pss_cons (ps_fld (pv 0) (pv 1) rfl)
      (pss_cons (ps_fld (pv 0) (pe_callTy call_tuple_of (by rfl) B.tup (by decide +kernel) (pa_cons (pv 2) pa_nil)) rfl)
      (pss_cons (ps_fld (pv 0) (pe_callTy call_tuple_of (by rfl) B.tup (by decide +kernel) (pa_cons (pv 3) pa_nil)) rfl)
      (pss_cons (ps_fld (pv 0) (pe_callTy call_tuple_of (by rfl) B.tup (by decide +kernel) (pa_cons (pv 4) pa_nil)) rfl)
      (pss_one (ps_fld (pv 0) (pe_tup (pa_cons (pe_fld (pv 0) rfl) (pa_cons (pe_fld (pv 0) rfl) (pa_cons (pe_fld (pv 0) rfl) pa_nil)))) rfl)))))), ?_⟩
    refine ⟨_, rfl, _, rfl, _, rfl, _, rfl, n, .ref ab, .ref at', .ref as, bs, ts, ss, rfl, hx, hy, hz, hl1, hl2, hl3, kE, fun he H1 e1 => ?_⟩
    have h1 := e1 _ _ hh
    have tu : ∀ {a : Addr} {us : List V} {o : HO}, SqT K H a us → SqT K (upd H1 h o) a us := fun {a us o} q => by
      rcases SqT.same e1 q with (q | ⟨ob, q⟩) | q
      · exact .inl (.inl (by rw [upd_ne (ne_of q h1 (by intro z; cases z))]; exact q))
      · exact .inl (.inr ⟨ob, by rw [upd_ne (ne_of q h1 (by intro z; cases z))]; exact q⟩)
      · exact .inr q
    refine ⟨_, rfl, _, rfl, h, C, dx, _, rfl, h1, T.cl, T.nH, (by show 0 < 1000; decide), ?_⟩
    refine ⟨_, rfl, ab, xb, rfl, .inr ⟨tu qb, _, rfl, h, C, dx, _, rfl, upd_same, T.cl, T.nB, (by show 1 < 1000; decide), ?_⟩⟩
    rw [upd_upd]
    refine ⟨_, rfl, at', xt, rfl, .inr ⟨tu qt, _, rfl, h, C, dx, _, rfl, upd_same, T.cl, T.nT, ?_, ?_⟩⟩
    · have a3 := length_putF "boxes" (.ref ab) (putF "hands" (.int n) [])
      have a4 := length_putF "hands" (.int n) []
      have a5 : ([] : List (Str × V)).length = 0 := rfl
      omega
    rw [upd_upd]
    refine ⟨_, rfl, as, xs, rfl, .inr ⟨tu qs, _, rfl, h, C, dx, _, rfl, upd_same, T.cl, T.nS, ?_, ?_⟩⟩
    · have a2 := length_putF "things" (.ref at') (putF "boxes" (.ref ab) (putF "hands" (.int n) []))
      have a3 := length_putF "boxes" (.ref ab) (putF "hands" (.int n) [])
      have a4 := length_putF "hands" (.int n) []
      have a5 : ([] : List (Str × V)).length = 0 := rfl
      omega
    rw [upd_upd]
    have lk1 : (putF "seals" (.ref as) (putF "things" (.ref at') (putF "boxes" (.ref ab) (putF "hands" (.int n) [])))).lookup ("boxes" : Str) = some (V.ref ab) := by
      rw [lookup_putF, if_neg (by decide +kernel), lookup_putF, if_neg (by decide +kernel), lookup_putF, if_pos rfl]
    have lk2 : (putF "seals" (.ref as) (putF "things" (.ref at') (putF "boxes" (.ref ab) (putF "hands" (.int n) [])))).lookup ("things" : Str) = some (V.ref at') := by
      rw [lookup_putF, if_neg (by decide +kernel), lookup_putF, if_pos rfl]
    have lk3 : (putF "seals" (.ref as) (putF "things" (.ref at') (putF "boxes" (.ref ab) (putF "hands" (.int n) [])))).lookup ("seals" : Str) = some (V.ref as) := by
      rw [lookup_putF, if_pos rfl]
    refine ⟨_, rfl, h, C, dx, _, .ref ab, rfl, upd_same, T.cl, T.nB, lk1, _, rfl, h, C, dx, _, .ref at', rfl, upd_same, T.cl, T.nT, lk2, _, rfl, h, C, dx, _, .ref as, rfl, upd_same, T.cl, T.nS, lk3, (by show 3 ≤ sizeLine; decide), fun p hp => ?_⟩
    have nph : p ≠ h := fun e => by
      rw [e, upd_same] at hp
      cases hp
    refine ⟨_, rfl, h, C, dx, _, rfl, by rw [upd_ne nph.symm, upd_same], T.cl, T.nSt, ?_, ?_⟩
    · have a1 := length_putF "seals" (.ref as) (putF "things" (.ref at') (putF "boxes" (.ref ab) (putF "hands" (.int n) [])))
      have a2 := length_putF "things" (.ref at') (putF "boxes" (.ref ab) (putF "hands" (.int n) []))
      have a3 := length_putF "boxes" (.ref ab) (putF "hands" (.int n) [])
      have a4 := length_putF "hands" (.int n) []
      have a5 : ([] : List (Str × V)).length = 0 := rfl
      omega
    have hpH : H1 p = none := by rw [upd_ne nph] at hp; exact hp
    have key : ∀ b o, H b = some o → b ≠ h → (upd (upd (upd H1 h (.ins C dx (putF "seals" (.ref as) (putF "things" (.ref at') (putF "boxes" (.ref ab) (putF "hands" (.int n) [])))))) p (.tup [.ref ab, .ref at', .ref as])) h (.ins C dx (hsFs n (.ref ab) (.ref at') (.ref as) (.ref p)))) b = some o := fun b o e ne => by
      rw [upd_ne ne, upd_ne (ne_of_none (e1 b o e) hpH), upd_ne ne]
      exact e1 b o e
    have dps : ∀ (v : V) (ps : List Pl), Dp K H v (plsD ps) → Dp K (upd (upd (upd H1 h (.ins C dx (putF "seals" (.ref as) (putF "things" (.ref at') (putF "boxes" (.ref ab) (putF "hands" (.int n) [])))))) p (.tup [.ref ab, .ref at', .ref as])) h (.ins C dx (hsFs n (.ref ab) (.ref at') (.ref as) (.ref p)))) v (plsD ps) := fun v ps q =>
      Dp.tp (fun b xs e => by
        rcases e with e | ⟨o, e⟩
        · exact .inl (key b _ e (ne_of e hh (by intro z; cases z)))
        · exact .inr ⟨o, key b _ e (ne_of e hh (by intro z; cases z))⟩) _ _ (noL_pls ps) q
    refine kQ he _ key ⟨dx, _, _, _, _, upd_same, dps _ _ hx, dps _ _ hy, dps _ _ hz, ?_⟩ (fun hf => ⟨dx, _, _, _, _, upd_same, ⟨p, _, _, _, rfl, SqT.of (by rw [upd_ne nph, upd_same]), dps _ _ hx, dps _ _ hy, dps _ _ hz, ?_⟩⟩)
    rotate_left
    · obtain ⟨a0, x0, e0, o0, f0, f1, f2⟩ := hf
      exact ⟨a0, x0, e0, o0, key _ _ f0 (ne_of f0 hh (by intro z; cases z)), f1, f2⟩
    exact .tup (SqT.of (by rw [upd_ne nph, upd_same])) (.cons (dps _ _ hx) (.cons (dps _ _ hy) (.cons (dps _ _ hz) .nil)))

/-! ### items -/
def itD (k : Str) (i : Nat) : PyData := .tuple [.str k, .int i]
def kindD (k : Str) (n : Nat) : List PyData := (List.range n).map (itD k)
theorem wipe_one (σ : L2.St) (j : Nat) (x : Option V) : wipe ((wipe σ [j]).set j x) [j] = wipe σ [j] := by
  show (((σ.set j none).set j x).set j none) = σ.set j none
  rw [List.set_set, List.set_set]
theorem yes_lc {A B : Hp → Prop} {σ : L2.St} {H : Hp} (h : A H) : tYes σ H (fun b H3 => if b = true then A H3 else B H3) := by
  show (if true = true then A H else B H)
  rw [if_pos rfl]
  exact h
/-- [(k, number) for number in range(n)], the number's slot j -/
theorem lc_kind {K : PySem.W.Frag} {σ : L2.St} {H1 : Hp} {Dl : Addr} {Qd : Hp → Prop} (k : Str) (n j : Nat) (hj : j < σ.length) (hn : n ≤ 1000) (hD : H1 Dl = none)
    (hd : ∀ H xs, Same H1 H → H Dl = some (.lst xs) → DpAll K H xs (kindD k n) → Qd H) :
    ∃ W : Nat → Nat → Hp → Prop, (∃ m, W 0 m (upd H1 Dl (.lst []))) ∧ ∀ i m H, W i m H →
      ((Itr 0 n).stop i H ∧ Qd H) ∨ ((Itr 0 n).go i H ∧ ∃ Nx : Hp → Prop, (∀ H', Nx H' → ∃ m', m' < m ∧ W (i + 1) m' H') ∧ ∀ x H', (Itr 0 n).yld i H x H' → gName j x (wipe σ [j]) H' fun σ2 H2 => wipe σ2 [j] = wipe σ [j] ∧ tYes σ2 H2 fun b H3 =>
        if b = true then tTup (tCons (tC (.str k)) (tCons (tVar j) tNil)) σ2 H3 fun y H4 => ∃ acc, H4 Dl = some (.lst acc) ∧ acc.length < sizeLine ∧ Nx (upd H4 Dl (.lst (acc ++ [y]))) else Nx H3) := by
  refine lc_range (lo := 0) (n := n) (fun i H => Same H1 H ∧ ∃ xs, H Dl = some (.lst xs) ∧ DpAll K H xs (kindD k i) ∧ xs.length = i) ⟨same_upd hD, [], upd_same, .nil, rfl⟩ ?_ ?_
  · rintro i H hi ⟨e, xs, hx, dx, lx⟩
    refine ⟨wipe_one σ j _, ?_⟩
    refine yes_lc ?_
    refine ⟨_, List.getElem?_set_self (by rw [wipe_length]; exact hj), (by show 2 ≤ sizeLine; decide), fun p hp => ?_⟩
    have np : Dl ≠ p := ne_of_none hx hp
    refine ⟨xs, by rw [upd_ne np]; exact hx, by rw [lx, sizeLine_eq]; omega, ?_⟩
    have e2 : Same H1 (upd (upd H p (.tup [.str k, .int (0 + (i : Int))])) Dl (.lst (xs ++ [.ref p]))) := fun b o q => by
      rw [upd_ne (ne_of_none q hD), upd_ne (ne_of_none (e b o q) hp)]
      exact e b o q
    refine ⟨e2, xs ++ [.ref p], upd_same, ?_, by rw [List.length_append, lx]; rfl⟩
    have ek : kindD k (i + 1) = kindD k i ++ [itD k i] := by
      unfold kindD
      rw [List.range_succ, List.map_append]
      rfl
    rw [ek]
    have tp : Tp H (upd (upd H p (.tup [.str k, .int (0 + (i : Int))])) Dl (.lst (xs ++ [.ref p]))) := fun b us r => by
      rcases r with r | ⟨o, r⟩
      · exact .inl (by rw [upd_ne (ne_of r hx (by intro z; cases z)), upd_ne (ne_of_none r hp)]; exact r)
      · exact .inr ⟨o, by rw [upd_ne (ne_of r hx (by intro z; cases z)), upd_ne (ne_of_none r hp)]; exact r⟩
    refine DpAll.app (Dp.tps tp _ _ (noLs_map _ (fun _ => rfl) _) dx) (.cons (.tup (SqT.of (xs := [.str k, .int (0 + (i : Int))]) (by rw [upd_ne np.symm, upd_same])) (.cons (.str k) (.cons ?_ .nil))) .nil)
    rw [Int.zero_add]
    exact .int _
  · rintro H ⟨e, xs, hx, dx, lx⟩
    exact hd H xs e hx dx
def itemsD (d : Hs) : PyData := .list (kindD "box" d.bs.length ++ kindD "seal" d.ss.length ++ kindD "thing" d.ts.length)
def spItems (K : PySem.W.Frag) (C : Addr) : Sp := fun vs H Q _ => ∃ (h : Addr) (d : Hs), vs = [.ref h] ∧ HouseAt K C H h d ∧ d.bs.length ≤ 100 ∧ d.ts.length ≤ 100 ∧ d.ss.length ≤ 100 ∧ ∀ p H' xs, Same H H' → H p = none → H' p = some (.lst xs) → Dp K H' (.ref p) (itemsD d) → Q (.ref p) H'
theorem ty_tupQ {K : PySem.W.Frag} {H : Hp} {a : Addr} {xs : List V} (h : SqT K H a xs) : TyX K H (.ref a) (.type "tuple") := by
  rcases h with (h | ⟨o, h⟩) | ⟨o, _, _, h, hc, _⟩
  · exact .base (.tup h)
  · exact .fTuple h
  · exact .kTuple h hc
def spHas (K : PySem.W.Frag) (C : Addr) : Sp := fun vs H Q _ => ∃ (h a : Addr) (d : Hs) (k : Str) (i : Int), vs = [.ref h, .ref a] ∧ HouseAt K C H h d ∧ SqT K H a [.str k, .int i] ∧ Q (.bl (numOk i (manyOf d k))) H
theorem scHas : FnScope ["self", "item"] ["self", "item"] (defScope sHas) := ⟨rfl, rfl, rfl, by decide +kernel, rfl, by decide +kernel, by decide +kernel⟩
theorem ok_has {f gm gn C : Addr} {fd fdm fdn : FuncData} (F : Fun K "__contains__" "House.__contains__" sHas f fd) (B : Bt mg)
    (GM : FnOk P w K mg base CX0 1 gm fdm ["house", "word"] (spMany K C)) (mM : mg "how_many" = some (.ref gm)) (kM : PySem.W.keepIn K (.ref gm) = true) (bM : Binds K fdm ["house", "word"] [])
    (GN : FnOk P w K mg base CX0 1 gn fdn ["value", "limit"] spNum) (mN : mg "is_number" = some (.ref gn)) (kN : PySem.W.keepIn K (.ref gn) = true) (bN : Binds K fdn ["value", "limit"] []) :
    FnOk P w K mg base CX0 2 f fd ["self", "item"] (spHas K C) := by
  refine F.ok scHas (fun vs H Q E h => ?_) (fun cdv A outer s H vs Q E hr h => ?_)
  · obtain ⟨h, a, d, k, i, rfl, _⟩ := h
    rfl
  · obtain ⟨h, a, d, k, i, rfl, hh, ha, kq⟩ := h
    refine ⟨_, pss_one (ps_ret (pe_and (pe_callB call_isi (by rfl) B.isi (by decide +kernel) (pa_cons (pv 1) (pa_cons (pe_bltn (v := .ty "tuple") (by rfl) B.tup (by decide +kernel) rfl) pa_nil)))
      (pe_and (pe_cmpR op_eq (pe_callB call_len_seq (by rfl) B.len PySem.boot_len (pa_cons (pv 1) pa_nil)) pe_int (nomark _))
        (pe_one (pe_call GN hr rfl mN kN bN .nil pass0 (pa_cons (pe_ix ix_tup (pv 1) pe_int (fun _ _ => rfl)) (pa_cons (pe_call GM hr rfl mM kM bM .nil pass0 (pa_cons (pv 0) (pa_cons (pe_ix ix_tup (pv 1) pe_int (fun _ _ => rfl)) pa_nil))) pa_nil))))))), ?_⟩
    refine ⟨_, rfl, _, _, _, _, true, rfl, .ty "tuple", ty_tupQ ha, kit_ty (by decide +kernel), _, rfl, iteT ?_⟩
    refine ⟨_, rfl, _, _, rfl, .inr ha, rfl, true, rfl, iteT ?_⟩
    refine ⟨_, rfl, a, _, 1, _, rfl, rfl, ha, rfl, _, rfl, _, rfl, a, _, 0, _, rfl, rfl, ha, rfl, h, d, k, rfl, hh, i, _, rfl, ?_⟩
    exact kq
/-! ### house == other -/
theorem lay_st (d : Hs) : PyData.canLay0 (stD d) = true := by
  have h1 := SeqAt.canLay_of_shaped (shaped_pls d.bs)
  have h2 := SeqAt.canLay_of_shaped (shaped_pls d.ts)
  have h3 := SeqAt.canLay_of_shaped (shaped_pls d.ss)
  simp [stD, PyData.canLay0, PyData.canLayAll0, h1, h2, h3]
theorem depth_plsD (ps : List Pl) : PyData.depth (plsD ps) ≤ 2 := by
  have := depth_pls ps
  simp [plsD, PyData.depth]
  omega
theorem shaped_st (d : Hs) : SeqAt.shaped (stD d) = true := by
  have h1 := depth_plsD d.bs
  have h2 := depth_plsD d.ts
  have h3 := depth_plsD d.ss
  simp [SeqAt.shaped, lay_st]
  simp [stD, PyData.depth, PyData.depthAll]
  omega
def spEqH (K : PySem.W.Frag) (C : Addr) : Sp := fun vs H Q _ => ∃ (a b : Addr) (d e : Hs), vs = [.ref a, .ref b] ∧ HouseAt K C H a d ∧ HouseAt K C H b e ∧ Q (.bl (decide (d.hands = e.hands) && PyData.eqv (stD d) (stD e))) H
/-- what the class says of isinstance -/
structure HouseI (K : PySem.W.Frag) (C : Addr) : Prop where
  ha : PySem.W.findIn K (.ref C) "__class__" = some (some (.builtin "object.__class__"))
  hn : PySem.W.specialIn K (.builtin "object.__class__") "__get__" = some (some (.builtin "getset_descriptor.__get__"))
  htk : PySem.W.takesIn K (.builtin "object.__class__") = some true
  hm : PySem.W.mroIn K C (.type "object") = some true
  kit : PySem.W.kitOne K (.ref C) (.ref C) = some true
theorem scEqH : FnScope ["self", "other"] ["self", "other"] (defScope sEqH) := ⟨rfl, rfl, rfl, by decide +kernel, rfl, by decide +kernel, by decide +kernel⟩
theorem ok_eqh {f C : Addr} {fd : FuncData} (F : Fun K "__eq__" "House.__eq__" sEqH f fd) (B : Bt mg) (T : HouseC K C) (I : HouseI K C) (mC : mg "House" = some (.ref C)) : FnOk P w K mg base CX0 1 f fd ["self", "other"] (spEqH K C) := by
  refine F.ok scEqH (fun vs H Q E h => ?_) (fun cdv A outer s H vs Q E hr h => ?_)
  · obtain ⟨a, b, d, e, rfl, _⟩ := h
    rfl
  · obtain ⟨a, b, d, e, rfl, hd, he, k⟩ := h
    obtain ⟨dx, vb, vt, vs, vst, h0, h1, h2, h3, h4⟩ := hd.ex
    obtain ⟨dy, wb, wt, ws, wst, g0, g1, g2, g3, g4⟩ := he.ex
    have hu : (cxOf CX0 P w K mg base ["self", "other"] "House.__eq__" (defScope sEqH) f cdv A outer s H E).nox.A.units + 64 < cLine := hr.units
    refine ⟨_, pss_one (ps_ret (pe_and (pe_callB call_isi (by rfl) B.isi (by decide +kernel) (pa_cons (pv 1) (pa_cons (pe_glob (v := .ref C) rfl mC rfl) pa_nil)))
      (pe_and (pe_cmpR op_eq (pe_fld (pv 0) rfl) (pe_fld (pv 1) rfl) (nomark _)) (pe_one (pe_cmpR (op_eqD hu) (pe_fld (pv 0) rfl) (pe_fld (pv 1) rfl) (nomark _)))))), ?_⟩
    refine ⟨_, rfl, _, _, _, _, true, rfl, .own C, .base (.ins g0 T.cl I.ha I.hn I.htk I.hm), I.kit, _, rfl, iteT ?_⟩
    refine ⟨_, rfl, a, C, dx, _, _, rfl, h0, T.cl, T.nH, fs_hands _ _ _ _ _, _, rfl, b, C, dy, _, _, rfl, g0, T.cl, T.nH, fs_hands _ _ _ _ _, rfl, _, rfl, ?_⟩
    rw [decZ]
    cases c : decide (d.hands = e.hands) with
    | false =>
      rw [c] at k
      exact iteF k
    | true =>
      rw [c] at k
      refine iteT ?_
      exact ⟨_, rfl, a, C, dx, _, vst, rfl, h0, T.cl, T.nSt, fs_state _ _ _ _ _, _, rfl, b, C, dy, _, wst, rfl, g0, T.cl, T.nSt, fs_state _ _ _ _ _, stD d, stD e, h4, g4, shaped_st d, shaped_st e, k⟩
end
end Kw

set_option Elab.async false
set_option linter.all false
set_option maxRecDepth 100000
set_option maxHeartbeats 4000000
namespace Kw
open PySem PySem.Spec PyProof.Rows L2
abbrev sBegun : Stmt := top 52
abbrev sTake : Stmt := top 53
abbrev sAlike : Stmt := top 54
abbrev sPlaces : Stmt := top 55
abbrev sHouse : Stmt := top 56
abbrev sErr : Stmt := top 62
abbrev sLIsPl : Stmt := top 99999
abbrev sDue : Stmt := top 99999
abbrev sRows : Stmt := top 99999
abbrev sLaw : Stmt := top 65
/-! ### the law's box of draws -/
def BoxAt (H : Hp) (b l : Addr) : Prop := ∃ (ns : List Int) (m : Int), H b = some (.lst [.ref l, .int m]) ∧ H l = some (.lst (ns.map V.int)) ∧ ns.length ≤ 63
def Tbs (H H' : Hp) : Prop := ∀ a ps, H a = some (.tbl ps) → H' a = some (.tbl ps)
/-- a draw: the box is changed, nothing else -/
structure Kb (b l : Addr) (H H' : Hp) : Prop where
  kp : Kp b l H H'
  tb : Tbs H H'
theorem Kb.refl (b l : Addr) (H : Hp) : Kb b l H H := ⟨Kp.refl b l H, fun _ _ h => h⟩
theorem Kb.trans {b l : Addr} {H H1 H2 : Hp} (x : Kb b l H H1) (y : Kb b l H1 H2) : Kb b l H H2 := ⟨x.kp.trans y.kp, fun a ps h => y.tb a ps (x.tb a ps h)⟩
theorem Kb.same {b l : Addr} {H H' : Hp} (e : Same H H') : Kb b l H H' := ⟨Kp.same e, fun a ps h => e a _ h⟩
theorem Kb.nl {b l : Addr} {H H' : Hp} (x : Kb b l H H') : Nl H H' := x.kp.nl
theorem BoxAt.same {H H' : Hp} {b l : Addr} (e : Same H H') (x : BoxAt H b l) : BoxAt H' b l := by
  obtain ⟨ns, m, h1, h2, h3⟩ := x
  exact ⟨ns, m, e _ _ h1, e _ _ h2, h3⟩
theorem BoxAt.ne {H : Hp} {b l : Addr} (x : BoxAt H b l) : b ≠ l := by
  obtain ⟨ns, m, h1, h2, _⟩ := x
  refine ne_of h1 h2 fun z => ?_
  have z' : [V.ref l, V.int m] = ns.map V.int := HO.lst.inj z
  cases ns with
  | nil => cases z'
  | cons n r => cases z'
section
variable {P : Program} {w : World} {K : PySem.W.Frag} {mg : Str → Option Value} {base : Heap}
/-! ### _law_begun -/
def spBegun (K : PySem.W.Frag) : Sp := fun vs H Q _ => ∃ (a : Addr) (ns : List Int), vs = [.ref a] ∧ SqL K H a (ns.map V.int) ∧ ns.length ≤ 63 ∧ ∀ b l H', Same H H' → BoxAt H' b l → Q (.ref b) H'
theorem scBegun : FnScope ["_law_script", "_law_stirred", "_law_cell"] ["_law_script"] (defScope sBegun) := ⟨rfl, rfl, rfl, by decide +kernel, rfl, by decide +kernel, by decide +kernel⟩
theorem ok_begun {f : Addr} {fd : FuncData} (F : Fun K "_law_begun" "_law_begun" sBegun f fd) (B : Bt mg) : FnOk P w K mg base CX0 1 f fd ["_law_script"] (spBegun K) := by
  refine F.ok scBegun (fun vs H Q E h => ?_) (fun cdv A outer s H vs Q E hr h => ?_)
  · obtain ⟨a, ns, rfl, _⟩ := h
    rfl
  · obtain ⟨a, ns, rfl, hs, hl, k⟩ := h
    refine ⟨_, pss_cons (ps_set (i := 1) scBegun.nd rfl (.inl rfl) pe_int)
      (pss_cons (ps_for PassesOwn.never rfl (pi_list (pv 0)) (pg_name (i := 2) scBegun.nd rfl (.inl rfl))
        (pss_one (ps_set (i := 1) scBegun.nd rfl (.inl rfl) (pe_op op_mod (pe_callTy call_int1 (by rfl) B.int (by decide +kernel) (pa_cons (pe_op op_add (pe_op op_add (pe_op op_mul (pv 1) pe_int) (pe_op op_mul (pv 2) pe_int)) pe_int) pa_nil)) pe_int))))
      (pss_one (ps_ret (pe_lst (pa_cons (pe_callTy call_list_of (by rfl) B.lst (by decide +kernel) (pa_cons (pv 0) pa_nil))
        (pa_cons (pe_op op_mul (pv 1) (pe_callTy call_int1 (by rfl) B.int (by decide +kernel) (pa_cons (pe_cmpR op_gt (pe_callB call_len_seq (by rfl) B.len PySem.boot_len (pa_cons (pv 0) pa_nil)) pe_int (nomark _)) pa_nil))) pa_nil)))))), ?_⟩
    refine ⟨_, rfl, a, rfl, ⟨_, hs⟩, for_list (K := K) (a := a) (xs := ns.map V.int) (fun i σ H2 => H2 = H ∧ ∃ (z : Int) (v : Option V), σ = [some (.ref a), some (.int z), v])
      ⟨rfl, 0, none, rfl⟩ (fun i σ H2 _ ⟨e, _⟩ => by rw [e]; exact hs) ?_ ?_⟩
    · rintro i y σ H2 hi ⟨rfl, z, v, rfl⟩
      obtain ⟨c, rfl⟩ : ∃ c, y = V.int c := by
        rw [List.getElem?_map] at hi
        cases e : ns[i]? with
        | none => rw [e] at hi; cases hi
        | some c => rw [e] at hi; exact ⟨c, (Option.some.inj hi).symm⟩
      refine ⟨_, rfl, _, _, rfl, rfl, .inr (by decide), _, rfl, _, _, rfl, rfl, .inr (by decide), _, _, rfl, rfl, _, _, rfl, rfl, .inl ⟨_, rfl, _, _, rfl, rfl, (show (0 : Int) < 2147483647 by decide), ?_⟩⟩
      exact ⟨rfl, _, _, rfl⟩
    · rintro σ H2 ⟨rfl, z, v, rfl⟩
      refine ⟨_, rfl, a, _, rfl, .inl hs, fun l hl' => ?_⟩
      refine ⟨_, rfl, _, rfl, a, _, rfl, .inl (Same.seq (same_upd hl') hs), _, _, rfl, rfl, .inr ⟨_, rfl, _, _, rfl, rfl, .inr ?_, ?_⟩⟩
      · split <;> decide
      refine ⟨(by show 2 ≤ sizeLine; decide), fun b hb => ?_⟩
      have e1 := same_upd (o := HO.lst (ns.map V.int)) hl'
      have e2 := Same.upd2 (o := HO.lst [V.ref l, .int (z * if decide ((2 : Int) < ((ns.map V.int).length : Nat)) = true then 1 else 0)]) e1 hb
      refine k b l _ e2 ⟨ns, _, upd_same, ?_, hl⟩
      rw [upd_ne (fun q => by rw [← q, upd_same] at hb; cases hb), upd_same]

/-! ### _law_take -/
theorem ints_all (K : PySem.W.Frag) (H : Hp) : ∀ ns : List Int, DpAll K H (ns.map V.int) (ns.map PyData.int)
  | [] => .nil
  | n :: ns => .cons (.int n) (ints_all K H ns)
theorem ints_lay : ∀ ns : List Int, PyData.canLayAll0 (ns.map PyData.int) = true
  | [] => rfl
  | n :: ns => by simp [PyData.canLayAll0, PyData.canLay0, ints_lay ns]
theorem ints_depth : ∀ ns : List Int, PyData.depthAll (ns.map PyData.int) = 0
  | [] => rfl
  | n :: ns => by simp [PyData.depthAll, PyData.depth, ints_depth ns]
theorem ints_shaped (ns : List Int) : SeqAt.shaped (.list (ns.map PyData.int)) = true := by
  simp [SeqAt.shaped, PyData.canLay0, PyData.depth, ints_lay, ints_depth]
theorem ints_empty (ns : List Int) : PyData.eqv (.list (ns.map PyData.int)) (.list []) = decide (ns = []) := by
  cases ns with
  | nil => simp [PyData.eqv, PyData.eqvAll]
  | cons n ns => simp [PyData.eqv, PyData.eqvAll]
def spTake : Sp := fun vs H Q _ => ∃ (b l : Addr) (m : Int), vs = [.ref b, .int m] ∧ 0 < m ∧ m ≤ 1000 ∧ BoxAt H b l ∧ ∀ r H', 0 ≤ r → r < m → BoxAt H' b l → Kb b l H H' → Q (.int r) H'
theorem scTake : FnScope ["_law_box", "_law_many", "_law_figure"] ["_law_box", "_law_many"] (defScope sTake) := ⟨rfl, rfl, rfl, by decide +kernel, rfl, by decide +kernel, by decide +kernel⟩
theorem ok_take {f : Addr} {fd : FuncData} (F : Fun K "_law_take" "_law_take" sTake f fd) (B : Bt mg) : FnOk P w K mg base CX0 1 f fd ["_law_box", "_law_many"] spTake := by
  refine F.ok scTake (fun vs H Q E h => ?_) (fun cdv A outer s H vs Q E hr h => ?_)
  · obtain ⟨b, l, m, rfl, _⟩ := h
    rfl
  · obtain ⟨b, l, m, rfl, m0, m1, hB, k⟩ := h
    have hu : (cxOf CX0 P w K mg base ["_law_box", "_law_many", "_law_figure"] "_law_take" (defScope sTake) f cdv A outer s H E).nox.A.units + 64 < cLine := hr.units
    have nbl := hB.ne
    obtain ⟨ns, z, hb, hl, hn⟩ := hB
    refine ⟨_, pss_cons (ps_if (pt_cmpR (op_eqD hu) (pe_ix ix_list (pv 0) pe_int (fun _ _ => rfl)) (pe_lst pa_nil) (nomark _))
        (pss_cons (ps_asg (pe_op op_mod (pe_callTy call_int1 (by rfl) B.int (by decide +kernel) (pa_cons (pe_op op_mul (pe_ix ix_list (pv 0) pe_int (fun _ _ => rfl)) pe_int) pa_nil)) pe_int) (pg_sub (pv 0) pe_int set_list))
          (pss_one (ps_ret (pe_op op_mod (pe_callTy call_int1 (by rfl) B.int (by decide +kernel) (pa_cons (pe_op op_fdiv (pe_ix ix_list (pv 0) pe_int (fun _ _ => rfl)) pe_int) pa_nil)) (pv 1))))) pss_nil)
      (pss_cons (ps_set (i := 2) scTake.nd rfl (.inl rfl) (pe_ix ix_list (pe_ix ix_list (pv 0) pe_int (fun _ _ => rfl)) pe_int (fun _ _ => rfl)))
      (pss_cons (ps_asg (pe_op op_fdiv (pv 2) (pv 1)) (pg_sub (pe_ix ix_list (pv 0) pe_int (fun _ _ => rfl)) pe_int set_list))
      (pss_cons (ps_if (PW.pt (pw_or (pt_cmpR op_eq (pe_ix ix_list (pe_ix ix_list (pv 0) pe_int (fun _ _ => rfl)) pe_int (fun _ _ => rfl)) pe_int (nomark _))
            (pw_or1 (pt_cmpR op_eq (pe_ix ix_list (pe_ix ix_list (pv 0) pe_int (fun _ _ => rfl)) pe_int (fun _ _ => rfl)) (pe_un un_neg pe_int) (nomark _)))))
          (pss_one (ps_expr (pe_bm PySem.F.plainAttrs_list PySem.F.slot_list_pop PySem.F.type_list_pop mt_popAt (pe_ix ix_list (pv 0) pe_int (fun _ _ => rfl)) (pa_cons pe_int pa_nil)))) pss_nil)
      (pss_one (ps_ret (pe_op op_mod (pv 2) (pv 1))))))), ?_⟩
    refine ⟨_, rfl, b, _, 0, _, rfl, rfl, SqL.of hb, rfl, (by show 0 ≤ sizeLine; decide), fun p hp => ?_⟩
    have e0 : Same H (upd H p (.lst [])) := same_upd hp
    have hb0 := e0 _ _ hb
    have hl0 := e0 _ _ hl
    refine ⟨.list (ns.map PyData.int), .list [], .lst (SqL.of hl0) (ints_all K _ ns), .lst (SqL.of upd_same) .nil, ints_shaped ns, by decide, _, rfl, ?_⟩
    rw [ints_empty]
    refine ite2 (fun c => ?_) (fun c => ?_)
    · have c' : ns = [] := of_decide_eq_true c
      subst c'
      refine ⟨_, rfl, b, _, 1, _, rfl, rfl, SqL.of hb0, rfl, _, _, rfl, rfl, .inr (by decide), .inl ⟨_, rfl, _, _, rfl, rfl, (show (0 : Int) < 2147483647 by decide), ?_⟩⟩
      refine ⟨_, rfl, b, _, 1, 1, rfl, rfl, hb0, rfl, ?_⟩
      refine ⟨_, rfl, b, _, 1, _, rfl, rfl, SqL.of upd_same, rfl, _, _, rfl, rfl, ⟨by decide, by decide⟩, .inl ⟨_, rfl, _, rfl, _, _, rfl, rfl, m0, ?_⟩⟩
      refine k _ _ (Int.emod_nonneg _ (by omega)) (Int.emod_lt_of_pos _ m0) ⟨[], _, upd_same, by rw [upd_ne nbl.symm]; exact hl0, Nat.zero_le _⟩ ?_
      refine (Kb.same e0).trans ⟨⟨fun a o h n1 n2 => ?_, fun a xs h n1 n2 => ?_⟩, fun a ps h => ?_⟩
      · rw [upd_ne (ne_of h hb0 (n1 _))]; exact h
      · rw [upd_ne n1]; exact h
      · rw [upd_ne (ne_of h hb0 (by intro q; cases q))]; exact h
    · have c' : ¬ ns = [] := fun q => c (decide_eq_true q)
      obtain ⟨n0, r, rfl⟩ : ∃ n0 r, ns = n0 :: r := by
        cases ns with
        | nil => exact absurd rfl c'
        | cons n0 r => exact ⟨n0, r, rfl⟩
      rw [List.map_cons] at hl0 hl
      have len0 : (V.int n0 :: r.map V.int).length = r.length + 1 := by simp
      have hr1 : r.length ≤ 62 := by simp at hn; omega
      refine ⟨_, rfl, b, _, 0, _, rfl, rfl, SqL.of hb0, rfl, l, _, 0, _, rfl, rfl, SqL.of hl0, atI_nat (j := 0) rfl, ?_⟩
      refine ⟨_, rfl, _, rfl, n0, m, rfl, rfl, ⟨m0, by omega⟩, _, rfl, b, _, 0, _, rfl, rfl, SqL.of hb0, rfl, l, _, 0, 0, rfl, rfl, hl0, ?_, ?_⟩
      · rw [len0]
        simp [ixN]
      rw [List.set_cons_zero]
      have hb1 : (upd (upd H p (.lst [])) l (.lst (V.int (n0 / m) :: r.map V.int))) b = some (.lst [.ref l, .int z]) := by rw [upd_ne nbl]; exact hb0
      have fin : ∀ (ns' : List Int), ns'.length ≤ 63 → ∀ H', H' b = some (.lst [.ref l, .int z]) → H' l = some (.lst (ns'.map V.int)) → (∀ a o, (upd H p (.lst [])) a = some o → a ≠ l → H' a = some o) →
          Q (.int (n0 % m)) H' := fun ns' hn' H' g1 g2 g3 => by
        refine k _ _ (Int.emod_nonneg _ (by omega)) (Int.emod_lt_of_pos _ m0) ⟨ns', z, g1, g2, hn'⟩ ((Kb.same e0).trans ⟨⟨fun a o h n1 n2 => ?_, fun a xs h n1 n2 => ?_⟩, fun a ps h => ?_⟩)
        · exact g3 a o h (ne_of h hl0 (n1 _))
        · exact g3 a _ h n2
        · exact g3 a _ h (ne_of h hl0 (by intro q; cases q))
      have popped : tDrop (tBM K "list" rPopAt (tOp (rIxL K) (tVar 0) (tC (.int 0))) (tCons (tC (.int 0)) tNil)) { nx := tRet (tOp (rI (fun _ j => 0 < j) fun i j => .int (i % j)) (tVar 2) (tVar 1)) { nx := fun _ H' => Q .non H', rt := Q }, rt := Q }
          [some (.ref b), some (.int m), some (.int n0)] (upd (upd H p (.lst [])) l (.lst (V.int (n0 / m) :: r.map V.int))) := by
        refine ⟨_, rfl, b, _, 0, _, rfl, rfl, SqL.of hb1, rfl, .inl ⟨rfl, _, SqL.of upd_same⟩, l, _, 0, 0, _, rfl, rfl, upd_same, by decide, by decide, ?_, rfl, ?_⟩
        · simp [seqIndex?]
        · rw [upd_upd]
          refine ⟨_, rfl, _, rfl, n0, m, rfl, rfl, m0, ?_⟩
          exact fin r (by omega) _ (by rw [upd_ne nbl]; exact hb0) upd_same fun a o h ne => by rw [upd_ne ne]; exact h
      have kept : tRet (tOp (rI (fun _ j => 0 < j) fun i j => .int (i % j)) (tVar 2) (tVar 1)) { nx := fun _ H' => Q .non H', rt := Q }
          [some (.ref b), some (.int m), some (.int n0)] (upd (upd H p (.lst [])) l (.lst (V.int (n0 / m) :: r.map V.int))) := by
        refine ⟨_, rfl, _, rfl, n0, m, rfl, rfl, m0, ?_⟩
        exact fin ((n0 / m) :: r) (by simp; omega) _ hb1 (by rw [upd_same]; rfl) fun a o h ne => by rw [upd_ne ne]; exact h
      refine ⟨_, rfl, b, _, 0, _, rfl, rfl, SqL.of hb1, rfl, l, _, 0, _, rfl, rfl, SqL.of upd_same, atI_nat (j := 0) rfl, rfl, _, rfl, ?_⟩
      refine ite2 (fun _ => iteT popped) (fun _ => ?_)
      refine ⟨_, rfl, b, _, 0, _, rfl, rfl, SqL.of hb1, rfl, l, _, 0, _, rfl, rfl, SqL.of upd_same, atI_nat (j := 0) rfl, _, rfl, rfl, _, rfl, ?_⟩
      exact ite2 (fun _ => popped) (fun _ => kept)

/-! ### _law_alike, asked of equal data -/
mutual
def okA : PyData → Bool
  | .int _ => true
  | .str _ => true
  | .tuple ds => okAs ds && decide (ds.length ≤ 1000)
  | .list ds => okAs ds && decide (ds.length ≤ 1000)
  | _ => false
def okAs : List PyData → Bool
  | [] => true
  | d :: ds => okA d && okAs ds
end
theorem okAs_get : ∀ {ds : List PyData} {i : Nat} {d : PyData}, okAs ds = true → ds[i]? = some d → okA d = true
  | [], _, _, _, e => by simp at e
  | d :: ds, 0, _, h, e => by
    simp at e
    subst e
    simp [okAs] at h
    exact h.1
  | d :: ds, i + 1, _, h, e => by
    simp [okAs] at h
    exact okAs_get h.2 (by simpa using e)
theorem depth_get : ∀ {ds : List PyData} {i : Nat} {d : PyData}, ds[i]? = some d → d.depth ≤ PyData.depthAll ds
  | [], _, _, e => by simp at e
  | d :: ds, 0, _, e => by
    simp at e
    subst e
    simp [PyData.depthAll]
    omega
  | d :: ds, i + 1, _, e => by
    have := depth_get (ds := ds) (i := i) (by simpa using e)
    simp [PyData.depthAll]
    omega
theorem DpAll.at2 {K : PySem.W.Frag} {H : Hp} : ∀ {vs : List V} {ds : List PyData} {i : Nat} {d : PyData}, DpAll K H vs ds → ds[i]? = some d → ∃ x, vs[i]? = some x ∧ Dp K H x d
  | _, _, _, _, .nil, e => by simp at e
  | _, _, 0, _, .cons h _, e => by
    simp at e
    subst e
    exact ⟨_, rfl, h⟩
  | _, _, i + 1, d, .cons _ t, e => by
    obtain ⟨x, h1, h2⟩ := DpAll.at2 (i := i) (d := d) t (by simpa using e)
    exact ⟨x, by simpa using h1, h2⟩
theorem ty_tup {K : PySem.W.Frag} {H : Hp} {a : Addr} {xs : List V} (h : SqT K H a xs) : TyX K H (.ref a) (.type "tuple") := by
  rcases h with (h | ⟨o, h⟩) | ⟨o, _, _, h, hc, _⟩
  · exact .base (.tup h)
  · exact .fTuple h
  · exact .kTuple h hc
theorem ty_lst {K : PySem.W.Frag} {H : Hp} {a : Addr} {xs : List V} (h : SqL K H a xs) : TyX K H (.ref a) (.type "list") := by
  rcases h with (h | ⟨o, h⟩) | ⟨o, _, _, h, hc, _⟩
  · exact .base (.lst h)
  · exact .base (.frz h)
  · exact .kList h hc
def spAlike (K : PySem.W.Frag) (n : Nat) : Sp := fun vs H Q _ => ∃ (x y : V) (d : PyData), vs = [x, y] ∧ Dp K H x d ∧ Dp K H y d ∧ okA d = true ∧ d.depth < n ∧ Q (.bl true) H
theorem scAlike : FnScope ["_law_found", "_law_due", "_law_k"] ["_law_found", "_law_due"] (defScope sAlike) := ⟨rfl, rfl, rfl, by decide +kernel, rfl, by decide +kernel, by decide +kernel⟩
theorem ok_alike {f : Addr} {fd : FuncData} (F : Fun K "_law_alike" "_law_alike" sAlike f fd) (B : Bt mg) (mF : mg "_law_alike" = some (.ref f)) (bF : Binds K fd ["_law_found", "_law_due"] []) : ∀ n : Nat, FnOk P w K mg base CX0 n f fd ["_law_found", "_law_due"] (spAlike K n) := by
  intro n
  induction n with
  | zero => exact ⟨fun vs H Q E h => by obtain ⟨_, _, _, _, _, _, _, h, _⟩ := h; omega, fun A outer s H args us vs Q E _ _ _ _ h => by obtain ⟨_, _, _, _, _, _, _, h, _⟩ := h; omega⟩
  | succ n G =>
  refine F.ok scAlike (fun vs H Q E h => ?_) (fun cdv A outer s H vs Q E hr h => ?_)
  · obtain ⟨x, y, d, rfl, _⟩ := h
    rfl
  · obtain ⟨x, y, d, rfl, hx, hy, ok, hd, k⟩ := h
    refine ⟨_, pss_cons (ps_if (pt_cmp (pc_isN (pv 1))) (pss_one (ps_ret (pe_cmp (pc_isN (pv 0))))) pss_nil)
      (pss_cons (ps_if (pt_val (pe_callB call_isi (by rfl) B.isi (by decide +kernel) (pa_cons (pv 1) (pa_cons (pe_bltn (v := .ty "bool") (by rfl) B.bool (by decide +kernel) rfl) pa_nil)))) (pss_one (ps_ret (pe_and (pe_callB call_isi (by rfl) B.isi (by decide +kernel) (pa_cons (pv 0) (pa_cons (pe_bltn (v := .ty "bool") (by rfl) B.bool (by decide +kernel) rfl) pa_nil))) (pe_one (pe_cmpR op_eq (pv 0) (pv 1) (nomark _)))))) pss_nil)
      (pss_cons (ps_if (pt_val (pe_callB call_isi (by rfl) B.isi (by decide +kernel) (pa_cons (pv 1) (pa_cons (pe_bltn (v := .ty "int") (by rfl) B.int (by decide +kernel) rfl) pa_nil)))) (pss_one (ps_ret (pe_and (pe_callB call_isi (by rfl) B.isi (by decide +kernel) (pa_cons (pv 0) (pa_cons (pe_bltn (v := .ty "int") (by rfl) B.int (by decide +kernel) rfl) pa_nil))) (pe_and (pe_not (pe_callB call_isi (by rfl) B.isi (by decide +kernel) (pa_cons (pv 0) (pa_cons (pe_bltn (v := .ty "bool") (by rfl) B.bool (by decide +kernel) rfl) pa_nil)))) (pe_one (pe_cmpR op_eq (pv 0) (pv 1) (nomark _))))))) pss_nil)
      (pss_cons (ps_if (pt_val (pe_callB call_isi (by rfl) B.isi (by decide +kernel) (pa_cons (pv 1) (pa_cons (pe_bltn (v := .ty "str") (by rfl) B.str (by decide +kernel) rfl) pa_nil)))) (pss_one (ps_ret (pe_and (pe_callB call_isi (by rfl) B.isi (by decide +kernel) (pa_cons (pv 0) (pa_cons (pe_bltn (v := .ty "str") (by rfl) B.str (by decide +kernel) rfl) pa_nil))) (pe_one (pe_cmpR op_eq (pv 0) (pv 1) (nomark _)))))) pss_nil)
      (pss_cons (ps_if (PW.pt (pw_or (pt_cmpR op_ne (pe_callB call_isi (by rfl) B.isi (by decide +kernel) (pa_cons (pv 1) (pa_cons (pe_bltn (v := .ty "tuple") (by rfl) B.tup (by decide +kernel) rfl) pa_nil))) (pe_callB call_isi (by rfl) B.isi (by decide +kernel) (pa_cons (pv 0) (pa_cons (pe_bltn (v := .ty "tuple") (by rfl) B.tup (by decide +kernel) rfl) pa_nil))) (nomark _)) (pw_or1 (pt_cmpR op_ne (pe_callB call_isi (by rfl) B.isi (by decide +kernel) (pa_cons (pv 1) (pa_cons (pe_bltn (v := .ty "list") (by rfl) B.lst (by decide +kernel) rfl) pa_nil))) (pe_callB call_isi (by rfl) B.isi (by decide +kernel) (pa_cons (pv 0) (pa_cons (pe_bltn (v := .ty "list") (by rfl) B.lst (by decide +kernel) rfl) pa_nil))) (nomark _))))) (pss_one (ps_ret pe_bl)) pss_nil)
      (pss_cons (ps_if (pt_cmpR op_ne (pe_callB call_len_seq (by rfl) B.len PySem.boot_len (pa_cons (pv 0) pa_nil)) (pe_callB call_len_seq (by rfl) B.len PySem.boot_len (pa_cons (pv 1) pa_nil)) (nomark _)) (pss_one (ps_ret pe_bl)) pss_nil)
      (pss_cons (ps_for PassesOwn.never rfl (pi_range1 rfl B.rng (pa_cons (pe_callB call_len_seq (by rfl) B.len PySem.boot_len (pa_cons (pv 1) pa_nil)) pa_nil)) (pg_name (i := 2) scAlike.nd rfl (.inl rfl))
        (pss_one (ps_if (pt_not (pt_val (pe_call G hr rfl mF F.kp bF .nil pass0 (pa_cons (pe_ix ix_seq (pv 0) (pv 2) (fun _ _ => rfl)) (pa_cons (pe_ix ix_seq (pv 1) (pv 2) (fun _ _ => rfl)) pa_nil))))) (pss_one (ps_ret pe_bl)) pss_nil)))
      (pss_one (ps_ret pe_bl)))))))), ?_⟩
    cases hx with
    | non => simp [okA] at ok
    | bl c => simp [okA] at ok
    | int i =>
      cases hy
      refine ⟨_, rfl, _, rfl, iteF ?_⟩
      refine ⟨_, rfl, _, _, _, _, false, rfl, .ty "bool", .base (.int i), kit_ty (by decide +kernel), _, rfl, iteF ?_⟩
      refine ⟨_, rfl, _, _, _, _, true, rfl, .ty "int", .base (.int i), kit_ty (by decide +kernel), _, rfl, iteT ?_⟩
      refine ⟨_, rfl, _, _, _, _, true, rfl, .ty "int", .base (.int i), kit_ty (by decide +kernel), _, rfl, iteT ?_⟩
      refine ⟨_, rfl, _, _, _, _, false, rfl, .ty "bool", .base (.int i), kit_ty (by decide +kernel), _, rfl, _, rfl, iteT ?_⟩
      refine ⟨_, rfl, _, rfl, rfl, ?_⟩
      rw [decide_eq_true rfl]
      exact k
    | str z =>
      cases hy
      refine ⟨_, rfl, _, rfl, iteF ?_⟩
      refine ⟨_, rfl, _, _, _, _, false, rfl, .ty "bool", .base (.str z), kit_ty (by decide +kernel), _, rfl, iteF ?_⟩
      refine ⟨_, rfl, _, _, _, _, false, rfl, .ty "int", .base (.str z), kit_ty (by decide +kernel), _, rfl, iteF ?_⟩
      refine ⟨_, rfl, _, _, _, _, true, rfl, .ty "str", .base (.str z), kit_ty (by decide +kernel), _, rfl, iteT ?_⟩
      refine ⟨_, rfl, _, _, _, _, true, rfl, .ty "str", .base (.str z), kit_ty (by decide +kernel), _, rfl, iteT ?_⟩
      refine ⟨_, rfl, _, rfl, rfl, ?_⟩
      rw [decide_eq_true rfl]
      exact k
    | @lst a xs ds hs ha =>
      cases hy with
      | @lst b ys _ hs2 ha2 =>
      have ok' : okAs ds = true ∧ ds.length ≤ 1000 := by simpa [okA] using ok
      have hdd : PyData.depthAll ds < n := by
        simp [PyData.depth] at hd
        omega
      have l1 := DpAll.len ha
      have l2 := DpAll.len ha2
      have t1 := ty_lst hs
      have t2 := ty_lst hs2
      refine ⟨_, rfl, _, rfl, iteF ?_⟩
      refine ⟨_, rfl, _, _, _, _, false, rfl, .ty "bool", t2, kit_ty (by decide +kernel), _, rfl, iteF ?_⟩
      refine ⟨_, rfl, _, _, _, _, false, rfl, .ty "int", t2, kit_ty (by decide +kernel), _, rfl, iteF ?_⟩
      refine ⟨_, rfl, _, _, _, _, false, rfl, .ty "str", t2, kit_ty (by decide +kernel), _, rfl, iteF ?_⟩
      refine ⟨_, rfl, _, _, _, _, false, rfl, .ty "tuple", t2, kit_ty (by decide +kernel), _, rfl, _, _, _, _, false, rfl, .ty "tuple", t1, kit_ty (by decide +kernel), rfl, _, rfl, iteF ?_⟩
      refine ⟨_, rfl, _, _, _, _, true, rfl, .ty "list", t2, kit_ty (by decide +kernel), _, rfl, _, _, _, _, true, rfl, .ty "list", t1, kit_ty (by decide +kernel), rfl, _, rfl, iteF ?_⟩
      refine ⟨_, rfl, a, xs, rfl, .inl hs, _, rfl, b, ys, rfl, .inl hs2, rfl, _, rfl, ?_⟩
      rw [decI, l1, l2, decide_eq_true rfl]
      refine iteF ?_
      refine ⟨_, rfl, b, ys, rfl, .inl hs2, _, rfl, by omega, by omega, ?_⟩
      rw [show ((ys.length : Nat) : Int).toNat = ys.length by omega]
      refine for_range (lo := 0) (n := ys.length) (fun i σ H2 => H2 = H ∧ ∃ v : Option V, σ = [some (.ref a), some (.ref b), v]) ⟨rfl, none, rfl⟩ ?_ ?_
      · rintro i σ H2 hi ⟨rfl, v, rfl⟩
        obtain ⟨d', hd'⟩ : ∃ d', ds[i]? = some d' := ⟨ds[i]'(by omega), List.getElem?_eq_getElem (by omega)⟩
        obtain ⟨xv, hxv, dxv⟩ := DpAll.at2 ha hd'
        obtain ⟨yv, hyv, dyv⟩ := DpAll.at2 ha2 hd'
        have ax : atI xs (0 + (i : Int)) = some xv := by rw [Int.zero_add]; exact atI_nat hxv
        have ay : atI ys (0 + (i : Int)) = some yv := by rw [Int.zero_add]; exact atI_nat hyv
        have dep := depth_get hd'
        refine ⟨_, rfl, _, rfl, .inl ⟨a, xs, _, xv, rfl, rfl, hs, ax, _, rfl, _, rfl, .inl ⟨b, ys, _, yv, rfl, rfl, hs2, ay, xv, yv, d', rfl, dxv, dyv, okAs_get ok'.1 hd', by omega, true, rfl, iteF ?_⟩⟩⟩
        exact ⟨rfl, _, rfl⟩
      · rintro σ H2 ⟨rfl, v, rfl⟩
        exact k
    | @tup a xs ds hs ha =>
      cases hy with
      | @tup b ys _ hs2 ha2 =>
      have ok' : okAs ds = true ∧ ds.length ≤ 1000 := by simpa [okA] using ok
      have hdd : PyData.depthAll ds < n := by
        simp [PyData.depth] at hd
        omega
      have l1 := DpAll.len ha
      have l2 := DpAll.len ha2
      have t1 := ty_tup hs
      have t2 := ty_tup hs2
      refine ⟨_, rfl, _, rfl, iteF ?_⟩
      refine ⟨_, rfl, _, _, _, _, false, rfl, .ty "bool", t2, kit_ty (by decide +kernel), _, rfl, iteF ?_⟩
      refine ⟨_, rfl, _, _, _, _, false, rfl, .ty "int", t2, kit_ty (by decide +kernel), _, rfl, iteF ?_⟩
      refine ⟨_, rfl, _, _, _, _, false, rfl, .ty "str", t2, kit_ty (by decide +kernel), _, rfl, iteF ?_⟩
      refine ⟨_, rfl, _, _, _, _, true, rfl, .ty "tuple", t2, kit_ty (by decide +kernel), _, rfl, _, _, _, _, true, rfl, .ty "tuple", t1, kit_ty (by decide +kernel), rfl, _, rfl, iteF ?_⟩
      refine ⟨_, rfl, _, _, _, _, false, rfl, .ty "list", t2, kit_ty (by decide +kernel), _, rfl, _, _, _, _, false, rfl, .ty "list", t1, kit_ty (by decide +kernel), rfl, _, rfl, iteF ?_⟩
      refine ⟨_, rfl, a, xs, rfl, .inr hs, _, rfl, b, ys, rfl, .inr hs2, rfl, _, rfl, ?_⟩
      rw [decI, l1, l2, decide_eq_true rfl]
      refine iteF ?_
      refine ⟨_, rfl, b, ys, rfl, .inr hs2, _, rfl, by omega, by omega, ?_⟩
      rw [show ((ys.length : Nat) : Int).toNat = ys.length by omega]
      refine for_range (lo := 0) (n := ys.length) (fun i σ H2 => H2 = H ∧ ∃ v : Option V, σ = [some (.ref a), some (.ref b), v]) ⟨rfl, none, rfl⟩ ?_ ?_
      · rintro i σ H2 hi ⟨rfl, v, rfl⟩
        obtain ⟨d', hd'⟩ : ∃ d', ds[i]? = some d' := ⟨ds[i]'(by omega), List.getElem?_eq_getElem (by omega)⟩
        obtain ⟨xv, hxv, dxv⟩ := DpAll.at2 ha hd'
        obtain ⟨yv, hyv, dyv⟩ := DpAll.at2 ha2 hd'
        have ax : atI xs (0 + (i : Int)) = some xv := by rw [Int.zero_add]; exact atI_nat hxv
        have ay : atI ys (0 + (i : Int)) = some yv := by rw [Int.zero_add]; exact atI_nat hyv
        have dep := depth_get hd'
        refine ⟨_, rfl, _, rfl, .inr (.inl ⟨a, xs, _, xv, rfl, rfl, hs, ax, _, rfl, _, rfl, .inr (.inl ⟨b, ys, _, yv, rfl, rfl, hs2, ay, xv, yv, d', rfl, dxv, dyv, okAs_get ok'.1 hd', by omega, true, rfl, iteF ?_⟩)⟩)⟩
        exact ⟨rfl, _, rfl⟩
      · rintro σ H2 ⟨rfl, v, rfl⟩
        exact k
end
end Kw

set_option Elab.async false
set_option linter.all false
set_option maxRecDepth 100000
set_option maxHeartbeats 4000000
namespace Kw
open PySem PySem.Spec PyProof.Rows L2
section
variable {P : Program} {w : World} {K : PySem.W.Frag} {mg : Str → Option Value} {base : Heap}
theorem BoxAt.upd {H : Hp} {b l p : Addr} {o : HO} (hp : H p = none) (x : BoxAt H b l) : BoxAt (L2.upd H p o) b l := BoxAt.same (same_upd hp) x
theorem numOk_of {r m : Int} (h0 : 0 ≤ r) (h1 : r < m) : numOk r m = true := by
  unfold numOk
  rw [decide_eq_true h0, decide_eq_true h1]
  rfl
theorem numOk_is {r m : Int} (h : numOk r m = true) : 0 ≤ r ∧ r < m := by
  unfold numOk at h
  have h' := Bool.and_eq_true_iff.mp h
  exact ⟨of_decide_eq_true h'.1, of_decide_eq_true h'.2⟩
/-! ### _law_places -/
def spPlaces (K : PySem.W.Frag) : Sp := fun vs H Q _ => ∃ (b l : Addr) (h m : Int), vs = [.ref b, .int h, .int m] ∧ 0 < h ∧ h ≤ 1000 ∧ 0 ≤ m ∧ m ≤ 1000 ∧ BoxAt H b l ∧ ∀ v q H', Dp K H' v (plD q) → plOk q h m = true → BoxAt H' b l → Kb b l H H' → Q v H'
theorem scPlaces : FnScope ["_law_box", "_law_hands", "_law_many"] ["_law_box", "_law_hands", "_law_many"] (defScope sPlaces) := ⟨rfl, rfl, rfl, by decide +kernel, rfl, by decide +kernel, by decide +kernel⟩
theorem ok_places {f g : Addr} {fd fdg : FuncData} (F : Fun K "_law_places" "_law_places" sPlaces f fd) (G : FnOk P w K mg base CX0 1 g fdg ["_law_box", "_law_many"] spTake) (mG : mg "_law_take" = some (.ref g)) (kG : PySem.W.keepIn K (.ref g) = true) (bG : Binds K fdg ["_law_box", "_law_many"] []) :
    FnOk P w K mg base CX0 2 f fd ["_law_box", "_law_hands", "_law_many"] (spPlaces K) := by
  refine F.ok scPlaces (fun vs H Q E h => ?_) (fun cdv A outer s H vs Q E hr h => ?_)
  · obtain ⟨b, l, h, m, rfl, _⟩ := h
    rfl
  · obtain ⟨b, l, h, m, rfl, h0, h1, m0, m1, hB, k⟩ := h
    refine ⟨_, pss_cons (ps_if (PW.pt (pw_and (pt_cmpR op_gt (pv 2) pe_int (nomark _)) (pw_and1 (pt_cmpR op_eq (pe_call G hr rfl mG kG bG .nil pass0 (pa_cons (pv 0) (pa_cons pe_int pa_nil))) pe_int (nomark _)))))
        (pss_one (ps_ret (pe_tup (pa_cons pe_str (pa_cons (pe_call G hr rfl mG kG bG .nil pass0 (pa_cons (pv 0) (pa_cons (pv 2) pa_nil))) pa_nil))))) pss_nil)
      (pss_one (ps_ret (pe_tup (pa_cons pe_str (pa_cons (pe_call G hr rfl mG kG bG .nil pass0 (pa_cons (pv 0) (pa_cons (pv 1) pa_nil))) pa_nil))))), ?_⟩
    have fin : ∀ (H1 : Hp) (wd : Wd) (r : Int), BoxAt H1 b l → Kb b l H H1 → plOk (wd, r) h m = true → ∀ p, H1 p = none → Q (.ref p) (L2.upd H1 p (.tup [.str wd.str, .int r])) := fun H1 wd r hB1 hk ok p hp =>
      k _ (wd, r) _ (.tup (SqT.of upd_same) (.cons (.str _) (.cons (.int _) .nil))) ok (hB1.upd hp) (hk.trans (Kb.same (same_upd hp)))
    have hand : ∀ H1, BoxAt H1 b l → Kb b l H H1 → tRet (tTup (tCons (tC (.str "hand")) (tCons (tCall spTake [] E0 (tCons (tVar 0) (tCons (tVar 1) tNil))) tNil))) { nx := fun _ H' => Q .non H', rt := Q } (L2.start ["_law_box", "_law_hands", "_law_many"] [.ref b, .int h, .int m]) H1 := fun H1 hB1 hk => by
      refine ⟨_, rfl, _, rfl, b, l, h, rfl, h0, h1, hB1, fun r H2 r0 r1 hB2 hk2 => ⟨(by show 2 ≤ sizeLine; decide), fin H2 .hand r hB2 (hk.trans hk2) ?_⟩⟩
      exact numOk_of r0 r1
    refine ⟨_, rfl, _, _, rfl, rfl, _, rfl, ?_⟩
    refine ite2 (fun c => ?_) (fun c => iteF (hand H hB (Kb.refl b l H)))
    have c' : 0 < m := of_decide_eq_true c
    refine ⟨_, rfl, b, l, 2, rfl, by decide, by decide, hB, fun r H2 r0 r1 hB2 hk2 => ⟨rfl, _, rfl, ?_⟩⟩
    refine ite2 (fun _ => ?_) (fun _ => hand H2 hB2 hk2)
    refine ⟨_, rfl, _, rfl, b, l, m, rfl, c', m1, hB2, fun r2 H3 r20 r21 hB3 hk3 => ⟨(by show 2 ≤ sizeLine; decide), fin H3 .box r2 hB3 (hk2.trans hk3) ?_⟩⟩
    exact numOk_of r20 r21
/-! ### _law_house -/
theorem bad_none {f : Nat → Pl → Bool} : ∀ (l : List Pl) (k : Nat), (∀ i p, l[i]? = some p → f (k + i) p = false) → firstBad f k l = none
  | [], _, _ => rfl
  | p :: r, k, h => by
    have h0 := h 0 p rfl
    rw [Nat.add_zero] at h0
    show (if f k p = true then some k else firstBad f (k + 1) r) = none
    rw [h0, if_neg (by decide)]
    exact bad_none r (k + 1) fun i q e => by
      have := h (i + 1) q (by simpa using e)
      rw [show k + 1 + i = k + (i + 1) by omega]
      exact this
/-- what a drawn house is -/
structure HsOk (d : Hs) : Prop where
  h0 : 1 ≤ d.hands
  h1 : d.hands ≤ 4
  b0 : 1 ≤ d.bs.length
  b1 : d.bs.length ≤ 3
  t1 : d.ts.length ≤ 4
  s1 : d.ss.length ≤ 3
  okE : errOf d.hands d.bs d.ts d.ss = none
  nb : ∀ p ∈ d.bs, p.1 ≠ .gone
  nt : ∀ p ∈ d.ts, p.1 ≠ .gone
  ns : ∀ p ∈ d.ss, p.1 ≠ .gone
theorem Kb.updD {b l D : Addr} {H H' : Hp} {o : HO} (k : Kb b l H H') (hD : H D = .none) : Kb b l H (L2.upd H' D o) :=
  ⟨⟨fun a u h n1 n2 => by rw [upd_ne (ne_of_none h hD)]; exact k.kp.nl a u h n1 n2, fun a xs h n1 n2 => by rw [upd_ne (ne_of_none h hD)]; exact k.kp.ls a xs h n1 n2⟩, fun a ps h => by rw [upd_ne (ne_of_none h hD)]; exact k.tb a ps h⟩
theorem BoxAt.neL {H : Hp} {b l D : Addr} (x : BoxAt H b l) (hD : H D = .none) : D ≠ b ∧ D ≠ l := by
  obtain ⟨ns, m, h1, h2, _⟩ := x
  exact ⟨(ne_of_none h1 hD).symm, (ne_of_none h2 hD).symm⟩
theorem BoxAt.updD {H : Hp} {b l D : Addr} {o : HO} (x : BoxAt H b l) (n1 : D ≠ b) (n2 : D ≠ l) : BoxAt (L2.upd H D o) b l := by
  obtain ⟨ns, m, h1, h2, h3⟩ := x
  exact ⟨ns, m, by rw [upd_ne n1.symm]; exact h1, by rw [upd_ne n2.symm]; exact h2, h3⟩
theorem tp_lst {H : Hp} {D : Addr} {xs : List V} {o : HO} (h : H D = some (.lst xs)) : Tp H (L2.upd H D o) := fun a us r => by
  rcases r with r | ⟨u, r⟩
  · exact .inl (by rw [upd_ne (ne_of r h (by intro z; cases z))]; exact r)
  · exact .inr ⟨u, by rw [upd_ne (ne_of r h (by intro z; cases z))]; exact r⟩
theorem tp_nl {H H' : Hp} (k : Nl H H') : Tp H H' := fun a us r => by
  rcases r with r | ⟨u, r⟩
  · exact .inl (k _ _ r (fun _ z => nomatch z) fun _ z => nomatch z)
  · exact .inr ⟨u, k _ _ r (fun _ z => nomatch z) fun _ z => nomatch z⟩
/-- [_law_places(box, hands, x) for index in range(n)] -/
theorem lc_pl {σ : L2.St} {H2 : Hp} {D b l : Addr} {Qd : Hp → Prop} (x : Nat) (hands : Int) (g : Nat → Int) (n : Nat) (hn : n ≤ 100) (h0 : ∀ y, ((wipe σ [7]).set 7 y)[0]? = some (some (.ref b))) (h2 : ∀ y, ((wipe σ [7]).set 7 y)[2]? = some (some (.int hands)))
    (hx : ∀ i : Nat, ((wipe σ [7]).set 7 (some (.int (0 + (i : Int)))))[x]? = some (some (.int (g i)))) (hh0 : 0 < hands) (hh1 : hands ≤ 1000) (hg : ∀ i, i < n → 0 ≤ g i ∧ g i ≤ 1000) (hB : BoxAt H2 b l) (hD : H2 D = .none)
    (hd : ∀ (H : Hp) (xs : List V) (ps : List Pl), Kb b l H2 H → BoxAt H b l → H D = some (.lst xs) → DpAll K H xs (ps.map plD) → ps.length = n → (∀ j q, ps[j]? = some q → plOk q hands (g j) = true) → Qd H) :
    ∃ W : Nat → Nat → Hp → Prop, (∃ m, W 0 m (L2.upd H2 D (.lst []))) ∧ ∀ i m H, W i m H →
      ((Itr 0 n).stop i H ∧ Qd H) ∨ ((Itr 0 n).go i H ∧ ∃ Nx : Hp → Prop, (∀ H', Nx H' → ∃ m', m' < m ∧ W (i + 1) m' H') ∧ ∀ y H', (Itr 0 n).yld i H y H' → gName 7 y (wipe σ [7]) H' fun σ2 H2 => wipe σ2 [7] = wipe σ [7] ∧ tYes σ2 H2 fun b H3 =>
        if b = true then tCall (spPlaces K) [] E0 (tCons (tVar 0) (tCons (tVar 2) (tCons (tVar x) tNil))) σ2 H3 fun y H4 => ∃ acc, H4 D = some (.lst acc) ∧ acc.length < sizeLine ∧ Nx (L2.upd H4 D (.lst (acc ++ [y]))) else Nx H3) := by
  obtain ⟨nb, nl⟩ := hB.neL hD
  refine lc_range (lo := 0) (n := n) (fun i H => Kb b l H2 H ∧ BoxAt H b l ∧ ∃ xs ps, H D = some (.lst xs) ∧ DpAll K H xs (ps.map plD) ∧ ps.length = i ∧ ∀ j q, ps[j]? = some q → plOk q hands (g j) = true)
    ⟨(Kb.refl b l H2).updD hD, hB.updD nb nl, [], [], upd_same, .nil, rfl, fun j q e => by simp at e⟩ ?_ ?_
  · rintro i H hi ⟨hk, hB1, xs, ps, hxs, dx, lx, ok⟩
    refine ⟨wipe_one σ 7 _, yes_lc ?_⟩
    refine ⟨_, h0 _, _, h2 _, _, hx i, b, l, hands, g i, rfl, hh0, hh1, (hg i hi).1, (hg i hi).2, hB1, fun v q H' dv okq hB' hk' => ?_⟩
    have hx' := hk'.kp.ls D xs hxs nb nl
    have lxs : xs.length = ps.length := by rw [DpAll.len dx, List.length_map]
    refine ⟨xs, hx', by rw [sizeLine_eq]; omega, (hk.trans hk').updD hD, hB'.updD nb nl, xs ++ [v], ps ++ [q], upd_same, ?_, by rw [List.length_append, lx]; rfl, fun j p e => ?_⟩
    · rw [List.map_append]
      have tp := tp_lst (o := HO.lst (xs ++ [v])) hx'
      exact DpAll.app (Dp.tps tp _ _ (noLs_map _ noL_pl _) (Dp.tps (tp_nl hk'.nl) _ _ (noLs_map _ noL_pl _) dx)) (.cons (Dp.tp tp _ _ (noL_pl q) dv) .nil)
    · by_cases c : j < ps.length
      · rw [List.getElem?_append_left c] at e
        exact ok j p e
      · have ej : j = ps.length := by
          have := (List.getElem?_eq_some_iff.mp e).1
          simp at this
          omega
        subst ej
        rw [List.getElem?_append_right (Nat.le_refl _), Nat.sub_self] at e
        have ep : q = p := by simpa using e
        subst ep
        rw [lx]
        exact okq
  · rintro H ⟨hk, hB1, xs, ps, hxs, dx, lx, ok⟩
    exact hd H xs ps hk hB1 hxs dx lx ok
/-- the seals that are drawn one by one: a hand's, or on a box that has none -/
def OkS (m : Int) (qs : List Pl) : Prop := ∀ (i : Nat) q, qs[i]? = some q → q.1 = .hand ∨ (q.1 = .box ∧ numOk q.2 m = true ∧ q ∉ qs.take i)
theorem OkS.nil (m : Int) : OkS m [] := fun i q e => by simp at e
theorem OkS.add {m : Int} {qs : List Pl} {q : Pl} (h : OkS m qs) (hq : q.1 = .hand ∨ (q.1 = .box ∧ numOk q.2 m = true ∧ q ∉ qs)) : OkS m (qs ++ [q]) := fun j p e => by
  by_cases c : j < qs.length
  · rw [List.getElem?_append_left c] at e
    rw [List.take_append_of_le_length (by omega)]
    exact h j p e
  · have ej : j = qs.length := by
      have := (List.getElem?_eq_some_iff.mp e).1
      simp at this
      omega
    subst ej
    rw [List.getElem?_append_right (Nat.le_refl _), Nat.sub_self] at e
    have ep : q = p := by simpa using e
    subst ep
    rw [List.take_append_of_le_length (Nat.le_refl _), List.take_length]
    exact hq
def fixS (h : Int) (q : Pl) : Pl := if q.1 = .box then q else (.hand, q.2 % h)
theorem fix_ok {h m : Int} {qs : List Pl} (h0 : 0 < h) (ok : OkS m qs) (hl : qs.length ≤ 3) (ss : List Pl) (ess : ss = qs.map (fixS h)) : ∀ (i : Nat) p, ss[i]? = some p → badS h m ss (0 + i) p = false := fun i p e => by
  subst ess
  rw [List.getElem?_map] at e
  cases eq : qs[i]? with
  | none => rw [eq] at e; cases e
  | some q =>
    rw [eq] at e
    have e' : fixS h q = p := Option.some.inj e
    subst e'
    have hi := (List.getElem?_eq_some_iff.mp eq).1
    rw [Nat.zero_add]
    unfold badS
    have n3 : decide (i = 3) = false := decide_eq_false (by omega)
    rw [n3]
    rcases ok i q eq with hq | ⟨hq, hn, hni⟩
    · have ef : fixS h q = (.hand, q.2 % h) := by unfold fixS; rw [if_neg (by rw [hq]; decide)]
      rw [ef]
      have pk : plOk (.hand, q.2 % h) h m = true := numOk_of (Int.emod_nonneg _ (by omega)) (Int.emod_lt_of_pos _ h0)
      rw [pk]
      rfl
    · have ef : fixS h q = q := by unfold fixS; rw [if_pos hq]
      rw [ef]
      have pk : plOk q h m = true := by
        unfold plOk
        rw [if_neg (by rw [hq]; decide), hq, hn]
        rfl
      rw [pk]
      have na : ((qs.map (fixS h)).take i).any (fun z => decide (z = q)) = false := by
        rw [List.any_eq_false]
        intro z hz hzq
        have hz' : z = q := of_decide_eq_true hzq
        subst hz'
        rw [← List.map_take] at hz
        obtain ⟨z0, hz0, ez⟩ := List.mem_map.mp hz
        have : z0 = z := by
          unfold fixS at ez
          by_cases c : z0.1 = .box
          · rw [if_pos c] at ez; exact ez
          · rw [if_neg c] at ez
            rw [← ez] at hq
            cases hq
        subst this
        exact hni hz0
      rw [na]
      simp
theorem plOk_gone {p : Pl} {h m : Int} (k : plOk p h m = true) : p.1 ≠ .gone := fun z => by
  unfold plOk at k
  rw [z] at k
  cases k
theorem err_none {h : Int} {bs ts ss : List Pl} (h0 : 1 ≤ h) (h1 : h ≤ 4) (b0 : 1 ≤ bs.length) (b1 : bs.length ≤ 3) (okb : ∀ (i : Nat) p, bs[i]? = some p → plOk p h i = true) (t1 : ts.length ≤ 4) (okt : ∀ (i : Nat) p, ts[i]? = some p → plOk p h bs.length = true)
    (oks : ∀ (i : Nat) p, ss[i]? = some p → badS h bs.length ss (0 + i) p = false) : errOf h bs ts ss = none := by
  unfold errOf
  have hn : numOk h 5 = true := numOk_of (by omega) (by omega)
  have hz : decide (h = 0) = false := decide_eq_false (by omega)
  rw [hn, hz, if_neg (by decide)]
  have eb : badBoxes h bs = none := by
    unfold badBoxes
    rw [if_neg (by omega)]
    refine bad_none bs 0 fun i p e => ?_
    have hi := (List.getElem?_eq_some_iff.mp e).1
    unfold badB
    rw [Nat.zero_add, okb i p e, decide_eq_false (show ¬ i = 3 by omega)]
    rfl
  have et : firstBad (badT h bs.length) 0 ts = none := by
    refine bad_none ts 0 fun i p e => ?_
    have hi := (List.getElem?_eq_some_iff.mp e).1
    unfold badT
    rw [Nat.zero_add, okt i p e, decide_eq_false (show ¬ i = 4 by omega)]
    rfl
  rw [eb, et, bad_none ss 0 oks]
theorem mem_get {α : Type} {l : List α} {p : α} (h : p ∈ l) : ∃ i : Nat, l[i]? = some p := by
  obtain ⟨i, hi, e⟩ := List.getElem_of_mem h
  exact ⟨i, List.getElem?_eq_some_iff.mpr ⟨hi, e⟩⟩
def spLHouse (K : PySem.W.Frag) (C : Addr) : Sp := fun vs H Q _ => ∃ (b l t : Addr) (s0 s1 s2 s3 : Int), vs = [.ref b, .ref t] ∧ SqT K H t [.int s0, .int s1, .int s2, .int s3] ∧ (1 ≤ s0 ∧ s0 ≤ 4) ∧ (1 ≤ s1 ∧ s1 ≤ 3) ∧ (0 ≤ s2 ∧ s2 ≤ 4) ∧ (0 ≤ s3 ∧ s3 ≤ 3) ∧ BoxAt H b l ∧
  ∀ h d H', HouseAt K C H' h d → HouseF K C H' h d → HsOk d → BoxAt H' b l → Kb b l H H' → Q (.ref h) H'
theorem scHouse : FnScope ["_law_box", "_law_sizes", "_law_hands", "_law_many", "_law_boxes", "_law_things", "_law_seals", "_law_index", "_law_place"] ["_law_box", "_law_sizes"] (defScope sHouse) := ⟨rfl, rfl, rfl, by decide +kernel, rfl, by decide +kernel, by decide +kernel⟩
theorem ok_lhouse {f gT gP gH C CE : Addr} {fd fdT fdP fdH : FuncData} (F : Fun K "_law_house" "_law_house" sHouse f fd) (B : Bt mg)
    (GT : FnOk P w K mg base CX0 1 gT fdT ["_law_box", "_law_many"] spTake) (mT : mg "_law_take" = some (.ref gT)) (kT : PySem.W.keepIn K (.ref gT) = true) (bT : Binds K fdT ["_law_box", "_law_many"] [])
    (GP : FnOk P w K mg base CX0 2 gP fdP ["_law_box", "_law_hands", "_law_many"] (spPlaces K)) (mP : mg "_law_places" = some (.ref gP)) (kP : PySem.W.keepIn K (.ref gP) = true) (bP : Binds K fdP ["_law_box", "_law_hands", "_law_many"] [])
    (M : Mk K C gH) (GH : FnOk P w K mg base (L2.CX P w) 5 gH fdH ["self", "hands", "boxes", "things", "seals"] (spHouse K C CE)) (mH : mg "House" = some (.ref C)) (bH : Binds K fdH ["self", "hands", "boxes", "things", "seals"] []) :
    FnOk P w K mg base CX0 7 f fd ["_law_box", "_law_sizes"] (spLHouse K C) := by
  refine F.ok scHouse (fun vs H Q E h => ?_) (fun cdv A outer s H vs Q E hr h => ?_)
  · obtain ⟨b, l, t, s0, s1, s2, s3, rfl, _⟩ := h
    rfl
  · obtain ⟨b, l, t, s0, s1, s2, s3, rfl, ht, b0, b1, b2, b3, hB, k⟩ := h
    have hr1 : Room 1 _ := hr.mono (by decide)
    have hr2 : Room 2 _ := hr.mono (by decide)
    have hu65 : (cxOf CX0 P w K mg base ["_law_box", "_law_sizes", "_law_hands", "_law_many", "_law_boxes", "_law_things", "_law_seals", "_law_index", "_law_place"] "_law_house" (defScope sHouse) f cdv A outer s H E).nox.A.units + 65 < cLine := by have := hr.un; show (A.deeper _).units + 65 < cLine; omega
    refine ⟨_, pss_cons (ps_set (i := 2) scHouse.nd rfl (.inr rfl) (pe_op op_add pe_int (pe_call GT hr1 rfl mT kT bT .nil pass0 (pa_cons (pv 0) (pa_cons (pe_ix ix_tup (pv 1) pe_int (fun _ _ => rfl)) pa_nil)))))
      (pss_cons (ps_set (i := 3) scHouse.nd rfl (.inr rfl) (pe_op op_add pe_int (pe_call GT hr1 rfl mT kT bT .nil pass0 (pa_cons (pv 0) (pa_cons (pe_ix ix_tup (pv 1) pe_int (fun _ _ => rfl)) pa_nil)))))
      (pss_cons (ps_set (i := 4) scHouse.nd rfl (.inl rfl) (pe_callTy call_tuple_of (by rfl) B.tup (by decide +kernel) (pa_cons (pe_lc (own := [("_law_index", 7)]) (g := gName 7) (tt := tYes) (te := tCall (spPlaces K) [] E0 (tCons (tVar 0) (tCons (tVar 2) (tCons (tVar 7) tNil)))) rfl scHouse.nd (pi_range1 rfl B.rng (pa_cons (pv 3) pa_nil))
        (blkOk_by (own := [("_law_index", 7)]) (N := ["_law_box", "_law_sizes", "_law_hands", "_law_many", "_law_boxes", "_law_things", "_law_seals", "_law_index", "_law_place"]) (sc := defScope sHouse) (by decide +kernel)) (fun _ _ _ _ _ => pg_name (i := 7) scHouse.nd rfl (.inl rfl)) (fun _ _ _ _ _ => pts_nil) (fun _ _ _ _ _ => (pe_call GP hr2 rfl mP kP bP .nil pass0 (pa_cons (pv 0) (pa_cons (pv 2) (pa_cons (pv 7) pa_nil)))))) pa_nil)))
      (pss_cons (ps_set (i := 5) scHouse.nd rfl (.inl rfl) (pe_callTy call_tuple_of (by rfl) B.tup (by decide +kernel) (pa_cons (pe_lc (own := [("_law_index", 7)]) (g := gName 7) (tt := tYes) (te := tCall (spPlaces K) [] E0 (tCons (tVar 0) (tCons (tVar 2) (tCons (tVar 3) tNil)))) rfl scHouse.nd (pi_range1 rfl B.rng (pa_cons (pe_call GT hr1 rfl mT kT bT .nil pass0 (pa_cons (pv 0) (pa_cons (pe_op op_add (pe_ix ix_tup (pv 1) pe_int (fun _ _ => rfl)) pe_int) pa_nil))) pa_nil))
        (blkOk_by (own := [("_law_index", 7)]) (N := ["_law_box", "_law_sizes", "_law_hands", "_law_many", "_law_boxes", "_law_things", "_law_seals", "_law_index", "_law_place"]) (sc := defScope sHouse) (by decide +kernel)) (fun _ _ _ _ _ => pg_name (i := 7) scHouse.nd rfl (.inl rfl)) (fun _ _ _ _ _ => pts_nil) (fun _ _ _ _ _ => (pe_call GP hr2 rfl mP kP bP .nil pass0 (pa_cons (pv 0) (pa_cons (pv 2) (pa_cons (pv 3) pa_nil)))))) pa_nil)))
      (pss_cons (ps_set (i := 6) scHouse.nd rfl (.inl rfl) (pe_tup pa_nil))
      (pss_cons (ps_for PassesOwn.never rfl (pi_range1 rfl B.rng (pa_cons (pe_call GT hr1 rfl mT kT bT .nil pass0 (pa_cons (pv 0) (pa_cons (pe_op op_add (pe_ix ix_tup (pv 1) pe_int (fun _ _ => rfl)) pe_int) pa_nil))) pa_nil)) (pg_name (i := 7) scHouse.nd rfl (.inl rfl))
        (pss_cons (ps_set (i := 8) scHouse.nd rfl (.inl rfl) (pe_call GP hr2 rfl mP kP bP .nil pass0 (pa_cons (pv 0) (pa_cons (pv 2) (pa_cons (pv 3) pa_nil)))))
        (pss_one (ps_set (i := 6) scHouse.nd rfl (.inl rfl) (pe_op op_catA (pv 6) (pe_tup (pa_cons (pe_ifExp (PW.pt (pw_or (pt_cmpR op_eq (pe_ix ix_tup (pv 8) pe_int (fun _ _ => rfl)) pe_str (nomark _)) (pw_or1 (pt_cmpR (op_inDT hu65) (pv 8) (pv 6) (by rfl)))))
          (pe_tup (pa_cons pe_str (pa_cons (pe_ix ix_tup (pv 8) pe_int (fun _ _ => rfl)) pa_nil))) (pv 8)) pa_nil)))))))
      (pss_cons (ps_set (i := 6) scHouse.nd rfl (.inl rfl) (pe_callTy call_tupleF (by rfl) B.tup (by decide +kernel) (pa_cons (pe_lc (own := [("_law_place", 8)]) (g := gName 8) (tt := tYes)
          (te := tIf (tTest (tOp rEq (tOp (rIxT K) (tVar 8) (tC (.int 0))) (tC (.str "box")))) (tVar 8) (tTup (tCons (tC (.str "hand")) (tCons (tOp (rI (fun _ j => 0 < j) fun i j => .int (i % j)) (tCB (fun xs H Q => (∃ i, xs = [.int i] ∧ Q (.int i) H) ∨ ∃ k, xs = [.bl k] ∧ Q (.int (if k then 1 else 0)) H) (tCons (tOp (rIxT K) (tVar 8) (tC (.int 1))) tNil)) (tVar 2)) tNil))))
          rfl scHouse.nd (pi_tup (pv 6)) (blkOk_by (own := [("_law_place", 8)]) (N := ["_law_box", "_law_sizes", "_law_hands", "_law_many", "_law_boxes", "_law_things", "_law_seals", "_law_index", "_law_place"]) (sc := defScope sHouse) (by decide +kernel)) (fun _ _ _ _ _ => pg_name (i := 8) scHouse.nd rfl (.inl rfl)) (fun _ _ _ _ _ => pts_nil)
          (fun _ _ _ _ _ => pe_ifExp (pt_cmpR op_eq (pe_ix ix_tup (pv 8) pe_int (fun _ _ => rfl)) pe_str (nomark _)) (pv 8) (pe_tup (pa_cons pe_str (pa_cons (pe_op op_mod (pe_callTy call_int1 (by rfl) B.int (by decide +kernel) (pa_cons (pe_ix ix_tup (pv 8) pe_int (fun _ _ => rfl)) pa_nil)) (pv 2)) pa_nil))))) pa_nil)))
      (pss_one (ps_ret (pe_make M GH hr rfl mH bH .nil passL (pa_cons (pv 2) (pa_cons (pv 4) (pa_cons (pv 5) (pa_cons (pv 6) pa_nil))))))))))))), ?_⟩
    -- the numbers
    refine ⟨_, rfl, _, rfl, t, _, 0, _, rfl, rfl, ht, rfl, b, l, s0, rfl, by omega, by omega, hB, fun n H1 n0 n1 hB1 k1 => ⟨_, _, rfl, rfl, ?_⟩⟩
    refine ⟨_, rfl, _, rfl, t, _, 1, _, rfl, rfl, SqT.nl k1.nl ht, rfl, b, l, s1, rfl, by omega, by omega, hB1, fun m H2 m0 m1 hB2 k2 => ⟨_, _, rfl, rfl, ?_⟩⟩
    have nn : ∀ z : Int, 0 ≤ z → ((z.toNat : Nat) : Int) = z := fun z hz => by omega
    -- boxes
    refine ⟨_, rfl, _, rfl, by omega, by omega, fun D1 hD1 => ?_⟩
    refine lc_pl (K := K) 7 (1 + n) (fun i => 0 + (i : Int)) (1 + m).toNat (by omega) (fun _ => rfl) (fun _ => rfl) (fun i => rfl) (by omega) (by omega) (fun i hi => ⟨by omega, by omega⟩) hB2 hD1 fun H3 xb bs k3 hB3 hx3 db lb okb => ?_
    refine ⟨D1, xb, rfl, .inl ⟨SqL.of hx3, fun ab hab => ?_⟩⟩
    have hB3' := hB3.upd (o := HO.tup xb) hab
    have k3' : Kb b l H (L2.upd H3 ab (.tup xb)) := (((k1.trans k2).trans k3)).trans (Kb.same (same_upd hab))
    have dpb : Dp K (L2.upd H3 ab (.tup xb)) (.ref ab) (plsD bs) := .tup (SqT.of upd_same) (Dp.sames (same_upd hab) _ _ db)
    -- things
    refine ⟨_, rfl, _, rfl, t, _, 2, _, rfl, rfl, SqT.nl k3'.nl ht, rfl, _, _, rfl, rfl, b, l, s2 + 1, rfl, by omega, by omega, hB3', fun m2 H4 m20 m21 hB4 k4 => ⟨m2, rfl, by omega, by omega, fun D2 hD2 => ?_⟩⟩
    refine lc_pl (K := K) 3 (1 + n) (fun _ => 1 + m) m2.toNat (by omega) (fun _ => rfl) (fun _ => rfl) (fun i => rfl) (by omega) (by omega) (fun i hi => ⟨by omega, by omega⟩) hB4 hD2 fun H5 xt ts k5 hB5 hx5 dt lt okt => ?_
    refine ⟨D2, xt, rfl, .inl ⟨SqL.of hx5, fun at' hat => ?_⟩⟩
    have hB5' := hB5.upd (o := HO.tup xt) hat
    have k45 : Kb b l (L2.upd H3 ab (.tup xb)) (L2.upd H5 at' (.tup xt)) := (k4.trans k5).trans (Kb.same (same_upd hat))
    have k5' : Kb b l H (L2.upd H5 at' (.tup xt)) := k3'.trans k45
    have dpt : Dp K (L2.upd H5 at' (.tup xt)) (.ref at') (plsD ts) := .tup (SqT.of upd_same) (Dp.sames (same_upd hat) _ _ dt)
    have dpb5 := Dp.nl k45.nl _ _ (noL_pls bs) dpb
    -- seals, one by one
    refine ⟨(by show 0 ≤ sizeLine; decide), fun a0 ha0 => ?_⟩
    have hB6 := hB5'.upd (o := HO.tup []) ha0
    have k6 : Kb b l (L2.upd H5 at' (.tup xt)) (L2.upd (L2.upd H5 at' (.tup xt)) a0 (.tup [])) := Kb.same (same_upd ha0)
    refine ⟨_, rfl, _, rfl, t, _, 3, _, rfl, rfl, SqT.nl (k5'.trans k6).nl ht, rfl, _, _, rfl, rfl, b, l, s3 + 1, rfl, by omega, by omega, hB6, fun m3 H7 m30 m31 hB7 k7 => ⟨m3, rfl, by omega, by omega, ?_⟩⟩
    refine for_range (lo := 0) (n := m3.toNat) (fun i σ Hn => ∃ (vi vp : Option V) (a : Addr) (xs : List V) (qs : List Pl), σ = [some (.ref b), some (.ref t), some (.int (1 + n)), some (.int (1 + m)), some (.ref ab), some (.ref at'), some (.ref a), vi, vp] ∧ Kb b l (L2.upd H5 at' (.tup xt)) Hn ∧ BoxAt Hn b l ∧ SqT K Hn a xs ∧ DpAll K Hn xs (qs.map plD) ∧ qs.length = i ∧ OkS (1 + m) qs)
      ⟨none, none, a0, [], [], rfl, k6.trans k7, hB7, SqT.nl k7.nl (SqT.of upd_same), .nil, rfl, OkS.nil _⟩ ?_ ?_
    · rintro i σ Hn hi ⟨vi, vp, a, xs, qs, rfl, kn, hBn, qa, da, la, oks⟩
      refine ⟨_, rfl, _, rfl, _, rfl, b, l, 1 + n, 1 + m, rfl, by omega, by omega, by omega, by omega, hBn, fun v q Hm dv okq hBm km => ?_⟩
      obtain ⟨av, rfl, qv⟩ := pl_at dv
      have cat : ∀ (y0 : V) (q' : Pl) (H2 : Hp), Same Hm H2 → Dp K H2 y0 (plD q') → (q'.1 = .hand ∨ (q'.1 = .box ∧ numOk q'.2 (1 + m) = true ∧ q' ∉ qs)) → ∀ p : Addr, H2 p = none → ∀ R : V → Hp → Prop,
          (∀ (c : Addr) (xs' : List V) (H3 : Hp), Kb b l (L2.upd H5 at' (.tup xt)) H3 → BoxAt H3 b l → SqT K H3 c xs' → DpAll K H3 xs' ((qs ++ [q']).map plD) → (qs ++ [q']).length = i + 1 → OkS (1 + m) (qs ++ [q']) → R (.ref c) H3) →
          rCatA K (.ref a) (.ref p) (L2.upd H2 p (.tup [y0])) R := fun y0 q' H2 e2 d2 hq p hp R kR => by
        have e3 : Same Hm (L2.upd H2 p (.tup [y0])) := Same.upd2 e2 hp
        have lxs : xs.length = qs.length := by rw [DpAll.len da, List.length_map]
        have dxs : ∀ H3, Same Hm H3 → DpAll K H3 xs (qs.map plD) := fun H3 e => Dp.sames e _ _ (Dp.nls km.nl _ _ (noLs_map _ noL_pl _) da)
        have dy : Dp K (L2.upd H2 p (.tup [y0])) y0 (plD q') := Dp.same (same_upd hp) _ _ d2
        have lq : (qs ++ [q']).length = i + 1 := by rw [List.length_append, la]; rfl
        refine ⟨a, p, xs, [y0], rfl, rfl, SqT.same e3 (SqT.nl km.nl qa), SqT.of upd_same, (by rw [sizeLine_eq]; show xs.length + 1 ≤ _; omega), fun ex => ?_, (fun _ z => by cases z), fun _ _ c hc => ?_⟩
        · subst ex
          have eq0 : qs = [] := List.eq_nil_of_length_eq_zero (by rw [← lxs]; rfl)
          subst eq0
          exact kR p [y0] _ ((kn.trans km).trans (Kb.same e3)) (hBm.same e3) (SqT.of upd_same) (.cons dy .nil) lq (oks.add hq)
        · have e4 : Same Hm (L2.upd (L2.upd H2 p (.tup [y0])) c (.tup (xs ++ [y0]))) := Same.upd2 e3 hc
          refine kR c (xs ++ [y0]) _ ((kn.trans km).trans (Kb.same e4)) (hBm.same e4) (SqT.of upd_same) ?_ lq (oks.add hq)
          rw [List.map_append]
          exact DpAll.app (dxs _ e4) (.cons (Dp.same (same_upd hc) _ _ dy) .nil)
      have fin : ∀ (y0 : V) (q' : Pl) (H2 : Hp), Same Hm H2 → Dp K H2 y0 (plD q') → (q'.1 = .hand ∨ (q'.1 = .box ∧ numOk q'.2 (1 + m) = true ∧ q' ∉ qs)) → ∀ p : Addr, H2 p = none → rCatA K (.ref a) (.ref p) (L2.upd H2 p (.tup [y0])) fun x H1 => gName 6 x (([some (V.ref b), some (V.ref t), some (V.int (1 + n)), some (V.int (1 + m)), some (V.ref ab), some (V.ref at'), some (V.ref a), vi, vp].set 7 (some (V.int (0 + (i : Int))))).set 8 (some (V.ref av))) H1 fun σ Hn => ∃ (vi vp : Option V) (a : Addr) (xs : List V) (qs : List Pl), σ = [some (.ref b), some (.ref t), some (.int (1 + n)), some (.int (1 + m)), some (.ref ab), some (.ref at'), some (.ref a), vi, vp] ∧ Kb b l (L2.upd H5 at' (.tup xt)) Hn ∧ BoxAt Hn b l ∧ SqT K Hn a xs ∧ DpAll K Hn xs (qs.map plD) ∧ qs.length = i + 1 ∧ OkS (1 + m) qs :=
        fun y0 q' H2 e2 d2 hq p hp => cat y0 q' H2 e2 d2 hq p hp _ fun c xs' H3 k1 k2 k3 k4 k5 k6 => ⟨_, _, c, xs', _, rfl, k1, k2, k3, k4, k5, k6⟩
      refine ⟨_, rfl, _, rfl, av, _, 0, _, rfl, rfl, qv, rfl, rfl, _, rfl, ?_⟩
      rw [decS]
      have isn : ∀ p : Addr, Hm p = none → SqT K (L2.upd Hm p (.tup [.str ("hand" : Str), .int q.2])) p [.str ("hand" : Str), .int q.2] := fun p hp => SqT.of upd_same
      have dh : ∀ p : Addr, Hm p = none → Dp K (L2.upd Hm p (.tup [.str ("hand" : Str), .int q.2])) (.ref p) (plD (.hand, q.2)) := fun p hp => .tup (isn p hp) (.cons (.str _) (.cons (.int _) .nil))
      by_cases c1 : q.1 = .hand
      · rw [show decide (q.1.str = ("hand" : Str)) = true from decide_eq_true (by rw [c1]; rfl)]
        refine iteT (iteT ?_)
        refine ⟨_, rfl, av, _, 1, _, rfl, rfl, qv, rfl, (by show 2 ≤ sizeLine; decide), fun p hp => ⟨(by show 1 ≤ sizeLine; decide), fun p2 hp2 => ?_⟩⟩
        exact fin _ (.hand, q.2) _ (same_upd hp) (dh p hp) (.inl rfl) p2 hp2
      · rw [show decide (q.1.str = ("hand" : Str)) = false from decide_eq_false fun z => c1 (wd_inj (v := .hand) z)]
        have okb2 : q.1 = .box ∧ numOk q.2 (1 + m) = true := by
          unfold plOk at okq
          rw [if_neg c1, Bool.and_eq_true] at okq
          exact ⟨of_decide_eq_true okq.1, okq.2⟩
        refine iteF ⟨_, rfl, _, rfl, plD q, qs.map plD, dv, .tup (SqT.nl km.nl qa) (Dp.nls km.nl _ _ (noLs_map _ noL_pl _) da), shaped_pl q, shaped_pls qs, _, rfl, ?_⟩
        rw [any_pl, if_neg (show ¬ (false = true) by decide)]
        cases ca : qs.any fun z => decide (z = q) with
        | true =>
          refine iteT ⟨_, rfl, av, _, 1, _, rfl, rfl, qv, rfl, (by show 2 ≤ sizeLine; decide), fun p hp => ⟨(by show 1 ≤ sizeLine; decide), fun p2 hp2 => ?_⟩⟩
          exact fin _ (.hand, q.2) _ (same_upd hp) (dh p hp) (.inl rfl) p2 hp2
        | false =>
          refine iteF ⟨_, rfl, (by show 1 ≤ sizeLine; decide), fun p2 hp2 => ?_⟩
          refine fin _ q _ (fun _ _ e => e) dv (.inr ⟨okb2.1, okb2.2, fun z => ?_⟩) p2 hp2
          have := List.any_eq_false.mp ca q z
          exact this (decide_eq_true rfl)
    · rintro σ Hn ⟨vi, vp, a, xs, qs, rfl, kn, hBn, qa, da, la, oks⟩
      refine ⟨_, rfl, a, rfl, ⟨xs, qa⟩, fun D hD => ?_⟩
      have lxs : xs.length = qs.length := by rw [DpAll.len da, List.length_map]
      have e0 : ∀ (H : Hp) (o : HO), Same Hn H → Same Hn (L2.upd H D o) := fun H o e a o' h => by rw [upd_ne (ne_of_none h hD)]; exact e a o' h
      refine lc_tup (K := K) (a := a) (xs := xs) (fun i H => Same Hn H ∧ ∃ ys, H D = some (.lst ys) ∧ ys.length = i ∧ DpAll K H ys ((qs.take i).map fun q => plD (fixS (1 + n) q)))
        ⟨same_upd hD, [], upd_same, rfl, .nil⟩ (fun i H _ ⟨e, _⟩ => SqT.same e qa) ?_ ?_
      · rintro i y H' hi ⟨e, ys, hys, lys, dys⟩
        have hi1 := (List.getElem?_eq_some_iff.mp hi).1
        obtain ⟨d, hd1, hd2⟩ := DpAll.get da hi
        obtain ⟨q, hq⟩ : ∃ q, qs[i]? = some q := ⟨_, List.getElem?_eq_getElem (by omega)⟩
        have ed : plD q = d := by
          rw [List.getElem?_map, hq] at hd1
          exact Option.some.inj hd1
        subst ed
        have dy := Dp.same e _ _ hd2
        have fin : ∀ (y0 : V) (H4 : Hp), Same Hn H4 → H4 D = some (.lst ys) → DpAll K H4 ys ((qs.take i).map fun q => plD (fixS (1 + n) q)) → Dp K H4 y0 (plD (fixS (1 + n) q)) → ∃ acc, H4 D = some (.lst acc) ∧ acc.length < sizeLine ∧ Same Hn (L2.upd H4 D (.lst (acc ++ [y0]))) ∧ ∃ zs, (L2.upd H4 D (.lst (acc ++ [y0]))) D = some (.lst zs) ∧ zs.length = i + 1 ∧ DpAll K (L2.upd H4 D (.lst (acc ++ [y0]))) zs ((qs.take (i + 1)).map fun q => plD (fixS (1 + n) q)) := fun y0 H4 e4 h4 d4 dy4 => by
          refine ⟨ys, h4, by rw [sizeLine_eq]; omega, e0 _ _ e4, ys ++ [y0], upd_same, by rw [List.length_append, lys]; rfl, ?_⟩
          have tp := tp_lst (o := HO.lst (ys ++ [y0])) h4
          have et : (qs.take (i + 1)).map (fun q => plD (fixS (1 + n) q)) = (qs.take i).map (fun q => plD (fixS (1 + n) q)) ++ [plD (fixS (1 + n) q)] := by
            rw [List.take_add_one, hq]
            simp
          rw [et]
          exact DpAll.app (Dp.tps tp _ _ (noLs_map (fun q => plD (fixS (1 + n) q)) (fun q => noL_pl _) _) d4) (.cons (Dp.tp tp _ _ (noL_pl _) dy4) .nil)
        obtain ⟨av, rfl, qv⟩ := pl_at dy
        refine ⟨wipe_one _ 8 _, yes_lc ?_⟩
        refine ⟨_, rfl, av, _, 0, _, rfl, rfl, qv, rfl, rfl, _, rfl, ?_⟩
        rw [decS]
        by_cases c1 : q.1 = .box
        · rw [show decide (q.1.str = ("box" : Str)) = true from decide_eq_true (by rw [c1]; rfl)]
          refine iteT ⟨_, rfl, fin _ _ e hys dys ?_⟩
          unfold fixS
          rw [if_pos c1]
          exact dy
        · rw [show decide (q.1.str = ("box" : Str)) = false from decide_eq_false fun z => c1 (wd_inj (v := .box) z)]
          refine iteF ⟨_, rfl, av, _, 1, _, rfl, rfl, qv, rfl, .inl ⟨_, rfl, _, rfl, _, _, rfl, rfl, (by omega), (by show 2 ≤ sizeLine; decide), fun p hp => ?_⟩⟩
          refine fin _ _ (Same.upd2 e hp) (by rw [upd_ne (ne_of_none hys hp)]; exact hys) (Dp.sames (same_upd hp) _ _ dys) ?_
          unfold fixS
          rw [if_neg c1]
          exact .tup (SqT.of upd_same) (.cons (.str _) (.cons (.int _) .nil))
      · rintro H' ⟨e, ys, hys, lys, dys⟩
        refine ⟨D, ys, rfl, SqL.of hys, fun as o has oc od => ?_⟩
        rw [lxs, List.take_length] at dys
        have e5 : Same Hn (L2.upd H' as (.frz o (.tup ys))) := Same.upd2 e has
        have dps : Dp K (L2.upd H' as (.frz o (.tup ys))) (.ref as) (plsD (qs.map (fixS (1 + n)))) := .tup (Fz.sq ⟨o, upd_same, oc, od⟩) (by rw [List.map_map]; exact Dp.sames (same_upd has) _ _ dys)
        have k6' := (kn.trans (Kb.same e5))
        have dpb6 := Dp.nl k6'.nl _ _ (noL_pls bs) dpb5
        have dpt6 := Dp.nl k6'.nl _ _ (noL_pls ts) dpt
        have hB6' := hBn.same e5
        have kAll := k5'.trans k6'
        have lb1 : bs.length = (1 + m).toNat := lb
        have err : errOf (1 + n) bs ts (qs.map (fixS (1 + n))) = none := by
          refine err_none (by omega) (by omega) (by omega) (by omega) (fun i p e => ?_) (by omega) (fun i p e => ?_) ?_
          · have := okb i p e
            rwa [Int.zero_add] at this
          · have := okt i p e
            rwa [show ((bs.length : Nat) : Int) = 1 + m by omega]
          · rw [show ((bs.length : Nat) : Int) = 1 + m by omega]
            exact fix_ok (by omega) oks (by omega) _ rfl
        have fzs : Fv (L2.upd H' as (.frz o (.tup ys))) (.ref as) := ⟨as, ys, rfl, o, upd_same, oc, od⟩
        generalize hHe : L2.upd H' as (.frz o (.tup ys)) = He at *
        refine ⟨_, rfl, _, rfl, _, rfl, _, rfl, fun x dx hx hdx ne => ?_⟩
        have hdx' : (L2.upd He dx (.own x)) x = none := by rw [upd_ne ne.symm]; exact hx
        have e7 : Same He (L2.upd (L2.upd He dx (.own x)) x (.ins C dx [])) := Same.upd2 (same_upd hdx) hdx'
        refine ⟨x, dx, 1 + n, _, _, _, bs, ts, qs.map (fixS (1 + n)), rfl, upd_same, Dp.same e7 _ _ dpb6, Dp.same e7 _ _ dpt6, Dp.same e7 _ _ dps, by omega, by omega, by rw [List.length_map]; omega, fun z i e => ?_, fun _ H8 hb8 hh8 hf8 => ⟨rfl, ?_⟩⟩
        · rw [err] at e
          cases e
        · have e8 : Same He H8 := fun a o h => hb8 a o (e7 a o h) (ne_of_none h hx)
          refine k x _ H8 hh8 (hf8 (fzs.nl fun a o h _ _ => e7 a o h)) ⟨by show 1 ≤ 1 + n; omega, by show 1 + n ≤ 4; omega, by show 1 ≤ bs.length; omega, by show bs.length ≤ 3; omega, by show ts.length ≤ 4; omega, by show (qs.map _).length ≤ 3; rw [List.length_map]; omega, err, fun p hp => ?_, fun p hp => ?_, fun p hp => ?_⟩ (hB6'.same e8) (kAll.trans (Kb.same e8))
          · obtain ⟨i, hi⟩ := mem_get hp
            exact plOk_gone (okb i p hi)
          · obtain ⟨i, hi⟩ := mem_get hp
            exact plOk_gone (okt i p hi)
          · obtain ⟨q, hq, rfl⟩ := List.mem_map.mp hp
            obtain ⟨i, hi⟩ := mem_get hq
            unfold fixS
            rcases oks i q hi with z | ⟨z, _⟩
            · rw [if_neg (by rw [z]; decide)]
              intro z'
              cases z'
            · rw [if_pos z, z]
              intro z'
              cases z'
end
end Kw

set_option Elab.async false
set_option linter.all false
set_option maxRecDepth 100000
set_option maxHeartbeats 4000000
namespace Kw
open PySem PySem.Spec PyProof.Rows L2
section
variable {P : Program} {w : World} {K : PySem.W.Frag} {mg : Str → Option Value} {base : Heap}
def dueD : Option (Str × Nat) → PyData
  | none => .str ""
  | some (z, i) => .tuple [.str "InvalidHouse", .str z, .int (i : Nat)]
/-! ### _law_error -/
def KindAt (K : PySem.W.Frag) (mg : Str → Option Value) (CE : Addr) (x : Str) (b : Bool) : Prop := ∃ c, mg x = some (.ref c) ∧ PySem.W.kitOne K (.ref CE) (.ref c) = some b
structure ErrF (K : PySem.W.Frag) (mg : Str → Option Value) (CE CW : Addr) : Prop where
  exc : ExcC K CE
  xf : XfC K CE
  nP : PySem.W.findIn K (.ref CE) "part" = some none
  nI : PySem.W.findIn K (.ref CE) "index" = some none
  wat : mg "WatchError" = some (.ref CW)
  exm : PySem.W.exmOne K (.ref CE) (.ref CW) = some true
  ve : mg "ValueError" = none
  kve : PySem.W.kitOne K (.ref CE) (.type "ValueError") = some true
  kInsideItself : KindAt K mg CE "InsideItself" false
  kInvalidCourse : KindAt K mg CE "InvalidCourse" false
  kInvalidHands : KindAt K mg CE "InvalidHands" false
  kInvalidHouse : KindAt K mg CE "InvalidHouse" true
  kInvalidLog : KindAt K mg CE "InvalidLog" false
  kInvalidNumber : KindAt K mg CE "InvalidNumber" false
  kIsSealed : KindAt K mg CE "IsSealed" false
  kNoCourse : KindAt K mg CE "NoCourse" false
  kNotHeld : KindAt K mg CE "NotHeld" false
  kNotInside : KindAt K mg CE "NotInside" false
  kNotSealed : KindAt K mg CE "NotSealed" false
  kUnknownBox : KindAt K mg CE "UnknownBox" false
  kUnknownHand : KindAt K mg CE "UnknownHand" false
  kUnknownItem : KindAt K mg CE "UnknownItem" false
  kUnknownSeal : KindAt K mg CE "UnknownSeal" false
theorem tcat {σ : L2.St} {H : Hp} {Q : VK} {i : Nat} {l : Addr} {xs vs : List V} {args : TA} (h0 : σ[i]? = some (some (.ref l))) (h1 : H l = some (.lst xs)) (ha : ∀ R : List V → Hp → Prop, R vs H → args σ H R) (hl : xs.length + vs.length ≤ sizeLine)
    (k : ∀ (p : Addr) H', Same H H' → H' p = some (.lst (xs ++ vs)) → Q (.ref p) H') : tOp rCat (tVar i) (tLst args) σ H Q :=
  ⟨_, h0, ha _ ⟨by omega, fun p hp => ⟨l, p, xs, vs, rfl, rfl, (same_upd hp) _ _ h1, upd_same, hl, fun p2 hp2 => k _ _ (Same.upd2 (same_upd hp) hp2) upd_same⟩⟩⟩
theorem tisi {σ : L2.St} {H : Hp} {Q : VK} {CE a dd c : Addr} {b : Bool} {fs : List (Str × V)} (h0 : σ[1]? = some (some (.ref a))) (hd : H dd = some (.xd fs)) (ki : PySem.W.kitOne K (.ref CE) (.ref c) = some b) (q : Q (.bl b) H) :
    tCB (fun xs H Q => (∀ d, some dd = some d → ∃ fs, H d = some (.xd fs)) ∧ rIsE K CE a xs H Q) (tCons (tVar 1) (tCons (tC (.ref c)) tNil)) σ H Q :=
  ⟨_, h0, fun d e => by cases e; exact ⟨_, hd⟩, .ref c, .ref c, b, rfl, fun _ z => z, ki, q⟩
def errOut (CE : Addr) (Q : VK) : XK := fun cls d H' => cls = .ref CE ∧ ∃ (dd : Addr) (z : Str) (i : Nat), d = some dd ∧ H' dd = some (.xd (ihFs z i)) ∧ ∀ v H2, Same H' H2 → Dp K H2 v (dueD (some (z, i))) → Q v H2
def TErr (K : PySem.W.Frag) (CE : Addr) : (XK → Hp → VK → Prop) → Hp → VK → Prop := fun tl H Q => tl (errOut (K := K) CE Q) H (fun _ H' => Q (.str "") H')
theorem scErr : FnScope ["_law_work", "error", "_law_kinds", "_law_names", "_law_name"] ["_law_work"] (defScope sErr) := ⟨rfl, rfl, rfl, by decide +kernel, rfl, by decide +kernel, by decide +kernel⟩
def kindsV : List Bool := [false, false, false, true, false, false, false, false, false, false, false, false, false, false, false]
def namesV : List Str := ["InsideItself", "InvalidCourse", "InvalidHands", "InvalidHouse", "InvalidLog", "InvalidNumber", "IsSealed", "NoCourse", "NotHeld", "NotInside", "NotSealed", "UnknownBox", "UnknownHand", "UnknownItem", "UnknownSeal"]
theorem fs_part (z : Str) (i : Int) : (ihFs z i).lookup ("part" : Str) = some (.str z) := by
  unfold ihFs
  rw [List.lookup_cons, show (("part" : Str) == ("index" : Str)) = false from by decide +kernel]
  rfl
theorem fs_index (z : Str) (i : Int) : (ihFs z i).lookup ("index" : Str) = some (.int i) := by
  unfold ihFs
  rw [List.lookup_cons, show (("index" : Str) == ("index" : Str)) = true from by decide +kernel]
theorem iteFe {b : Bool} {A B : Prop} (hb : b = false) (h : B) : if b = true then A else B := by
  rw [hb]
  exact iteF h
theorem iteTe {b : Bool} {A B : Prop} (hb : b = true) (h : A) : if b = true then A else B := by
  rw [hb]
  exact iteT h
def errSuite : List Stmt := match defBody sErr with
  | .Try _ (.ExceptHandler _ _ s _ :: _) _ _ _ :: _ => s
  | _ => []
theorem err_suite {g : Addr} {cdg : Value} {A : Around} {outer : List Env} {s0 : Shared} {H0 : Hp} {CE CW a : Addr} {oe : Obj} {dd : Addr} {pn : List (Addr × Obj)} (T : ErrF K mg CE CW) (B : Bt mg) (hz : Zc (.ref CE) (some dd) oe) (hf : ∃ vs, oe.data = .fields vs)
    (D : Ends) (σ : L2.St) (H : Hp) (v0 v2 v3 v4 : Option V) (z : Str) (i : Nat) (hσ : σ = [v0, some (.ref a), v2, v3, v4]) (hh : H dd = some (.xd (ihFs z i))) (k : ∀ v H2, Same H H2 → Dp K H2 v (dueD (some (z, i))) → D.rt v H2) :
      ∃ T, PSs (Cx.suite ((cxOf CX0 P w K mg base ["_law_work", "error", "_law_kinds", "_law_names", "_law_name"] "_law_error" (defScope sErr) g cdg A outer s0 H0 E0).nox) a ((a, oe) :: pn)) errSuite T ∧ T D σ H := by
    obtain ⟨cInsideItself, mInsideItself, qInsideItself⟩ := T.kInsideItself
    obtain ⟨cInvalidCourse, mInvalidCourse, qInvalidCourse⟩ := T.kInvalidCourse
    obtain ⟨cInvalidHands, mInvalidHands, qInvalidHands⟩ := T.kInvalidHands
    obtain ⟨cInvalidHouse, mInvalidHouse, qInvalidHouse⟩ := T.kInvalidHouse
    obtain ⟨cInvalidLog, mInvalidLog, qInvalidLog⟩ := T.kInvalidLog
    obtain ⟨cInvalidNumber, mInvalidNumber, qInvalidNumber⟩ := T.kInvalidNumber
    obtain ⟨cIsSealed, mIsSealed, qIsSealed⟩ := T.kIsSealed
    obtain ⟨cNoCourse, mNoCourse, qNoCourse⟩ := T.kNoCourse
    obtain ⟨cNotHeld, mNotHeld, qNotHeld⟩ := T.kNotHeld
    obtain ⟨cNotInside, mNotInside, qNotInside⟩ := T.kNotInside
    obtain ⟨cNotSealed, mNotSealed, qNotSealed⟩ := T.kNotSealed
    obtain ⟨cUnknownBox, mUnknownBox, qUnknownBox⟩ := T.kUnknownBox
    obtain ⟨cUnknownHand, mUnknownHand, qUnknownHand⟩ := T.kUnknownHand
    obtain ⟨cUnknownItem, mUnknownItem, qUnknownItem⟩ := T.kUnknownItem
    obtain ⟨cUnknownSeal, mUnknownSeal, qUnknownSeal⟩ := T.kUnknownSeal
    refine ⟨_, (pss_cons (ps_set (i := 2) scErr.nd rfl (.inl rfl) (pe_lst (pa_cons (pe_callB (call_isO T.exc hz hf) (by rfl) B.isi (by decide +kernel) (pa_cons (pv 1) (pa_cons (pe_glob (v := .ref cInsideItself) rfl mInsideItself rfl) pa_nil))) (pa_cons (pe_callB (call_isO T.exc hz hf) (by rfl) B.isi (by decide +kernel) (pa_cons (pv 1) (pa_cons (pe_glob (v := .ref cInvalidCourse) rfl mInvalidCourse rfl) pa_nil))) (pa_cons (pe_callB (call_isO T.exc hz hf) (by rfl) B.isi (by decide +kernel) (pa_cons (pv 1) (pa_cons (pe_glob (v := .ref cInvalidHands) rfl mInvalidHands rfl) pa_nil))) pa_nil)))))
        (pss_cons (ps_set (i := 2) scErr.nd rfl (.inl rfl) (pe_op op_cat (pv 2) (pe_lst (pa_cons (pe_callB (call_isO T.exc hz hf) (by rfl) B.isi (by decide +kernel) (pa_cons (pv 1) (pa_cons (pe_glob (v := .ref cInvalidHouse) rfl mInvalidHouse rfl) pa_nil))) (pa_cons (pe_callB (call_isO T.exc hz hf) (by rfl) B.isi (by decide +kernel) (pa_cons (pv 1) (pa_cons (pe_glob (v := .ref cInvalidLog) rfl mInvalidLog rfl) pa_nil))) pa_nil)))))
        (pss_cons (ps_set (i := 2) scErr.nd rfl (.inl rfl) (pe_op op_cat (pv 2) (pe_lst (pa_cons (pe_callB (call_isO T.exc hz hf) (by rfl) B.isi (by decide +kernel) (pa_cons (pv 1) (pa_cons (pe_glob (v := .ref cInvalidNumber) rfl mInvalidNumber rfl) pa_nil))) (pa_cons (pe_callB (call_isO T.exc hz hf) (by rfl) B.isi (by decide +kernel) (pa_cons (pv 1) (pa_cons (pe_glob (v := .ref cIsSealed) rfl mIsSealed rfl) pa_nil))) (pa_cons (pe_callB (call_isO T.exc hz hf) (by rfl) B.isi (by decide +kernel) (pa_cons (pv 1) (pa_cons (pe_glob (v := .ref cNoCourse) rfl mNoCourse rfl) pa_nil))) pa_nil))))))
        (pss_cons (ps_set (i := 2) scErr.nd rfl (.inl rfl) (pe_op op_cat (pv 2) (pe_lst (pa_cons (pe_callB (call_isO T.exc hz hf) (by rfl) B.isi (by decide +kernel) (pa_cons (pv 1) (pa_cons (pe_glob (v := .ref cNotHeld) rfl mNotHeld rfl) pa_nil))) (pa_cons (pe_callB (call_isO T.exc hz hf) (by rfl) B.isi (by decide +kernel) (pa_cons (pv 1) (pa_cons (pe_glob (v := .ref cNotInside) rfl mNotInside rfl) pa_nil))) (pa_cons (pe_callB (call_isO T.exc hz hf) (by rfl) B.isi (by decide +kernel) (pa_cons (pv 1) (pa_cons (pe_glob (v := .ref cNotSealed) rfl mNotSealed rfl) pa_nil))) pa_nil))))))
        (pss_cons (ps_set (i := 2) scErr.nd rfl (.inl rfl) (pe_op op_cat (pv 2) (pe_lst (pa_cons (pe_callB (call_isO T.exc hz hf) (by rfl) B.isi (by decide +kernel) (pa_cons (pv 1) (pa_cons (pe_glob (v := .ref cUnknownBox) rfl mUnknownBox rfl) pa_nil))) (pa_cons (pe_callB (call_isO T.exc hz hf) (by rfl) B.isi (by decide +kernel) (pa_cons (pv 1) (pa_cons (pe_glob (v := .ref cUnknownHand) rfl mUnknownHand rfl) pa_nil))) pa_nil)))))
        (pss_cons (ps_set (i := 2) scErr.nd rfl (.inl rfl) (pe_op op_cat (pv 2) (pe_lst (pa_cons (pe_callB (call_isO T.exc hz hf) (by rfl) B.isi (by decide +kernel) (pa_cons (pv 1) (pa_cons (pe_glob (v := .ref cUnknownItem) rfl mUnknownItem rfl) pa_nil))) (pa_cons (pe_callB (call_isO T.exc hz hf) (by rfl) B.isi (by decide +kernel) (pa_cons (pv 1) (pa_cons (pe_glob (v := .ref cUnknownSeal) rfl mUnknownSeal rfl) pa_nil))) pa_nil)))))
        (pss_cons (ps_set (i := 3) scErr.nd rfl (.inl rfl) (pe_lst (pa_cons pe_str (pa_cons pe_str (pa_cons pe_str (pa_cons pe_str (pa_cons pe_str (pa_cons pe_str pa_nil))))))))
        (pss_cons (ps_set (i := 3) scErr.nd rfl (.inl rfl) (pe_op op_cat (pv 3) (pe_lst (pa_cons pe_str (pa_cons pe_str (pa_cons pe_str (pa_cons pe_str (pa_cons pe_str (pa_cons pe_str (pa_cons pe_str pa_nil))))))))))
        (pss_cons (ps_set (i := 3) scErr.nd rfl (.inl rfl) (pe_op op_cat (pv 3) (pe_lst (pa_cons pe_str (pa_cons pe_str pa_nil)))))
        (pss_cons (ps_if (PW.pt (pw_or (pt_cmpR op_ne (pe_bm PySem.F.plainAttrs_list PySem.F.slot_list_count PySem.F.type_list_count mt_countB (pv 2) (pa_cons pe_bl pa_nil)) pe_int (nomark _))
        (pw_or1 (pt_not (pt_val (pe_callB (call_isO T.exc hz hf) (by rfl) B.isi (by decide +kernel) (pa_cons (pv 1) (pa_cons (pe_bltn (v := .ty "ValueError") (by rfl) T.ve (by decide +kernel) rfl) pa_nil)))))))) (pss_one (ps_ret pe_str)) pss_nil)
        (pss_cons (ps_set (i := 4) scErr.nd rfl (.inl rfl) (pe_ix ix_list (pv 3) (pe_bm PySem.F.plainAttrs_list PySem.F.slot_list_index PySem.F.type_list_index mt_index (pv 2) (pa_cons pe_bl pa_nil)) (fun _ _ => rfl)))
        (pss_cons (ps_if (pt_cmpR op_eq (pv 4) pe_str (nomark _)) (pss_one (ps_ret (pe_tup (pa_cons (pv 4) (pa_cons (pe_xf T.xf T.nP hz hf (pv 1)) (pa_cons (pe_xf T.xf T.nI hz hf (pv 1)) pa_nil)))))) pss_nil)
        (pss_one (ps_ret (pe_ifExp (pt_cmpR op_in_seq (pv 4) (pe_tup (pa_cons pe_str (pa_cons pe_str pa_nil))) (by rfl)) (pe_tup (pa_cons (pv 4) (pa_cons (pe_xf T.xf T.nI hz hf (pv 1)) pa_nil))) (pv 4)))))))))))))))), ?_⟩
    subst hσ
    refine (tisi rfl hh qInsideItself (tisi rfl hh qInvalidCourse (tisi rfl hh qInvalidHands ⟨(by show 3 ≤ sizeLine; decide), fun p1 hp1 => ?_⟩)))
    have e1 := same_upd (o := HO.lst [V.bl false, V.bl false, V.bl false]) hp1
    have h1 : (L2.upd H p1 (.lst [V.bl false, V.bl false, V.bl false])) p1 = some (.lst [V.bl false, V.bl false, V.bl false]) := upd_same
    have hh1 := e1 _ _ hh
    generalize L2.upd H p1 (.lst [V.bl false, V.bl false, V.bl false]) = H1 at *
    refine tcat (xs := [V.bl false, V.bl false, V.bl false]) (vs := [V.bl true, V.bl false]) rfl h1 (fun R r => (tisi rfl hh1 qInvalidHouse (tisi rfl hh1 qInvalidLog r))) (by decide +kernel) (fun p2 H2 f2 h2 => ?_)
    have e2 := e1.trans f2
    have hh2 := e2 _ _ hh
    refine tcat (xs := [V.bl false, V.bl false, V.bl false, V.bl true, V.bl false]) (vs := [V.bl false, V.bl false, V.bl false]) rfl h2 (fun R r => (tisi rfl hh2 qInvalidNumber (tisi rfl hh2 qIsSealed (tisi rfl hh2 qNoCourse r)))) (by decide +kernel) (fun p3 H3 f3 h3 => ?_)
    have e3 := e2.trans f3
    have hh3 := e3 _ _ hh
    refine tcat (xs := [V.bl false, V.bl false, V.bl false, V.bl true, V.bl false, V.bl false, V.bl false, V.bl false]) (vs := [V.bl false, V.bl false, V.bl false]) rfl h3 (fun R r => (tisi rfl hh3 qNotHeld (tisi rfl hh3 qNotInside (tisi rfl hh3 qNotSealed r)))) (by decide +kernel) (fun p4 H4 f4 h4 => ?_)
    have e4 := e3.trans f4
    have hh4 := e4 _ _ hh
    refine tcat (xs := [V.bl false, V.bl false, V.bl false, V.bl true, V.bl false, V.bl false, V.bl false, V.bl false, V.bl false, V.bl false, V.bl false]) (vs := [V.bl false, V.bl false]) rfl h4 (fun R r => (tisi rfl hh4 qUnknownBox (tisi rfl hh4 qUnknownHand r))) (by decide +kernel) (fun p5 H5 f5 h5 => ?_)
    have e5 := e4.trans f5
    have hh5 := e5 _ _ hh
    refine tcat (xs := [V.bl false, V.bl false, V.bl false, V.bl true, V.bl false, V.bl false, V.bl false, V.bl false, V.bl false, V.bl false, V.bl false, V.bl false, V.bl false]) (vs := [V.bl false, V.bl false]) rfl h5 (fun R r => (tisi rfl hh5 qUnknownItem (tisi rfl hh5 qUnknownSeal r))) (by decide +kernel) (fun p6 H6 f6 h6 => ?_)
    have e6 := e5.trans f6
    have hh6 := e6 _ _ hh
    refine ⟨(by show 6 ≤ sizeLine; decide), fun p7 hp7 => ?_⟩
    have f7 := same_upd (o := HO.lst [V.str ("InsideItself" : Str), V.str ("InvalidCourse" : Str), V.str ("InvalidHands" : Str), V.str ("InvalidHouse" : Str), V.str ("InvalidLog" : Str), V.str ("InvalidNumber" : Str)]) hp7
    have h7 : (L2.upd H6 p7 (.lst [V.str ("InsideItself" : Str), V.str ("InvalidCourse" : Str), V.str ("InvalidHands" : Str), V.str ("InvalidHouse" : Str), V.str ("InvalidLog" : Str), V.str ("InvalidNumber" : Str)])) p7 = some (.lst [V.str ("InsideItself" : Str), V.str ("InvalidCourse" : Str), V.str ("InvalidHands" : Str), V.str ("InvalidHouse" : Str), V.str ("InvalidLog" : Str), V.str ("InvalidNumber" : Str)]) := upd_same
    generalize L2.upd H6 p7 (.lst [V.str ("InsideItself" : Str), V.str ("InvalidCourse" : Str), V.str ("InvalidHands" : Str), V.str ("InvalidHouse" : Str), V.str ("InvalidLog" : Str), V.str ("InvalidNumber" : Str)]) = H7 at *
    have e7 := e6.trans f7
    have hK7 := f7 _ _ h6
    refine tcat (xs := [V.str ("InsideItself" : Str), V.str ("InvalidCourse" : Str), V.str ("InvalidHands" : Str), V.str ("InvalidHouse" : Str), V.str ("InvalidLog" : Str), V.str ("InvalidNumber" : Str)]) (vs := [V.str ("IsSealed" : Str), V.str ("NoCourse" : Str), V.str ("NotHeld" : Str), V.str ("NotInside" : Str), V.str ("NotSealed" : Str), V.str ("UnknownBox" : Str), V.str ("UnknownHand" : Str)]) rfl h7 (fun R r => r) (by decide +kernel) (fun p8 H8 f8 h8 => ?_)
    have e8 := e7.trans f8
    have hK8 := f8 _ _ hK7
    refine tcat (xs := [V.str ("InsideItself" : Str), V.str ("InvalidCourse" : Str), V.str ("InvalidHands" : Str), V.str ("InvalidHouse" : Str), V.str ("InvalidLog" : Str), V.str ("InvalidNumber" : Str), V.str ("IsSealed" : Str), V.str ("NoCourse" : Str), V.str ("NotHeld" : Str), V.str ("NotInside" : Str), V.str ("NotSealed" : Str), V.str ("UnknownBox" : Str), V.str ("UnknownHand" : Str)]) (vs := [V.str ("UnknownItem" : Str), V.str ("UnknownSeal" : Str)]) rfl h8 (fun R r => r) (by decide +kernel) (fun p9 H9 f9 h9 => ?_)
    have e9 := e8.trans f9
    have hK9 := f9 _ _ hK8
    have hhE := e9 _ _ hh
    have hKE : H9 p6 = some (.lst [V.bl false, V.bl false, V.bl false, V.bl true, V.bl false, V.bl false, V.bl false, V.bl false, V.bl false, V.bl false, V.bl false, V.bl false, V.bl false, V.bl false, V.bl false]) := hK9
    have hNE : H9 p9 = some (.lst [V.str ("InsideItself" : Str), V.str ("InvalidCourse" : Str), V.str ("InvalidHands" : Str), V.str ("InvalidHouse" : Str), V.str ("InvalidLog" : Str), V.str ("InvalidNumber" : Str), V.str ("IsSealed" : Str), V.str ("NoCourse" : Str), V.str ("NotHeld" : Str), V.str ("NotInside" : Str), V.str ("NotSealed" : Str), V.str ("UnknownBox" : Str), V.str ("UnknownHand" : Str), V.str ("UnknownItem" : Str), V.str ("UnknownSeal" : Str)]) := h9
    refine ⟨_, rfl, .inl ⟨rfl, _, SqL.of hKE⟩, p6, kindsV, true, rfl, rfl, SqL.of hKE, rfl, _, rfl, iteFe (by decide +kernel) ?_⟩
    refine ⟨_, rfl, fun d e => by cases e; exact ⟨_, hhE⟩, .ty "ValueError", .type "ValueError", true, rfl, fun u z => z, T.kve, _, rfl, iteF ?_⟩
    refine ⟨_, rfl, _, rfl, .inl ⟨rfl, _, SqL.of hKE⟩, p6, [V.bl false, V.bl false, V.bl false, V.bl true, V.bl false, V.bl false, V.bl false, V.bl false, V.bl false, V.bl false, V.bl false, V.bl false, V.bl false, V.bl false, V.bl false], .bl true, 3, .bl true, rfl, rfl, SqL.of hKE, rfl, rfl, rfl, rfl, fun m z' hm e => ?_, p9, [V.str ("InsideItself" : Str), V.str ("InvalidCourse" : Str), V.str ("InvalidHands" : Str), V.str ("InvalidHouse" : Str), V.str ("InvalidLog" : Str), V.str ("InvalidNumber" : Str), V.str ("IsSealed" : Str), V.str ("NoCourse" : Str), V.str ("NotHeld" : Str), V.str ("NotInside" : Str), V.str ("NotSealed" : Str), V.str ("UnknownBox" : Str), V.str ("UnknownHand" : Str), V.str ("UnknownItem" : Str), V.str ("UnknownSeal" : Str)], 3, .str ("InvalidHouse" : Str), rfl, rfl, SqL.of hNE, rfl, ?_⟩
    · match m, hm, e with
      | 0, _, e => cases e; rfl
      | 1, _, e => cases e; rfl
      | 2, _, e => cases e; rfl
      | m + 3, h, _ => exact absurd h (by omega)
    refine ⟨_, rfl, rfl, _, rfl, iteTe (decide_eq_true rfl) ?_⟩
    refine ⟨_, rfl, _, rfl, rfl, rfl, dd, _, _, rfl, hhE, fs_part _ _, _, rfl, rfl, rfl, dd, _, _, rfl, hhE, fs_index _ _, (by show 3 ≤ sizeLine; decide), fun p hp => ?_⟩
    exact k _ _ (e9.trans (same_upd hp)) (.tup (SqT.of upd_same) (.cons (.str _) (.cons (.str _) (.cons (.int _) .nil))))
theorem err_gives {X : Cx} {g CE CW : Addr} {cdg : Value} {q : Str} (T : ErrF X.K X.mg CE CW) (B : Bt X.mg) : LamX.GivesTo X ["_law_work", "error", "_law_kinds", "_law_names", "_law_name"] "_law_error" (defScope sErr) g cdg (defBody sErr) "_law_work" q (TErr X.K CE) := by
  intro f c' s H Q tl act hc h
  have hgl : Gl (cxOf C8.CX0 X.prog X.w X.K X.mg X.base ["_law_work", "error", "_law_kinds", "_law_names", "_law_name"] "_law_error" (defScope sErr) g cdg X.A X.stack s H C8.E0).nox "WatchError" := rfl
  refine ⟨_, pss_cons (ps_try_as (X := (cxOf C8.CX0 X.prog X.w X.K X.mg X.base ["_law_work", "error", "_law_kinds", "_law_names", "_law_name"] "_law_error" (defScope sErr) g cdg X.A X.stack s H C8.E0).nox) (c := .ref CW) (i := 1)
      (tb := fun W D σ H => ∃ Ech : XK, (∀ cls d σ' H', Ech cls d H' → W cls d σ' H') ∧ σ[0]? = some (some (.ref f)) ∧ H c' = some (LamX.CodeO c' q) ∧ tl Ech H (fun _ H' => D.nx σ H'))
      (ts := fun a cls d D σ H => cls = .ref CE ∧ ∃ (σ0 : L2.St) (dd : Addr) (z : Str) (i : Nat), d = some dd ∧ σ = σ0.set 1 (some (.ref a)) ∧ H dd = some (.xd (ihFs z i)) ∧ ∀ v H2, Same H H2 → Dp X.K H2 v (dueD (some (z, i))) → D.rt v H2)
      rfl rfl scErr.nd rfl rfl ⟨hgl, by decide, .inl T.wat⟩ LamX.takes0 (fun W pn xe tk _ => ?_) (fun a oe cls d pn hz hf => ?_)) (pss_one (ps_ret pe_str)), ?_⟩
  · refine ⟨fun pins s' σ H' D I h' => ?_⟩
    obtain ⟨Ech, hW, h1, h2, h3⟩ := h'
    exact (pss_one (ps_expr (act W pn xe Ech _ _ tk hW))).run pins s' σ H' D I ⟨h1, h2, h3⟩
  · refine ⟨fun pins s' σ H' D I h' => ?_⟩
    obtain ⟨rfl, σ0, dd, z, i, rfl, hσ, hh, k⟩ := h'
    have hl : σ0.length = 5 := by
      have q := I.len
      rw [hσ, List.length_set] at q
      exact q
    obtain ⟨v0, v1, v2, v3, v4, e5⟩ : ∃ v0 v1 v2 v3 v4, σ0 = [v0, v1, v2, v3, v4] := by
      match σ0, hl with
      | [v0, v1, v2, v3, v4], _ => exact ⟨v0, v1, v2, v3, v4, rfl⟩
    rw [e5] at hσ
    obtain ⟨t, ht, hq⟩ := err_suite (P := X.prog) (w := X.w) (K := X.K) (mg := X.mg) (base := X.base) (g := g) (cdg := cdg) (A := X.A) (outer := X.stack) (s0 := s) (H0 := H) T B hz hf D σ H' v0 v2 v3 v4 z i hσ hh k
    exact ht.run pins s' σ H' D I hq
  · refine ⟨errOut (K := X.K) CE Q, fun cls d σ' H' ⟨e1, dd, z, i, e2, hh, k⟩ => ?_, rfl, hc, h⟩
    exact ⟨true, by rw [e1]; exact T.exm, fun _ a ha => ⟨e1, σ', dd, z, i, e2, rfl, hh, k⟩, fun z => by cases z⟩
end
end Kw

set_option Elab.async false
set_option linter.all false
set_option maxRecDepth 100000
set_option maxHeartbeats 4000000
namespace Kw
open PySem PySem.Spec PyProof.Rows L2
section
variable {P : Program} {w : World} {K : PySem.W.Frag} {mg : Str → Option Value} {base : Heap}
/-! ### _law_error, any of the plain errors -/
/-- the error class at place j of the law's names -/
structure ErrJ (K : PySem.W.Frag) (mg : Str → Option Value) (CE CW : Addr) (j : Nat) : Prop where
  exc : ExcC K CE
  xf : XfC K CE
  nP : PySem.W.findIn K (.ref CE) "part" = some none
  nI : PySem.W.findIn K (.ref CE) "index" = some none
  wat : mg "WatchError" = some (.ref CW)
  exm : PySem.W.exmOne K (.ref CE) (.ref CW) = some true
  ve : mg "ValueError" = none
  kve : PySem.W.kitOne K (.ref CE) (.type "ValueError") = some true
  kInsideItself : KindAt K mg CE "InsideItself" (decide (0 = j))
  kInvalidCourse : KindAt K mg CE "InvalidCourse" (decide (1 = j))
  kInvalidHands : KindAt K mg CE "InvalidHands" (decide (2 = j))
  kInvalidHouse : KindAt K mg CE "InvalidHouse" (decide (3 = j))
  kInvalidLog : KindAt K mg CE "InvalidLog" (decide (4 = j))
  kInvalidNumber : KindAt K mg CE "InvalidNumber" (decide (5 = j))
  kIsSealed : KindAt K mg CE "IsSealed" (decide (6 = j))
  kNoCourse : KindAt K mg CE "NoCourse" (decide (7 = j))
  kNotHeld : KindAt K mg CE "NotHeld" (decide (8 = j))
  kNotInside : KindAt K mg CE "NotInside" (decide (9 = j))
  kNotSealed : KindAt K mg CE "NotSealed" (decide (10 = j))
  kUnknownBox : KindAt K mg CE "UnknownBox" (decide (11 = j))
  kUnknownHand : KindAt K mg CE "UnknownHand" (decide (12 = j))
  kUnknownItem : KindAt K mg CE "UnknownItem" (decide (13 = j))
  kUnknownSeal : KindAt K mg CE "UnknownSeal" (decide (14 = j))
def DdOk (dd : Option Addr) (H : Hp) : Prop := ∀ d, dd = some d → ∃ fs, H d = some (.xd fs)
theorem DdOk.same {dd : Option Addr} {H H' : Hp} (e : Same H H') (h : DdOk dd H) : DdOk dd H' := fun d hd => by
  obtain ⟨fs, hf⟩ := h d hd
  exact ⟨fs, e _ _ hf⟩
theorem tisiG {σ : L2.St} {H : Hp} {Q : VK} {CE a c : Addr} {dd : Option Addr} {b : Bool} (h0 : σ[1]? = some (some (.ref a))) (hd : DdOk dd H) (ki : PySem.W.kitOne K (.ref CE) (.ref c) = some b) (q : Q (.bl b) H) :
    tCB (fun xs H Q => (∀ d, dd = some d → ∃ fs, H d = some (.xd fs)) ∧ rIsE K CE a xs H Q) (tCons (tVar 1) (tCons (tC (.ref c)) tNil)) σ H Q :=
  ⟨_, h0, hd, .ref c, .ref c, b, rfl, fun _ z => z, ki, q⟩
def kindsJ (j : Nat) : List Bool := (List.range 15).map fun i => decide (i = j)
def nameJ (j : Nat) : Str := namesV.getD j ""
theorem cnt_kinds {j : Nat} (hj : j < 15) : (kindsJ j).count true = 1 := by
  have h : ∀ i : Fin 15, (kindsJ i).count true = 1 := by decide +kernel
  exact h ⟨j, hj⟩
theorem flat_kinds (j : Nat) : ((kindsJ j).map V.bl).all flatV = true := by
  rw [List.all_eq_true]
  intro x hx
  obtain ⟨b, _, rfl⟩ := List.mem_map.mp hx
  rfl
theorem at_kinds {j : Nat} (hj : j < 15) : ((kindsJ j).map V.bl)[j]? = some (.bl true) := by
  have h : ∀ i : Fin 15, (kindsJ i)[i.val]? = some true := by decide +kernel
  rw [List.getElem?_map, h ⟨j, hj⟩]
  rfl
theorem no_kinds {j m : Nat} {z : V} (hj : j < 15) (hm : m < j) (e : ((kindsJ j).map V.bl)[m]? = some z) : eqV z (.bl true) = false := by
  have h : ∀ i k : Fin 15, k.val < i.val → (kindsJ i)[k.val]? = some false := by decide +kernel
  rw [List.getElem?_map, h ⟨j, hj⟩ ⟨m, by omega⟩ hm] at e
  cases e
  rfl
theorem at_names {j : Nat} (hj : j < 15) : atI (namesV.map V.str) (j : Nat) = some (.str (nameJ j)) := by
  have h : ∀ i : Fin 15, namesV[i.val]? = some (nameJ i) := by decide +kernel
  refine atI_nat ?_
  rw [List.getElem?_map, h ⟨j, hj⟩]
  rfl
theorem nm_not {j : Nat} (hj : j < 15) (hn : j ≠ 2 ∧ j ≠ 3 ∧ j ≠ 4) : decide (nameJ j = ("InvalidHouse" : Str)) = false := by
  have h : ∀ i : Fin 15, i.val ≠ 3 → decide (nameJ i = ("InvalidHouse" : Str)) = false := by decide +kernel
  exact h ⟨j, hj⟩ hn.2.1
theorem nm_in {j : Nat} (hj : j < 15) (hn : j ≠ 2 ∧ j ≠ 3 ∧ j ≠ 4) : inV (.str (nameJ j)) [V.str ("InvalidHands" : Str), .str ("InvalidLog" : Str)] = false := by
  have h : ∀ i : Fin 15, i.val ≠ 2 → i.val ≠ 4 → inV (.str (nameJ i)) [V.str ("InvalidHands" : Str), .str ("InvalidLog" : Str)] = false := by decide +kernel
  exact h ⟨j, hj⟩ hn.1 hn.2.2
theorem err_suiteG {g : Addr} {cdg : Value} {A : Around} {outer : List Env} {s0 : Shared} {H0 : Hp} {CE CW a : Addr} {j : Nat} {oe : Obj} {dd : Option Addr} {pn : List (Addr × Obj)} (T : ErrJ K mg CE CW j) (hj : j < 15) (hn : j ≠ 2 ∧ j ≠ 3 ∧ j ≠ 4) (B : Bt mg) (hz : Zc (.ref CE) dd oe) (hf : ∃ vs, oe.data = .fields vs)
    (D : Ends) (σ : L2.St) (H : Hp) (v0 v2 v3 v4 : Option V) (hσ : σ = [v0, some (.ref a), v2, v3, v4]) (hh : DdOk dd H) (k : ∀ H2, Same H H2 → D.rt (.str (nameJ j)) H2) :
      ∃ T, PSs (Cx.suite ((cxOf CX0 P w K mg base ["_law_work", "error", "_law_kinds", "_law_names", "_law_name"] "_law_error" (defScope sErr) g cdg A outer s0 H0 E0).nox) a ((a, oe) :: pn)) errSuite T ∧ T D σ H := by
    obtain ⟨cInsideItself, mInsideItself, qInsideItself⟩ := T.kInsideItself
    obtain ⟨cInvalidCourse, mInvalidCourse, qInvalidCourse⟩ := T.kInvalidCourse
    obtain ⟨cInvalidHands, mInvalidHands, qInvalidHands⟩ := T.kInvalidHands
    obtain ⟨cInvalidHouse, mInvalidHouse, qInvalidHouse⟩ := T.kInvalidHouse
    obtain ⟨cInvalidLog, mInvalidLog, qInvalidLog⟩ := T.kInvalidLog
    obtain ⟨cInvalidNumber, mInvalidNumber, qInvalidNumber⟩ := T.kInvalidNumber
    obtain ⟨cIsSealed, mIsSealed, qIsSealed⟩ := T.kIsSealed
    obtain ⟨cNoCourse, mNoCourse, qNoCourse⟩ := T.kNoCourse
    obtain ⟨cNotHeld, mNotHeld, qNotHeld⟩ := T.kNotHeld
    obtain ⟨cNotInside, mNotInside, qNotInside⟩ := T.kNotInside
    obtain ⟨cNotSealed, mNotSealed, qNotSealed⟩ := T.kNotSealed
    obtain ⟨cUnknownBox, mUnknownBox, qUnknownBox⟩ := T.kUnknownBox
    obtain ⟨cUnknownHand, mUnknownHand, qUnknownHand⟩ := T.kUnknownHand
    obtain ⟨cUnknownItem, mUnknownItem, qUnknownItem⟩ := T.kUnknownItem
    obtain ⟨cUnknownSeal, mUnknownSeal, qUnknownSeal⟩ := T.kUnknownSeal
    refine ⟨_, (pss_cons (ps_set (i := 2) scErr.nd rfl (.inl rfl) (pe_lst (pa_cons (pe_callB (call_isO T.exc hz hf) (by rfl) B.isi (by decide +kernel) (pa_cons (pv 1) (pa_cons (pe_glob (v := .ref cInsideItself) rfl mInsideItself rfl) pa_nil))) (pa_cons (pe_callB (call_isO T.exc hz hf) (by rfl) B.isi (by decide +kernel) (pa_cons (pv 1) (pa_cons (pe_glob (v := .ref cInvalidCourse) rfl mInvalidCourse rfl) pa_nil))) (pa_cons (pe_callB (call_isO T.exc hz hf) (by rfl) B.isi (by decide +kernel) (pa_cons (pv 1) (pa_cons (pe_glob (v := .ref cInvalidHands) rfl mInvalidHands rfl) pa_nil))) pa_nil)))))
        (pss_cons (ps_set (i := 2) scErr.nd rfl (.inl rfl) (pe_op op_cat (pv 2) (pe_lst (pa_cons (pe_callB (call_isO T.exc hz hf) (by rfl) B.isi (by decide +kernel) (pa_cons (pv 1) (pa_cons (pe_glob (v := .ref cInvalidHouse) rfl mInvalidHouse rfl) pa_nil))) (pa_cons (pe_callB (call_isO T.exc hz hf) (by rfl) B.isi (by decide +kernel) (pa_cons (pv 1) (pa_cons (pe_glob (v := .ref cInvalidLog) rfl mInvalidLog rfl) pa_nil))) pa_nil)))))
        (pss_cons (ps_set (i := 2) scErr.nd rfl (.inl rfl) (pe_op op_cat (pv 2) (pe_lst (pa_cons (pe_callB (call_isO T.exc hz hf) (by rfl) B.isi (by decide +kernel) (pa_cons (pv 1) (pa_cons (pe_glob (v := .ref cInvalidNumber) rfl mInvalidNumber rfl) pa_nil))) (pa_cons (pe_callB (call_isO T.exc hz hf) (by rfl) B.isi (by decide +kernel) (pa_cons (pv 1) (pa_cons (pe_glob (v := .ref cIsSealed) rfl mIsSealed rfl) pa_nil))) (pa_cons (pe_callB (call_isO T.exc hz hf) (by rfl) B.isi (by decide +kernel) (pa_cons (pv 1) (pa_cons (pe_glob (v := .ref cNoCourse) rfl mNoCourse rfl) pa_nil))) pa_nil))))))
        (pss_cons (ps_set (i := 2) scErr.nd rfl (.inl rfl) (pe_op op_cat (pv 2) (pe_lst (pa_cons (pe_callB (call_isO T.exc hz hf) (by rfl) B.isi (by decide +kernel) (pa_cons (pv 1) (pa_cons (pe_glob (v := .ref cNotHeld) rfl mNotHeld rfl) pa_nil))) (pa_cons (pe_callB (call_isO T.exc hz hf) (by rfl) B.isi (by decide +kernel) (pa_cons (pv 1) (pa_cons (pe_glob (v := .ref cNotInside) rfl mNotInside rfl) pa_nil))) (pa_cons (pe_callB (call_isO T.exc hz hf) (by rfl) B.isi (by decide +kernel) (pa_cons (pv 1) (pa_cons (pe_glob (v := .ref cNotSealed) rfl mNotSealed rfl) pa_nil))) pa_nil))))))
        (pss_cons (ps_set (i := 2) scErr.nd rfl (.inl rfl) (pe_op op_cat (pv 2) (pe_lst (pa_cons (pe_callB (call_isO T.exc hz hf) (by rfl) B.isi (by decide +kernel) (pa_cons (pv 1) (pa_cons (pe_glob (v := .ref cUnknownBox) rfl mUnknownBox rfl) pa_nil))) (pa_cons (pe_callB (call_isO T.exc hz hf) (by rfl) B.isi (by decide +kernel) (pa_cons (pv 1) (pa_cons (pe_glob (v := .ref cUnknownHand) rfl mUnknownHand rfl) pa_nil))) pa_nil)))))
        (pss_cons (ps_set (i := 2) scErr.nd rfl (.inl rfl) (pe_op op_cat (pv 2) (pe_lst (pa_cons (pe_callB (call_isO T.exc hz hf) (by rfl) B.isi (by decide +kernel) (pa_cons (pv 1) (pa_cons (pe_glob (v := .ref cUnknownItem) rfl mUnknownItem rfl) pa_nil))) (pa_cons (pe_callB (call_isO T.exc hz hf) (by rfl) B.isi (by decide +kernel) (pa_cons (pv 1) (pa_cons (pe_glob (v := .ref cUnknownSeal) rfl mUnknownSeal rfl) pa_nil))) pa_nil)))))
        (pss_cons (ps_set (i := 3) scErr.nd rfl (.inl rfl) (pe_lst (pa_cons pe_str (pa_cons pe_str (pa_cons pe_str (pa_cons pe_str (pa_cons pe_str (pa_cons pe_str pa_nil))))))))
        (pss_cons (ps_set (i := 3) scErr.nd rfl (.inl rfl) (pe_op op_cat (pv 3) (pe_lst (pa_cons pe_str (pa_cons pe_str (pa_cons pe_str (pa_cons pe_str (pa_cons pe_str (pa_cons pe_str (pa_cons pe_str pa_nil))))))))))
        (pss_cons (ps_set (i := 3) scErr.nd rfl (.inl rfl) (pe_op op_cat (pv 3) (pe_lst (pa_cons pe_str (pa_cons pe_str pa_nil)))))
        (pss_cons (ps_if (PW.pt (pw_or (pt_cmpR op_ne (pe_bm PySem.F.plainAttrs_list PySem.F.slot_list_count PySem.F.type_list_count mt_countB (pv 2) (pa_cons pe_bl pa_nil)) pe_int (nomark _))
        (pw_or1 (pt_not (pt_val (pe_callB (call_isO T.exc hz hf) (by rfl) B.isi (by decide +kernel) (pa_cons (pv 1) (pa_cons (pe_bltn (v := .ty "ValueError") (by rfl) T.ve (by decide +kernel) rfl) pa_nil)))))))) (pss_one (ps_ret pe_str)) pss_nil)
        (pss_cons (ps_set (i := 4) scErr.nd rfl (.inl rfl) (pe_ix ix_list (pv 3) (pe_bm PySem.F.plainAttrs_list PySem.F.slot_list_index PySem.F.type_list_index mt_index (pv 2) (pa_cons pe_bl pa_nil)) (fun _ _ => rfl)))
        (pss_cons (ps_if (pt_cmpR op_eq (pv 4) pe_str (nomark _)) (pss_one (ps_ret (pe_tup (pa_cons (pv 4) (pa_cons (pe_xf T.xf T.nP hz hf (pv 1)) (pa_cons (pe_xf T.xf T.nI hz hf (pv 1)) pa_nil)))))) pss_nil)
        (pss_one (ps_ret (pe_ifExp (pt_cmpR op_in_seq (pv 4) (pe_tup (pa_cons pe_str (pa_cons pe_str pa_nil))) (by rfl)) (pe_tup (pa_cons (pv 4) (pa_cons (pe_xf T.xf T.nI hz hf (pv 1)) pa_nil))) (pv 4)))))))))))))))), ?_⟩
    subst hσ
    refine (tisiG rfl hh qInsideItself (tisiG rfl hh qInvalidCourse (tisiG rfl hh qInvalidHands ⟨(by show 3 ≤ sizeLine; decide), fun p1 hp1 => ?_⟩)))
    have e1 := same_upd (o := HO.lst [V.bl (decide (0 = j)), V.bl (decide (1 = j)), V.bl (decide (2 = j))]) hp1
    have h1 : (L2.upd H p1 (.lst [V.bl (decide (0 = j)), V.bl (decide (1 = j)), V.bl (decide (2 = j))])) p1 = some (.lst [V.bl (decide (0 = j)), V.bl (decide (1 = j)), V.bl (decide (2 = j))]) := upd_same
    have hh1 := DdOk.same e1 hh
    generalize L2.upd H p1 (.lst [V.bl (decide (0 = j)), V.bl (decide (1 = j)), V.bl (decide (2 = j))]) = H1 at *
    refine tcat (xs := [V.bl (decide (0 = j)), V.bl (decide (1 = j)), V.bl (decide (2 = j))]) (vs := [V.bl (decide (3 = j)), V.bl (decide (4 = j))]) rfl h1 (fun R r => (tisiG rfl hh1 qInvalidHouse (tisiG rfl hh1 qInvalidLog r))) (by show 3 + 2 ≤ sizeLine; decide) (fun p2 H2 f2 h2 => ?_)
    have e2 := e1.trans f2
    have hh2 := DdOk.same e2 hh
    refine tcat (xs := [V.bl (decide (0 = j)), V.bl (decide (1 = j)), V.bl (decide (2 = j)), V.bl (decide (3 = j)), V.bl (decide (4 = j))]) (vs := [V.bl (decide (5 = j)), V.bl (decide (6 = j)), V.bl (decide (7 = j))]) rfl h2 (fun R r => (tisiG rfl hh2 qInvalidNumber (tisiG rfl hh2 qIsSealed (tisiG rfl hh2 qNoCourse r)))) (by show 5 + 3 ≤ sizeLine; decide) (fun p3 H3 f3 h3 => ?_)
    have e3 := e2.trans f3
    have hh3 := DdOk.same e3 hh
    refine tcat (xs := [V.bl (decide (0 = j)), V.bl (decide (1 = j)), V.bl (decide (2 = j)), V.bl (decide (3 = j)), V.bl (decide (4 = j)), V.bl (decide (5 = j)), V.bl (decide (6 = j)), V.bl (decide (7 = j))]) (vs := [V.bl (decide (8 = j)), V.bl (decide (9 = j)), V.bl (decide (10 = j))]) rfl h3 (fun R r => (tisiG rfl hh3 qNotHeld (tisiG rfl hh3 qNotInside (tisiG rfl hh3 qNotSealed r)))) (by show 8 + 3 ≤ sizeLine; decide) (fun p4 H4 f4 h4 => ?_)
    have e4 := e3.trans f4
    have hh4 := DdOk.same e4 hh
    refine tcat (xs := [V.bl (decide (0 = j)), V.bl (decide (1 = j)), V.bl (decide (2 = j)), V.bl (decide (3 = j)), V.bl (decide (4 = j)), V.bl (decide (5 = j)), V.bl (decide (6 = j)), V.bl (decide (7 = j)), V.bl (decide (8 = j)), V.bl (decide (9 = j)), V.bl (decide (10 = j))]) (vs := [V.bl (decide (11 = j)), V.bl (decide (12 = j))]) rfl h4 (fun R r => (tisiG rfl hh4 qUnknownBox (tisiG rfl hh4 qUnknownHand r))) (by show 11 + 2 ≤ sizeLine; decide) (fun p5 H5 f5 h5 => ?_)
    have e5 := e4.trans f5
    have hh5 := DdOk.same e5 hh
    refine tcat (xs := [V.bl (decide (0 = j)), V.bl (decide (1 = j)), V.bl (decide (2 = j)), V.bl (decide (3 = j)), V.bl (decide (4 = j)), V.bl (decide (5 = j)), V.bl (decide (6 = j)), V.bl (decide (7 = j)), V.bl (decide (8 = j)), V.bl (decide (9 = j)), V.bl (decide (10 = j)), V.bl (decide (11 = j)), V.bl (decide (12 = j))]) (vs := [V.bl (decide (13 = j)), V.bl (decide (14 = j))]) rfl h5 (fun R r => (tisiG rfl hh5 qUnknownItem (tisiG rfl hh5 qUnknownSeal r))) (by show 13 + 2 ≤ sizeLine; decide) (fun p6 H6 f6 h6 => ?_)
    have e6 := e5.trans f6
    have hh6 := DdOk.same e6 hh
    refine ⟨(by show 6 ≤ sizeLine; decide), fun p7 hp7 => ?_⟩
    have f7 := same_upd (o := HO.lst [V.str ("InsideItself" : Str), V.str ("InvalidCourse" : Str), V.str ("InvalidHands" : Str), V.str ("InvalidHouse" : Str), V.str ("InvalidLog" : Str), V.str ("InvalidNumber" : Str)]) hp7
    have h7 : (L2.upd H6 p7 (.lst [V.str ("InsideItself" : Str), V.str ("InvalidCourse" : Str), V.str ("InvalidHands" : Str), V.str ("InvalidHouse" : Str), V.str ("InvalidLog" : Str), V.str ("InvalidNumber" : Str)])) p7 = some (.lst [V.str ("InsideItself" : Str), V.str ("InvalidCourse" : Str), V.str ("InvalidHands" : Str), V.str ("InvalidHouse" : Str), V.str ("InvalidLog" : Str), V.str ("InvalidNumber" : Str)]) := upd_same
    generalize L2.upd H6 p7 (.lst [V.str ("InsideItself" : Str), V.str ("InvalidCourse" : Str), V.str ("InvalidHands" : Str), V.str ("InvalidHouse" : Str), V.str ("InvalidLog" : Str), V.str ("InvalidNumber" : Str)]) = H7 at *
    have e7 := e6.trans f7
    have hK7 := f7 _ _ h6
    refine tcat (xs := [V.str ("InsideItself" : Str), V.str ("InvalidCourse" : Str), V.str ("InvalidHands" : Str), V.str ("InvalidHouse" : Str), V.str ("InvalidLog" : Str), V.str ("InvalidNumber" : Str)]) (vs := [V.str ("IsSealed" : Str), V.str ("NoCourse" : Str), V.str ("NotHeld" : Str), V.str ("NotInside" : Str), V.str ("NotSealed" : Str), V.str ("UnknownBox" : Str), V.str ("UnknownHand" : Str)]) rfl h7 (fun R r => r) (by decide +kernel) (fun p8 H8 f8 h8 => ?_)
    have e8 := e7.trans f8
    have hK8 := f8 _ _ hK7
    refine tcat (xs := [V.str ("InsideItself" : Str), V.str ("InvalidCourse" : Str), V.str ("InvalidHands" : Str), V.str ("InvalidHouse" : Str), V.str ("InvalidLog" : Str), V.str ("InvalidNumber" : Str), V.str ("IsSealed" : Str), V.str ("NoCourse" : Str), V.str ("NotHeld" : Str), V.str ("NotInside" : Str), V.str ("NotSealed" : Str), V.str ("UnknownBox" : Str), V.str ("UnknownHand" : Str)]) (vs := [V.str ("UnknownItem" : Str), V.str ("UnknownSeal" : Str)]) rfl h8 (fun R r => r) (by decide +kernel) (fun p9 H9 f9 h9 => ?_)
    have e9 := e8.trans f9
    have hK9 := f9 _ _ hK8
    have hhE := DdOk.same e9 hh
    have hKE : H9 p6 = some (.lst ((kindsJ j).map V.bl)) := hK9
    have hNE : H9 p9 = some (.lst (namesV.map V.str)) := h9
    refine ⟨_, rfl, .inl ⟨rfl, _, SqL.of hKE⟩, p6, kindsJ j, true, rfl, rfl, SqL.of hKE, rfl, _, rfl, iteFe (by rw [cnt_kinds hj]; rfl) ?_⟩
    refine ⟨_, rfl, hhE, .ty "ValueError", .type "ValueError", true, rfl, fun u z => z, T.kve, _, rfl, iteF ?_⟩
    refine ⟨_, rfl, _, rfl, .inl ⟨rfl, _, SqL.of hKE⟩, p6, (kindsJ j).map V.bl, .bl true, j, .bl true, rfl, rfl, SqL.of hKE, rfl, flat_kinds j, at_kinds hj, rfl, fun m z' hm e => no_kinds hj hm e, p9, namesV.map V.str, (j : Nat), .str (nameJ j), rfl, rfl, SqL.of hNE, at_names hj, ?_⟩
    refine ⟨_, rfl, rfl, _, rfl, iteFe (by rw [decS]; exact nm_not hj hn) ?_⟩
    refine ⟨_, rfl, (by show 2 ≤ sizeLine; decide), fun pz hpz => ⟨pz, [.str ("InvalidHands" : Str), .str ("InvalidLog" : Str)], rfl, .inr (SqT.of upd_same), rfl, rfl, _, rfl, iteFe (nm_in hj hn) ⟨_, rfl, ?_⟩⟩⟩
    exact k _ (e9.trans (same_upd hpz))
end
end Kw

set_option Elab.async false
set_option linter.all false
set_option maxRecDepth 100000
set_option maxHeartbeats 4000000
namespace Kw
open PySem PySem.Spec PyProof.Rows L2
section
variable {X : Cx}
/-! ### match of a tuple against [word, names..] -/
/-- the names behind the word, with their slots; none: the pattern _ -/
inductive Caps (X : Cx) : List Pattern → List (Option Nat) → Prop
  | nil : Caps X [] []
  | wild {pos : Pos} {ps : List Pattern} {is : List (Option Nat)} : Caps X ps is → Caps X (.MatchAs none none pos :: ps) (none :: is)
  | name {x : Str} {i : Nat} {pos : Pos} {ps : List Pattern} {is : List (Option Nat)} : X.N[i]? = some x → X.env.scope.names.lookup x = some .local → Caps X ps is → Caps X (.MatchAs none (some x) pos :: ps) (some i :: is)
def setAll : List (Option Nat) → List V → L2.St → L2.St
  | some i :: is, v :: vs, σ => setAll is vs (σ.set i (some v))
  | none :: is, _ :: vs, σ => setAll is vs σ
  | _, _, σ => σ
structure MCase where
  word : Str
  slots : List (Option Nat)
  body : TS
def mGo (w0 : Str) (rest : List V) (D : Ends) (σ : L2.St) (H : Hp) : List MCase → Prop
  | [] => D.nx σ H
  | c :: cs => if c.slots.length = rest.length ∧ c.word = w0 then c.body D (setAll c.slots rest σ) H else mGo w0 rest D σ H cs
/-- match t: case [word, ..]: .. -/
def tMatch (K : PySem.W.Frag) (te : TE) (cs : List MCase) : TS := fun D σ H => te σ H fun x H1 => ∃ (a : Addr) (w0 : Str) (rest : List V), x = .ref a ∧ SqT K H1 a (.str w0 :: rest) ∧ mGo w0 rest D σ H1 cs
/-- the cases as the text has them -/
inductive Cases (X : Cx) : List MatchCase → List MCase → Prop
  | nil : Cases X [] []
  | cons {s : Str} {j : Nat} {p1 p2 pos : Pos} {ps : List Pattern} {is : List (Option Nat)} {body : List Stmt} {tb : TS} {cs : List MatchCase} {rs : List MCase} (h : Caps X ps is) (hb : PSs X body tb) (hr : Cases X cs rs) :
      Cases X (⟨.MatchSequence (.MatchValue (.Constant (.str s) j p1) p2 :: ps) pos, none, body⟩ :: cs) (⟨s, is, tb⟩ :: rs)
theorem Caps.len {ps : List Pattern} {is : List (Option Nat)} (h : Caps X ps is) : ps.length = is.length := by
  induction h with
  | nil => rfl
  | wild _ ih => simp [ih]
  | name _ _ _ ih => simp [ih]
theorem Caps.nostar {ps : List Pattern} {is : List (Option Nat)} (h : Caps X ps is) : ∀ p ∈ ps, p.isStar = false := by
  induction h with
  | nil => intro p hp; cases hp
  | wild _ ih =>
    intro p hp
    rcases List.mem_cons.mp hp with rfl | hp
    · rfl
    · exact ih p hp
  | name _ _ _ ih =>
    intro p hp
    rcases List.mem_cons.mp hp with rfl | hp
    · rfl
    · exact ih p hp
/-- the captured names and their values -/
def bindsOf : List Pattern → List Value → List (Str × Value)
  | .MatchAs _ (some x) _ :: ps, u :: us => (x, u) :: bindsOf ps us
  | _ :: ps, _ :: us => bindsOf ps us
  | _, _ => []
theorem run_caps {ps : List Pattern} {is : List (Option Nat)} (h : Caps X ps is) : ∀ {us : List Value} {s : Shared} {E : Value → Shared → Prop} {Q : Option (List (Str × Value)) → Shared → Prop}, us.length = ps.length → Q (some (bindsOf ps us)) s →
    wpAny (model X.prog X.w) X.A (matchEach ps X.env us) Q E s := by
  induction h with
  | nil =>
    intro us s E Q hl hq
    cases us with
    | nil => exact wpAny_matchEach_nil hq
    | cons u us => simp at hl
  | wild _ ih =>
    intro us s E Q hl hq
    cases us with
    | nil => simp at hl
    | cons u us =>
      refine wpAny_matchEach_cons (wpAny_matchPattern_Capture ?_)
      exact ih (by simpa using hl) hq
  | name _ _ _ ih =>
    intro us s E Q hl hq
    cases us with
    | nil => simp at hl
    | cons u us =>
      refine wpAny_matchEach_cons (wpAny_matchPattern_Capture ?_)
      exact ih (by simpa using hl) hq
theorem run_binds {ps : List Pattern} {is : List (Option Nat)} (h : Caps X ps is) (hN : X.N.Nodup) : ∀ {us : List Value} {vs : List V} {pins : List (Addr × Obj)} {σ : L2.St} {H : Hp} {s : Shared} {E : Value → Shared → Prop} {Q : Unit → Shared → Prop}, us.length = ps.length → Vals vs us →
    Inv X pins σ H s → (∀ s', Inv X pins (setAll is vs σ) H s' → Q () s') → wpAny (model X.prog X.w) X.A (assignInOrder ((bindsOf ps us).map fun (n, _) => bindName X.env n) ((bindsOf ps us).map (·.2))) Q E s := by
  induction h with
  | nil =>
    intro us vs pins σ H s E Q hl r I k
    cases us with
    | nil => exact wpAny_assignInOrder_none (k s I)
    | cons u us => simp at hl
  | wild _ ih =>
    intro us vs pins σ H s E Q hl r I k
    cases us with
    | nil => simp at hl
    | cons u us =>
      cases r with
      | cons r1 rr => exact ih (by simpa using hl) rr I k
  | name hi hx _ ih =>
    intro us vs pins σ H s E Q hl r I k
    cases us with
    | nil => simp at hl
    | cons u us =>
      cases r with
      | cons r1 rr =>
        refine wpAny_assignInOrder_more (wpAny_bindName (store_ok I hN hi (.inl hx) r1 (fun s' I' => ?_) (.inr hx)))
        exact ih (by simpa using hl) rr I' k
theorem run_cases (hc : X.calm = true) (hN : X.N.Nodup) {a : Addr} {w0 : Str} {rest : List V} {mcs : List MatchCase} {rs : List MCase} (h : Cases X mcs rs) : ∀ {pins : List (Addr × Obj)} {σ : L2.St} {H : Hp} {s : Shared} {D : Ends} {first : Bool}, Inv X pins σ H s → SqT X.K H a (.str w0 :: rest) → mGo w0 rest D σ H rs →
    wpAny (model X.prog X.w) X.A (matchCases mcs X.env (.ref a) first) (fun f s' => SP X pins D f s') X.xe s := by
  induction h with
  | nil =>
    intro pins σ H s D first I hs hq
    exact wpAny_matchCases_nil ⟨σ, H, I, hq⟩
  | @cons w j p1 p2 pos ps is body tb cs rs h hb hr ih =>
    intro pins σ H s D first I hs hq
    obtain ⟨its, rv, ht, hz⟩ := I.tuple hs
    have hlen : its.length = rest.length + 1 := by rw [← rv.length]; rfl
    have pl : (Pattern.MatchValue (.Constant (.str w) j p1) p2 :: ps).length = is.length + 1 := by rw [List.length_cons, h.len]
    have star : (Pattern.MatchValue (.Constant (.str w) j p1) p2 :: ps).findIdx? (·.isStar) = none := List.findIdx?_eq_none_iff.mpr fun p hp => by
      rcases List.mem_cons.mp hp with rfl | hp
      · rfl
      · exact h.nostar p hp
    have wild : ((Pattern.MatchValue (.Constant (.str w) j p1) p2 :: ps).all fun p => p.isWildcard || (p.isStar && p.names.isEmpty)) = false := rfl
    have hz' : rest.length + 1 ≤ sizeLine := hz
    have fit : ((its.toArray.size : Nat) : Int) < 2 ^ 63 := by
      rw [List.size_toArray]
      rw [sizeLine_eq] at hz'
      omega
    refine wpAny_matchCases_cons ?_
    by_cases cl : is.length = rest.length
    · refine matchSeq_tuple_hit ht fit (by rw [pl, List.size_toArray, hlen, cl]) ?_ star wild
      rw [show (Pattern.MatchValue (.Constant (.str w) j p1) p2 :: ps).length = its.toArray.size by rw [pl, List.size_toArray, hlen, cl]]
      refine unpackItems_tuple (I.ok.hd hc) ht fun h' hx => ?_
      have I1 : Inv X pins σ H { s with heap := h', toks := s.toks + 1 + 1 } := I.kept (t' := s.toks + 1 + 1) fun b o e => hx b o (Nat.ne_of_lt (Heap.lt_size e)) e
      have el : its.toArray.toList = its := by simp
      rw [el]
      cases rv with
      | @cons _ u0 _ us r0 rr =>
        have lu : us.length = ps.length := by
          have : us.length + 1 = rest.length + 1 := hlen
          rw [h.len]
          omega
        refine wpAny_matchEach_cons (wpAny_matchPattern_Value ?_)
        refine thn ((pe_str (X := X) (x := w) (j := j) (pos := p1)).run pins _ σ H (fun v H1 => v = .str w ∧ H1 = H) I1 ⟨rfl, rfl⟩) fun u s1 hu => ?_
        obtain ⟨v, H1, I2, r2, ev, eH⟩ := hu
        subst ev eH
        refine thn (op_eq pins s1 σ H1 (V.str w0) (V.str w) u0 u (fun z H2 => z = .bl (decide ((V.str w0) = V.str w)) ∧ H2 = H1) I2 r0 r2 ⟨rfl, rfl, rfl⟩) fun z s2 hz2 => ?_
        obtain ⟨zv, H2, I3, rz, ez, eH2⟩ := hz2
        subst ez eH2
        obtain rfl : z = Value.bool (decide ((V.str w0) = V.str w)) := rz
        refine wpAny_truthy_bool ?_
        by_cases cw : w = w0
        · subst cw
          rw [decide_eq_true rfl]
          show wpAny _ _ _ _ _ _
          refine run_caps h lu ?_
          show wpAny _ _ _ _ _ _
          refine run_binds h hN lu rr I3 fun s3 I4 => ?_
          have hq' : tb D (setAll is rest σ) H2 := by
            have q := hq
            unfold mGo at q
            rwa [if_pos ⟨cl, rfl⟩] at q
          exact hb.run pins s3 _ H2 D I4 hq'
        · have ne : decide ((V.str w0) = V.str w) = false := decide_eq_false fun z => cw (V.str.inj z).symm
          rw [ne]
          show wpAny _ _ _ _ _ _
          have hq' : mGo w0 rest D σ H2 rs := by
            have q := hq
            unfold mGo at q
            rwa [if_neg (fun z => cw z.2)] at q
          exact ih I3 hs hq'
    · refine matchSeq_tuple_miss ht fit (by rw [pl, List.size_toArray, hlen]; omega) ?_ star wild
      have hq' : mGo w0 rest D σ H rs := by
        have q := hq
        unfold mGo at q
        rwa [if_neg (fun z => cl z.1)] at q
      exact ih (I.kept (t' := _) fun _ _ e => e) hs hq'
theorem ps_match {e : Expr} {te : TE} {mcs : List MatchCase} {rs : List MCase} {pos : Pos} (hc : X.calm = true) (hN : X.N.Nodup) (he : PE X e te) (h : Cases X mcs rs) : PS X (.Match e mcs pos) (tMatch X.K te rs) := by
  refine ⟨fun pins s σ H D I q => wpAny_Match (thn (he.run pins s σ H _ I q) fun v s1 hv => ?_)⟩
  obtain ⟨x, H1, I1, r1, a, w0, rest, ex, hs, hg⟩ := hv
  subst ex
  cases r1
  exact run_cases hc hN h I1 hs hg
end
end Kw

set_option Elab.async false
set_option linter.all false
set_option maxRecDepth 100000
set_option maxHeartbeats 4000000
namespace Kw
open PySem PySem.Spec PyProof.Rows L2
section
variable {X : Cx}
/-- {item}, an item: a word and a number; some text that is not long -/
def tFmtI (K : PySem.W.Frag) (te : TE) : TE := fun σ H Q => te σ H fun x H1 => ∃ (a : Addr) (w : Str) (i : Int), x = .ref a ∧ SqT K H1 a [.str w, .int i] ∧ w.length ≤ 20 ∧ (∀ c ∈ w.cps.toList, c < 16 ^ 8) ∧ 0 ≤ i ∧ i ≤ 1000 ∧ ∀ m : Str, m.length ≤ 300 → Q (.str m) H1
theorem log2_le {i : Int} (h0 : 0 ≤ i) (h1 : i ≤ 1000) : i.natAbs.log2 < 1920 := by
  have h2 : i.natAbs ≤ 1000 := by omega
  by_cases h3 : i.natAbs = 0
  · rw [h3]; decide
  · have := (Nat.log2_lt h3 (k := 10)).mpr (by omega)
    omega
theorem pe_fmtI {e : Expr} {te : TE} {pos : Pos} {k : Nat} (hr : Room k X.A) (he : PE X e te) : PE X (.FormattedValue e (-1) none pos) (tFmtI X.K te) := by
  refine ⟨fun pins s σ H Q I h => ?_⟩
  refine wpAny_FormattedValue_plain (thn (he.run pins s σ H _ I h) fun v s1 hv => ?_)
  obtain ⟨x, H1, I1, r1, a, w, i, rfl, ht, hw, hc, i0, i1, q⟩ := hv
  cases r1
  obtain ⟨its, rv, ⟨o, ho, hcl, n, hd⟩, _⟩ := I1.tuple ht
  have h1 := StrLaws.reprText_len w hc
  have h2 : (toString i : Str).length ≤ 4 := toString_length_le i0 (k := 4) (by decide) (by omega)
  have hp : piled [reprText w, (toString i : Str)] ≤ 230 := by
    rw [piled_cons, piled_cons, piled_nil]
    omega
  have htx := fmt_text [reprText w, (toString i : Str)]
  have hz : sizeLine ≥ 100000 := by rw [sizeLine_eq]; omega
  have hT : ReprAll X.prog X.w its.toArray.toList [reprText w, (toString i : Str)] := by
    rw [show its.toArray.toList = its by simp]
    cases rv with
    | cons ra rr =>
      cases rr with
      | cons rb rr =>
        cases rr
        obtain ⟨t1, rfl⟩ := ra
        obtain ⟨t2, rfl⟩ := rb
        exact .cons (ReprIs.str w t1 (by omega)) (.cons (ReprIs.int t2 (log2_le i0 i1)) .nil)
  have hu := hr.units
  exact fmt_tuple (by omega) ho hcl hd hT (by omega) fun m u tk hm => ⟨.str m, H1, I1.tok _, ⟨u, rfl⟩, q m (by omega)⟩
end
end Kw

set_option Elab.async false
set_option linter.all false
set_option maxRecDepth 100000
set_option maxHeartbeats 4000000
namespace Kw
open PySem PySem.Spec PyProof.Rows L2
/-! ### sorted over tuples of words, numbers and tuples of these -/
/-- x < y is told: numbers, words, tuples place by place -/
def cmpE : PyData → PyData → Bool
  | .int _, .int _ => true
  | .str _, .str _ => true
  | .tuple [.str _, .int _], .tuple [.str _, .int _] => true
  | _, _ => false
/-- .. of two tuples, at the first place where they differ -/
def topCmp : List PyData → List PyData → Bool
  | x :: xs, y :: ys => if PyData.eqv x y = true then topCmp xs ys else cmpE x y
  | _, _ => true
section
variable {prog : Program} {w : World}
theorem rc_str {A : Around} {s : Shared} (a b : Str) (t u : Tok) : Ob.RcOp .Lt A s (.str a t) (.str b u) (decide (a.cps.toList < b.cps.toList)) := fun _ _ _ _ h => PyProof.Rows.lt_str h
theorem reads_len {h : Heap} : ∀ {vs : List Value} {ds : List PyData} {as : List Addr}, ReadsAll h vs ds as → vs.length = ds.length
  | _, _, _, .nil => rfl
  | _, _, _, .cons _ r => by simp [reads_len r]
/-- x < y -/
theorem lt_reads {A : Around} {s : Shared} {v u : Value} {d e : PyData} {as bs : List Addr} (r1 : Reads s.heap v d as) (r2 : Reads s.heap u e bs) (hu : A.units + 3 < cLine) (h : cmpE d e = true) : ∃ b, Ob.RcOp .Lt A s v u b := by
  unfold cmpE at h
  split at h
  · cases r1
    cases r2
    exact ⟨_, Ob.RcOp.lt_int _ _ _ _⟩
  · cases r1
    cases r2
    exact ⟨_, rc_str _ _ _ _⟩
  · rename_i w1 i1 w2 i2
    cases r1 with
    | @tuple a o vs n _ as1 g1 g2 g3 g4 =>
      cases r2 with
      | @tuple a' o' vs' n' _ as2 k1 k2 k3 k4 =>
        have hv : ∃ t1 t2, vs.toList = [.str w1 t1, .int i1 t2] := by
          generalize vs.toList = l at g4
          cases g4 with
          | cons p1 q1 =>
            cases q1 with
            | cons p2 q2 =>
              cases q2
              cases p1
              cases p2
              exact ⟨_, _, rfl⟩
        have hv' : ∃ t1 t2, vs'.toList = [.str w2 t1, .int i2 t2] := by
          generalize vs'.toList = l at k4
          cases k4 with
          | cons p1 q1 =>
            cases q1 with
            | cons p2 q2 =>
              cases q2
              cases p1
              cases p2
              exact ⟨_, _, rfl⟩
        obtain ⟨t1, t2, e1⟩ := hv
        obtain ⟨t3, t4, e2⟩ := hv'
        obtain rfl : vs = #[.str w1 t1, .int i1 t2] := by rw [← Array.toArray_toList (xs := vs), e1]
        obtain rfl : vs' = #[.str w2 t3, .int i2 t4] := by rw [← Array.toArray_toList (xs := vs'), e2]
        refine ⟨_, Ob.RcOp.tuples_lt (e := fun j => if j = 0 then w1 == w2 else i1 == i2) (r := fun j => if j = 0 then decide (w1.cps.toList < w2.cps.toList) else decide (i1 < i2)) ⟨_, g1, g2, _, g3⟩ ⟨_, k1, k2, _, k3⟩ (by omega) (fun j h1 h2 => ?_) (fun j h1 h2 _ => ?_)⟩
        · match j, h1, h2 with
          | 0, _, _ => exact SeqAt.EqAt.str_str _ _ _ _
          | 1, _, _ => exact SeqAt.EqAt.int_int _ _ _ _
          | j + 2, h1, _ => simp at h1; omega
        · match j, h1, h2 with
          | 0, _, _ => exact rc_str _ _ _ _
          | 1, _, _ => exact Ob.RcOp.lt_int _ _ _ _
          | j + 2, h1, _ => simp at h1; omega
  · cases h
/-- what is sorted: the first place is a word, all may be laid, shallow -/
structure SortD (d : PyData) : Prop where
  ex : ∃ w rest, d = .tuple (.str w :: rest)
  lay : d.canLay0 = true
  dep : d.depth ≤ 10
theorem lex_reads {A : Around} {s : Shared} {b : Bool} (fin : Bool) (hu : A.units + 20 < cLine) : ∀ (xs ys : List PyData) (vs us : List Value) (as bs : List Addr) (i : Nat), ReadsAll s.heap vs xs as → ReadsAll s.heap us ys bs → PyData.canLayAll0 xs = true → PyData.canLayAll0 ys = true → PyData.depthAll xs ≤ 10 →
    topCmp xs ys = true → (i = 0 → ∀ x y xr yr, xs = x :: xr → ys = y :: yr → (∃ w, x = .str w) ∧ ∃ w, y = .str w) → ∃ r, PySem.W.KatLex prog w A b fin (fun r' s' => s' = s ∧ r' = r) (vs.zip us) i s
  | [], ys, vs, us, as, bs, i, h1, h2, _, _, _, _, _ => by
    cases h1
    exact ⟨fin, PySem.W.kat_nil ⟨rfl, rfl⟩⟩
  | x :: xs, [], vs, us, as, bs, i, h1, h2, _, _, _, _, _ => by
    cases h2
    rw [List.zip_nil_right]
    exact ⟨fin, PySem.W.kat_nil ⟨rfl, rfl⟩⟩
  | x :: xs, y :: ys, vs, us, as, bs, i, h1, h2, c1, c2, d1, ht, h0 => by
    cases h1 with
    | @cons v vr _ _ as1 as2 p1 q1 =>
      cases h2 with
      | @cons u ur _ _ bs1 bs2 p2 q2 =>
        simp only [PyData.canLayAll0, Bool.and_eq_true] at c1 c2
        simp only [PyData.depthAll] at d1
        have eq := SeqAt.eqAt_reads x y A s v u as1 bs1 p1 p2 c1.1 c2.1 (by have : min x.depth y.depth ≤ x.depth := Nat.min_le_left _ _; omega)
        unfold topCmp at ht
        cases ce : PyData.eqv x y with
        | true =>
          rw [ce, if_pos rfl] at ht
          obtain ⟨r, hr⟩ := lex_reads (b := b) fin hu xs ys vr ur as2 bs2 (i + 1) q1 q2 c1.2 c2.2 (by omega) ht (fun z => by omega)
          rw [ce] at eq
          exact ⟨r, PySem.W.kat_cons (eq prog w _ _ (PySem.W.kat_yes hr))⟩
        | false =>
          rw [ce, if_neg (by decide)] at ht
          rw [ce] at eq
          cases cb : (b && i == 0) with
          | true =>
            have hi : i = 0 := by
              have := (Bool.and_eq_true_iff.mp cb).2
              simpa using this
            obtain ⟨⟨w1, e1⟩, ⟨w2, e2⟩⟩ := h0 hi x y xs ys rfl rfl
            subst e1 e2
            cases p1
            cases p2
            refine ⟨decide (w1.cps.toList < w2.cps.toList), PySem.W.kat_cons (eq prog w _ _ (PySem.W.kat_no ?_))⟩
            rw [cb]
            exact oneLt_str ⟨rfl, rfl⟩
          | false =>
            obtain ⟨k, hk⟩ := lt_reads (A := A) p1 p2 (by omega) ht
            refine ⟨k, PySem.W.kat_cons (eq prog w _ _ (PySem.W.kat_no ?_))⟩
            rw [cb]
            exact PySem.W.kat_one _ _ (hk prog w _ _ ⟨rfl, rfl⟩)
mutual
theorem reads_keep {h h' : Heap} (k : ∀ b o, h.get? b = some o → o.cls = .type "tuple" → h'.get? b = some o) : ∀ (d : PyData) {v : Value} {as : List Addr}, noL d = true → Reads h v d as → Reads h' v d as
  | .none, _, _, _, r => by cases r; exact .none
  | .bool b, _, _, _, r => by cases r; exact .bool b
  | .int i, _, _, _, r => by cases r; exact .int i _
  | .str x, _, _, _, r => by cases r; exact .str x _
  | .list _, _, _, n, _ => by simp [noL] at n
  | .dict _, _, _, n, _ => by simp [noL] at n
  | .tuple ds, _, _, n, r => by
    cases r with
    | tuple g1 g2 g3 g4 => exact .tuple (k _ _ g1 g2) g2 g3 (reads_keeps k ds (by simpa [noL] using n) g4)
theorem reads_keeps {h h' : Heap} (k : ∀ b o, h.get? b = some o → o.cls = .type "tuple" → h'.get? b = some o) : ∀ (ds : List PyData) {vs : List Value} {as : List Addr}, noLs ds = true → ReadsAll h vs ds as → ReadsAll h' vs ds as
  | [], _, _, _, r => by cases r; exact .nil
  | d :: ds, _, _, n, r => by
    cases r with
    | cons r1 rr =>
      have n' : noL d = true ∧ noLs ds = true := by simpa [noLs] using n
      exact .cons (reads_keep k d n'.1 r1) (reads_keeps k ds n'.2 rr)
end
/-- what is sorted -/
structure Sd (d : PyData) : Prop where
  ex : ∃ w rest, d = .tuple (.str w :: rest)
  lay : d.canLay0 = true
  dep : d.depth ≤ 10
  nol : noL d = true
def itemsD' : PyData → List PyData
  | .tuple ds => ds
  | _ => []
/-- every two of them compare -/
def Cmps (ds : List PyData) : Prop := ∀ d ∈ ds, ∀ e ∈ ds, topCmp (itemsD' d) (itemsD' e) = true
theorem tot_reads {A : Around} {s : Shared} {b : Bool} {vs : List Value} (hu : A.units + 20 < cLine) (P : PyData → Prop) (hP : ∀ d, P d → Sd d) (hc : ∀ d e, P d → P e → topCmp (itemsD' d) (itemsD' e) = true)
    (hv : ∀ v ∈ vs, ∃ d as, P d ∧ Reads s.heap v d as) : Srt.Tot prog w A s (tuples' b) (fun p => p.1 ∈ vs) := by
  intro p q hm hm'
  obtain ⟨d, as, pd, r1⟩ := hv _ hm
  obtain ⟨e, bs, pe, r2⟩ := hv _ hm'
  have s1 := hP d pd
  have s2 := hP e pe
  have c := hc d e pd pe
  obtain ⟨w1, t1, e1⟩ := s1.ex
  obtain ⟨w2, t2, e2⟩ := s2.ex
  have l1 := s1.lay
  have l2 := s2.lay
  have dp := s1.dep
  subst e1 e2
  generalize p.1 = v at *
  generalize q.1 = u at *
  cases r1 with
  | tuple g1 g2 g3 g4 =>
    cases r2 with
    | tuple k1 k2 k3 k4 =>
      simp only [PyData.canLay0] at l1 l2
      simp only [PyData.depth] at dp
      obtain ⟨r, hr⟩ := lex_reads (prog := prog) (w := w) (b := b) _ hu _ _ _ _ _ _ 0 g4 k4 l1 l2 (by omega) c (fun _ x y xr yr ex ey => by
        cases ex
        cases ey
        exact ⟨⟨_, rfl⟩, ⟨_, rfl⟩⟩)
      exact ⟨r, PySem.W.kat_lt g1 g3 k1 k3 hr⟩
theorem firsts_reads {h : Heap} {P : PyData → Prop} (hP : ∀ d, P d → Sd d) : ∀ {vs : List Value}, (∀ v ∈ vs, ∃ d as, P d ∧ Reads h v d as) → ∃ fs : List Value, PySem.W.KatTups h vs fs ∧ fs.length = vs.length ∧ ∀ f ∈ fs, ∃ x t, f = Value.str x t
  | [], _ => ⟨[], PySem.W.KatTups.nil, rfl, fun _ hm => by simp at hm⟩
  | v :: vs, hp => by
    obtain ⟨fs, h1, h2, h3⟩ := firsts_reads hP (vs := vs) fun v' hm => hp v' (List.mem_cons_of_mem _ hm)
    obtain ⟨d, as, pd, r⟩ := hp v List.mem_cons_self
    obtain ⟨w1, t1, e1⟩ := (hP d pd).ex
    subst e1
    cases r with
    | @tuple a o xs n _ _ g1 g2 g3 g4 =>
      obtain ⟨t, rest, e⟩ : ∃ t rest, xs.toList = Value.str w1 t :: rest := by
        generalize xs.toList = l at g4
        cases g4 with
        | cons p1 q1 =>
          cases p1
          exact ⟨_, _, rfl⟩
      have hf : xs[0]? = some (Value.str w1 t) := by rw [← Array.getElem?_toList, e]; rfl
      refine ⟨.str w1 t :: fs, PySem.W.KatTups.cons g1 g2 g3 hf h1, by rw [List.length_cons, List.length_cons, h2], fun f hm => ?_⟩
      rcases List.mem_cons.mp hm with rfl | hm
      · exact ⟨w1, t, rfl⟩
      · exact h3 f hm
theorem sortable_reads {A : Around} {s : Shared} {a : Addr} {vs : List Value} (hu : A.units + 20 < cLine) (h0 : 0 < vs.length) (P : PyData → Prop) (hP : ∀ d, P d → Sd d) (hc : ∀ d e, P d → P e → topCmp (itemsD' d) (itemsD' e) = true)
    (hv : ∀ v ∈ vs, ∃ d as, P d ∧ Reads s.heap v d as) (ha : ∀ o, s.heap.get? a = some o → o.cls ≠ .type "tuple") : Srt.Sortable prog w A s a vs := by
  intro h' keep
  have hv' : ∀ v ∈ vs, ∃ d as, P d ∧ Reads h' v d as := fun v hm => by
    obtain ⟨d, as, pd, r⟩ := hv v hm
    exact ⟨d, as, pd, reads_keep (fun b o e c => keep b o (fun z => by subst z; exact ha o e c) e) d (hP d pd).nol r⟩
  obtain ⟨fs, h1, h2, h3⟩ := firsts_reads hP hv'
  refine ⟨tuples' true, fun Q E hq => ?_, tot_reads (s := { s with heap := h' }) hu P hP hc hv'⟩
  refine PySem.W.kat_kind (T := .type "str") h1 (by omega) (fun f hm => ?_) (by rfl) ?_
  · obtain ⟨x, t, rfl⟩ := h3 f hm
    exact PySem.W.Looks.now
  · have e : (Value.type "str" != Value.type "tuple") = true := by first | decide +kernel | rfl | decide
    rw [e]
    exact hq
end
theorem vals_perm {out its : List Value} (h : out.Perm its) : ∀ {xs : List V}, Vals xs its → ∃ ys, Vals ys out ∧ ys.Perm xs := by
  induction h with
  | nil =>
    intro xs r
    cases r
    exact ⟨[], .nil, List.Perm.refl _⟩
  | cons u _ ih =>
    intro xs r
    cases r with
    | cons r1 rr =>
      obtain ⟨ys, r2, p⟩ := ih rr
      exact ⟨_ :: ys, .cons r1 r2, p.cons _⟩
  | swap u v l =>
    intro xs r
    cases r with
    | cons r1 rr =>
      cases rr with
      | cons r2 rr => exact ⟨_, .cons r2 (.cons r1 rr), List.Perm.swap _ _ _⟩
  | trans _ _ ih1 ih2 =>
    intro xs r
    obtain ⟨ys, r2, p2⟩ := ih2 r
    obtain ⟨zs, r3, p3⟩ := ih1 r2
    exact ⟨zs, r3, p3.trans p2⟩
theorem reads_mem {h : Heap} : ∀ {vs : List Value} {ds : List PyData} {as : List Addr}, ReadsAll h vs ds as → ∀ v ∈ vs, ∃ d as, d ∈ ds ∧ Reads h v d as
  | _, _, _, .nil, v, hv => by cases hv
  | _, _, _, .cons r1 rr, v, hv => by
    rcases List.mem_cons.mp hv with rfl | hv
    · exact ⟨_, _, List.mem_cons_self, r1⟩
    · obtain ⟨d, as, h1, h2⟩ := reads_mem rr v hv
      exact ⟨d, as, List.mem_cons_of_mem _ h1, h2⟩
/-- sorted(l), l a list of tuples of words, numbers and small tuples: the same in some order -/
def rSortD (K : PySem.W.Frag) : List V → Hp → VK → Prop := fun vs H Q => ∃ (a : Addr) (xs : List V) (ds : List PyData), vs = [.ref a] ∧ SqL K H a xs ∧ DpAll K H xs ds ∧ (∀ d ∈ ds, Sd d) ∧ Cmps ds ∧
  ∀ (ys : List V) (p : Addr), ys.Perm xs → H p = none → Q (.ref p) (L2.upd H p (.lst ys))
theorem cr_sortD {X : Cx} (hu : X.A.units + 60 < cLine) : CallR X (.builtin "sorted") (rSortD X.K) := by
  intro pins s σ H vs us Q I r h
  obtain ⟨a, xs, ds, rfl, hs, hd, hS, hC, q⟩ := h
  obtain ⟨its, rv, hl, hz⟩ := I.list hs
  rw [Vals.ref1 r]
  have lx : its.length = xs.length := rv.length.symm
  obtain ⟨as, ra⟩ := Dp.readsAll I ds xs its hd rv
  refine Srt.sorted_any hl.isList (by rw [lx]; exact hz) (fun h2 h1 a' ha' k => ?_) fun out ho => ?_
  · refine sortable_reads (s := { s with heap := h1 }) (by show X.A.units + 1 + 1 + 20 < cLine; omega) (by omega) (fun d => d ∈ ds) hS (fun d e hd he => hC d hd e he) (fun v hv => ?_) fun o e => ?_
    · obtain ⟨d, as, hd1, r1⟩ := reads_mem ra v hv
      exact ⟨d, as, hd1, reads_keep (fun b o e _ => (k b o e).2) d (hS d hd1).nol r1⟩
    · have e' : some o = some (seqObj "list" its.toArray 0) := e.symm.trans ha'
      cases e'
      intro c
      exact absurd (Value.type.inj c) (by decide)
  · obtain ⟨ys, ry, py⟩ := vals_perm ho rv
    obtain ⟨ep, he'⟩ := PyProof.Rows.sortedAll_at s.heap its out.toArray
    have hlen : ys.length ≤ sizeLine := by rw [py.length_eq]; exact hz
    exact ⟨.ref _, L2.upd H (s.heap.objs.size + 1) (.lst ys), I.laid (t' := s.toks) (fun _ _ => PyProof.Rows.sortedAll_old) (Nat.le_succ _) ⟨hlen, out, ep, ry, he'⟩, rfl, q ys _ py (I.hok.fresh (Nat.le_succ _))⟩
end Kw

set_option Elab.async false
set_option linter.all false
set_option maxRecDepth 100000
set_option maxHeartbeats 4000000
/-! o(..), o an instance of a class with an own __call__. -/
namespace Kw
open PySem PySem.Spec PySem.Calls PyProof.Rows L2
section
variable {M : Model} {A : Around} {E : Value → Shared → Prop} {s : Shared} {pos : Pos} {x : Addr} {fs : List Value} {Q : Value → Shared → Prop}
/-- what a plain object's call goes by -/
theorem keeper_plain {h : Heap} {o : Obj} (hx : h.get? x = some o) (hd : o.data = .plain) : PySem.W.Looks M h (keeperOf (.ref x)) .caller :=
  (PySem.W.Looks.ld (part := none) hx).andThen (by simp only [hd]; exact .now)
theorem callWith_obj {as : List (Bool × Sem Value)} {ks : List (Option Str × Sem Value)} (hp : (as.any (·.1) || ks.any (·.1.isNone)) = false)
    (h : wpAny M A (evalArgs (.ref x) true as ks) (fun a s1 => (∃ o, s1.heap.get? x = some o ∧ o.data = .plain) ∧ wpAny M A (call (.ref x) (fs ++ a.pos) a.kw) Q E s1) E s) :
    wpAny M A (callWith pos (.ref x) fs as ks) Q E s := by
  unfold callWith
  refine wpAny_bind (wpAny_holding (wpAny_mono h (fun a s1 ha => ?_) (fun _ _ q => q)))
  obtain ⟨⟨o, ho, hd⟩, hc⟩ := ha
  refine wpAny_bind (wpAny_standAt ?_)
  simp only [hp]
  refine wpAny_bind ((keeper_plain (M := M) ho hd).here ?_)
  refine wpAny_bind (wpAny_operateT (wpAny_mono hc (fun r s2 hr => ?_) (fun _ _ q => q)))
  exact wpAny_bind (wpAny_holding (wpAny_point (wpAny_pure hr)))
end
section
variable {X : Cx} {CX : CXT} {C f : Addr} {fd : FuncData} {k : Nat} {ps : List Str} {sp : Sp} {E : XK} {x : Str} {p pos : Pos} {e : Expr} {es : List Expr} {to : TE} {t : TA}
def tObj (C : Addr) (sp : Sp) (E : XK) (to : TE) (t : TA) : TE := fun σ H Q => to σ H fun v H1 => ∃ a, v = .ref a ∧ t σ H1 fun vs H2 => (∃ dx fs, H2 a = some (.ins C dx fs)) ∧ sp (.ref a :: vs) H2 Q E
theorem pe_callObj (F : FnOk X.prog X.w X.K X.mg X.base CX k f fd ps sp) (hs : PySem.W.findIn X.K (.ref C) "__call__" = some (some (.ref f))) (hf : PySem.W.isFn X.K (.ref f) = true) (hfn : PySem.W.fnIn X.K f = true) (hr : Room k X.A) (hb : Binds X.K fd ps []) (hx : Passes CX X E)
    (ho : PE X (.Name x p) to) (ha : PA X (e :: es) t) (he : starEach (e :: es) X.env = (false, eval e X.env) :: starEach es X.env := by rfl) (hpl : (backTo pos (starEach es X.env)).any (·.1) = false := by rfl) :
    PE X (.Call (.Name x p) (e :: es) [] pos) (tObj C sp E to t) := by
  refine ⟨fun pins s σ H Q I h => ?_⟩
  refine wpAny_Call_Name_kw (thn (ho.run pins s σ H _ I h) fun u s1 hv => ?_)
  obtain ⟨v, H1, I1, rv, a, rfl, q⟩ := hv
  cases rv
  have hA := ha.run pos pins s1 σ H1 _ I1 q
  rw [he] at hA ⊢
  refine callWith_obj (by show ((false || (backTo pos (starEach es X.env)).any (·.1)) || false) = false; rw [hpl]; rfl) (evalArgs_plain (thn hA fun us s2 hu => ?_))
  obtain ⟨vs, H2, I2, r2, ⟨dx, gs, hH⟩, hsp⟩ := hu
  obtain ⟨mA, J, _⟩ := ins_get I2.hok hH
  obtain ⟨od, J, _⟩ := J.look
  refine ⟨⟨_, J.at_, rfl⟩, ?_⟩
  have r3 : Vals (.ref a :: vs) (.ref a :: us) := .cons rfl r2
  have hl : ((Value.ref a :: us) ++ []).length = ps.length := by rw [List.append_nil, ← r3.length]; have := F.len _ _ _ _ hsp; exact this
  refine wpAny_call (PySem.W.kco_code I2.kIn J rfl hs hf hfn (codeAny_mono (F.run X.A X.stack s2 H2 ⟨.ref a :: us, []⟩ ((.ref a :: us) ++ []) (.ref a :: vs) Q E hr I2.env0 (hb s2 (.ref a :: us) I2.kIn hl) (by rw [List.append_nil]; exact r3) hsp) fun r s' hq => ?_))
  cases r with
  | error e => exact hx pins σ H2 s2 e s' I2 hq
  | ok fl =>
    cases fl with
    | ret u => exact I2.after hq
    | next => exact False.elim hq
    | brk => exact False.elim hq
    | cont => exact False.elim hq
end
end Kw

set_option Elab.async false
set_option linter.all false
set_option maxRecDepth 100000
set_option maxHeartbeats 4000000
namespace Kw
open PySem PySem.Spec PyProof.Rows L2
abbrev sWhere : Stmt := top 57
abbrev sSet : Stmt := top 58
abbrev sBar : Stmt := top 59
abbrev sNext : Stmt := top 60
abbrev sDeeds : Stmt := top 61
/-! ### states and items -/
inductive Kd where
  | box | thing | sl
  deriving DecidableEq
def Kd.str : Kd → Str
  | .box => "box"
  | .thing => "thing"
  | .sl => "seal"
def Kd.ix : Kd → Nat
  | .box => 0
  | .thing => 1
  | .sl => 2
def rowOf (d : Hs) : Kd → List Pl
  | .box => d.bs
  | .thing => d.ts
  | .sl => d.ss
def putRow (d : Hs) (k : Kd) (l : List Pl) : Hs := match k with
  | .box => { d with bs := l }
  | .thing => { d with ts := l }
  | .sl => { d with ss := l }
abbrev It := Kd × Nat
def itP (p : It) : PyData := .tuple [.str p.1.str, .int (p.2 : Nat)]
def whereD (d : Hs) (p : It) : Option Pl := (rowOf d p.1)[p.2]?
def setD (d : Hs) (p : It) (q : Pl) : Hs := putRow d p.1 ((rowOf d p.1).set p.2 q)
section
variable {P : Program} {w : World} {K : PySem.W.Frag} {mg : Str → Option Value} {base : Heap}
theorem st_at {H : Hp} {x : V} {d : Hs} (h : Dp K H x (stD d)) : ∃ a v1 v2 v3, x = .ref a ∧ SqT K H a [v1, v2, v3] ∧ Dp K H v1 (plsD d.bs) ∧ Dp K H v2 (plsD d.ts) ∧ Dp K H v3 (plsD d.ss) := by
  cases h with
  | tup hs ha =>
    cases ha with
    | cons d1 r =>
      cases r with
      | cons d2 r =>
        cases r with
        | cons d3 r =>
          cases r
          exact ⟨_, _, _, _, rfl, hs, d1, d2, d3⟩
theorem it_at {H : Hp} {x : V} {p : It} (h : Dp K H x (itP p)) : ∃ a, x = .ref a ∧ SqT K H a [.str p.1.str, .int (p.2 : Nat)] := by
  cases h with
  | tup hs ha =>
    cases ha with
    | cons d1 r =>
      cases r with
      | cons d2 r =>
        cases r
        cases d1
        cases d2
        exact ⟨_, rfl, hs⟩
theorem row_at {H : Hp} {v1 v2 v3 : V} {d : Hs} (h1 : Dp K H v1 (plsD d.bs)) (h2 : Dp K H v2 (plsD d.ts)) (h3 : Dp K H v3 (plsD d.ss)) (k : Kd) : ∃ v, atI [v1, v2, v3] (k.ix : Nat) = some v ∧ Dp K H v (plsD (rowOf d k)) := by
  cases k
  · exact ⟨v1, rfl, h1⟩
  · exact ⟨v2, rfl, h2⟩
  · exact ⟨v3, rfl, h3⟩
def kdL : List V := [.str ("box" : Str), .str ("thing" : Str), .str ("seal" : Str)]
theorem kd_find (k : Kd) : ∃ z, kdL[k.ix]? = some z ∧ eqV z (.str k.str) = true ∧ ∀ (m : Nat) (z' : V), m < k.ix → kdL[m]? = some z' → eqV z' (.str k.str) = false := by
  cases k
  · exact ⟨_, rfl, by decide +kernel, fun m z' h => absurd h (by simp [Kd.ix])⟩
  · refine ⟨_, rfl, by decide +kernel, fun m z' h e => ?_⟩
    have : m = 0 := by simp [Kd.ix] at h; exact h
    subst this
    cases e
    decide +kernel
  · refine ⟨_, rfl, by decide +kernel, fun m z' h e => ?_⟩
    have : m = 0 ∨ m = 1 := by simp [Kd.ix] at h; omega
    rcases this with rfl | rfl <;> (cases e; decide +kernel)
/-! ### _law_where -/
def spWhere (K : PySem.W.Frag) : Sp := fun vs H Q _ => ∃ (x y : V) (d : Hs) (p : It) (q : Pl), vs = [x, y] ∧ Dp K H x (stD d) ∧ Dp K H y (itP p) ∧ whereD d p = some q ∧ ∀ v H', Same H H' → Dp K H' v (plD q) → Q v H'
theorem scWhere : FnScope ["_law_state", "_law_item"] ["_law_state", "_law_item"] (defScope sWhere) := ⟨rfl, rfl, rfl, by decide +kernel, rfl, by decide +kernel, by decide +kernel⟩
theorem ok_where {f : Addr} {fd : FuncData} (F : Fun K "_law_where" "_law_where" sWhere f fd) (B : Bt mg) : FnOk P w K mg base CX0 1 f fd ["_law_state", "_law_item"] (spWhere K) := by
  refine F.ok scWhere (fun vs H Q E h => ?_) (fun cdv A outer s H vs Q E hr h => ?_)
  · obtain ⟨x, y, d, p, q, rfl, _⟩ := h
    rfl
  · obtain ⟨x, y, d, p, q, rfl, hx, hy, hw, k⟩ := h
    obtain ⟨a, v1, v2, v3, rfl, sa, d1, d2, d3⟩ := st_at hx
    obtain ⟨b, rfl, sb⟩ := it_at hy
    obtain ⟨vr, hr1, dr⟩ := row_at d1 d2 d3 p.1
    obtain ⟨ar, xr, rfl, sr, dlr, lr⟩ := pls_at dr
    obtain ⟨vq, hq1, hq2⟩ := DpAll.at2 dlr (i := p.2) (d := plD q) (by rw [List.getElem?_map]; unfold whereD at hw; rw [hw]; rfl)
    obtain ⟨z, z1, z2, z3⟩ := kd_find p.1
    refine ⟨_, pss_one (ps_ret (pe_ix ix_tup (pe_ix ix_tup (pv 0) (pe_bm PySem.F.plainAttrs_list PySem.F.slot_list_index PySem.F.type_list_index mt_index (pe_lst (pa_cons pe_str (pa_cons pe_str (pa_cons pe_str pa_nil)))) (pa_cons (pe_ix ix_tup (pv 1) pe_int (fun _ _ => rfl)) pa_nil)) (fun _ _ => rfl)) (pe_ix ix_tup (pv 1) pe_int (fun _ _ => rfl)) (fun _ _ => rfl))), ?_⟩
    refine ⟨_, rfl, (by show 3 ≤ sizeLine; decide), fun L hL => ?_⟩
    have e1 := same_upd (o := HO.lst [V.str ("box" : Str), .str ("thing" : Str), .str ("seal" : Str)]) hL
    refine ⟨.inl ⟨rfl, _, SqL.of upd_same⟩, _, rfl, b, _, 0, _, rfl, rfl, SqT.same e1 sb, rfl, L, kdL, _, p.1.ix, z, rfl, rfl, SqL.of upd_same, rfl, rfl, z1, z2, z3, a, _, _, _, rfl, rfl, SqT.same e1 sa, hr1, _, rfl, b, _, 1, _, rfl, rfl, SqT.same e1 sb, rfl, ar, xr, _, vq, rfl, rfl, SqT.same e1 sr, atI_nat hq1, ?_⟩
    exact k _ _ e1 (Dp.same e1 _ _ hq2)
theorem nl_updL {H : Hp} {D : Addr} {xs ys : List V} (hD : H D = some (.lst xs)) : Nl H (L2.upd H D (.lst ys)) := fun a o h n _ => by
  rw [upd_ne (ne_of h hD (n _))]
  exact h
theorem DpAll.set {H : Hp} : ∀ {vs : List V} {ds : List PyData} {i : Nat} {x : V} {e : PyData}, DpAll K H vs ds → Dp K H x e → DpAll K H (vs.set i x) (ds.set i e)
  | _, _, _, _, _, .nil, _ => .nil
  | _, _, 0, _, _, .cons _ t, h => .cons h t
  | _, _, i + 1, _, _, .cons h0 t, h => .cons h0 (DpAll.set (i := i) t h)
/-! ### _law_set -/
def rows3 (d : Hs) : List (List Pl) := [d.bs, d.ts, d.ss]
def spSet (K : PySem.W.Frag) : Sp := fun vs H Q _ => ∃ (x y z : V) (d : Hs) (p : It) (q : Pl), vs = [x, y, z] ∧ Dp K H x (stD d) ∧ Dp K H y (itP p) ∧ Dp K H z (plD q) ∧ p.2 < (rowOf d p.1).length ∧ ∀ v H', Same H H' → StF K H' v (setD d p q) → Q v H'
theorem scSet : FnScope ["_law_state", "_law_item", "_law_place", "_law_rows", "_law_row"] ["_law_state", "_law_item", "_law_place"] (defScope sSet) := ⟨rfl, rfl, rfl, by decide +kernel, rfl, by decide +kernel, by decide +kernel⟩
theorem rows_set (d : Hs) (p : It) (q : Pl) : rows3 (setD d p q) = (rows3 d).set p.1.ix ((rowOf d p.1).set p.2 q) := by
  obtain ⟨k, n⟩ := p
  cases k <;> rfl
theorem rows_get (d : Hs) (k : Kd) : (rows3 d)[k.ix]? = some (rowOf d k) := by cases k <;> rfl
theorem ok_set {f : Addr} {fd : FuncData} (F : Fun K "_law_set" "_law_set" sSet f fd) (B : Bt mg) : FnOk P w K mg base CX0 1 f fd ["_law_state", "_law_item", "_law_place"] (spSet K) := by
  refine F.ok scSet (fun vs H Q E h => ?_) (fun cdv A outer s H vs Q E hr h => ?_)
  · obtain ⟨x, y, z, d, p, q, rfl, _⟩ := h
    rfl
  · obtain ⟨x, y, z, d, p, q, rfl, hx, hy, hz, hw, k⟩ := h
    obtain ⟨a, v1, v2, v3, rfl, sa, d1, d2, d3⟩ := st_at hx
    obtain ⟨b, rfl, sb⟩ := it_at hy
    obtain ⟨zk, z1, z2, z3⟩ := kd_find p.1
    refine ⟨_, pss_cons (ps_setLc (i := 3) (own := [("_law_row", 4)]) (g := gName 4) (tt := tYes) (te := tCB (fun xs H Q => ∃ p ys, xs = [V.ref p] ∧ (SqL K H p ys ∨ SqT K H p ys) ∧ ∀ l, H l = none → Q (.ref l) (upd H l (.lst ys))) (tCons (tVar 4) tNil)) rfl scSet.nd rfl rfl (sw_true rfl rfl rfl (by decide +kernel)) (pi_tup (pv 0))
        (blkOk_by (own := [("_law_row", 4)]) (N := ["_law_state", "_law_item", "_law_place", "_law_rows", "_law_row"]) (sc := defScope sSet) (by decide +kernel)) (fun _ _ _ _ _ => pg_name (i := 4) scSet.nd rfl (.inl rfl)) (fun _ _ _ _ _ => pts_nil)
        (fun _ _ _ _ _ => pe_callTy call_list_of (by rfl) B.lst (by decide +kernel) (pa_cons (pv 4) pa_nil)))
      (pss_cons (ps_asg (pv 2) (pg_sub (pe_ix ix_list (pv 3) (pe_bm PySem.F.plainAttrs_list PySem.F.slot_list_index PySem.F.type_list_index mt_index (pe_lst (pa_cons pe_str (pa_cons pe_str (pa_cons pe_str pa_nil)))) (pa_cons (pe_ix ix_tup (pv 1) pe_int (fun _ _ => rfl)) pa_nil)) (fun _ _ => rfl)) (pe_ix ix_tup (pv 1) pe_int (fun _ _ => rfl)) set_list))
      (pss_one (ps_ret (pe_callTy call_tuple_of (by rfl) B.tup (by decide +kernel) (pa_cons (pe_lc (own := [("_law_row", 4)]) (g := gName 4) (tt := tYes) (te := tCB (fun xs H Q => ∃ p ys, xs = [V.ref p] ∧ SqL K H p ys ∧ ∀ (l : Addr) (o : Obj), H l = none → o.cls = .type "tuple" → o.dict = none → Q (V.ref l) (upd H l (.frz o (.tup ys)))) (tCons (tVar 4) tNil)) rfl scSet.nd (pi_list (pv 3))
        (blkOk_by (own := [("_law_row", 4)]) (N := ["_law_state", "_law_item", "_law_place", "_law_rows", "_law_row"]) (sc := defScope sSet) (by decide +kernel)) (fun _ _ _ _ _ => pg_name (i := 4) scSet.nd rfl (.inl rfl)) (fun _ _ _ _ _ => pts_nil)
        (fun _ _ _ _ _ => pe_callTy call_tupleF (by rfl) B.tup (by decide +kernel) (pa_cons (pv 4) pa_nil))) pa_nil))))), ?_⟩
    have ilen : ∀ (j : Nat) (v : V), [v1, v2, v3][j]? = some v → ∃ l, (rows3 d)[j]? = some l ∧ Dp K H v (plsD l) := fun j v e => by
      match j, e with
      | 0, e => cases e; exact ⟨_, rfl, d1⟩
      | 1, e => cases e; exact ⟨_, rfl, d2⟩
      | 2, e => cases e; exact ⟨_, rfl, d3⟩
      | j + 3, e => simp at e
    -- rows = [list(row) for row in state]
    refine ⟨_, rfl, a, rfl, ⟨_, sa⟩, fun Dl hD => ?_⟩
    have e0 : ∀ (H' : Hp) (o : HO), Same H H' → Same H (L2.upd H' Dl o) := fun H' o e c u h => by rw [upd_ne (ne_of_none h hD)]; exact e c u h
    refine lc_tup (K := K) (a := a) (xs := [v1, v2, v3]) (fun i H' => Same H H' ∧ ∃ ls : List (Addr × List V), H' Dl = some (.lst (ls.map fun x => V.ref x.1)) ∧ ls.length = i ∧
        (∀ (j : Nat) x, ls[j]? = some x → H' x.1 = some (.lst x.2) ∧ x.1 ≠ Dl ∧ H x.1 = none ∧ ∃ l, (rows3 d)[j]? = some l ∧ DpAll K H' x.2 (l.map plD)) ∧ (∀ (j k : Nat) x y, ls[j]? = some x → ls[k]? = some y → j ≠ k → x.1 ≠ y.1))
      ⟨same_upd hD, [], upd_same, rfl, fun j x e => by simp at e, fun j k x y e => by simp at e⟩ (fun i H' _ ⟨e, _⟩ => SqT.same e sa) ?_ ?_
    · rintro i y H' hi ⟨e, ls, hls, ll, hall, hdis⟩
      obtain ⟨l, hl1, hl2⟩ := ilen i y hi
      obtain ⟨ar, xr, rfl, sr, dr, lr⟩ := pls_at hl2
      refine ⟨wipe_one _ 4 _, yes_lc ?_⟩
      refine ⟨_, rfl, ar, xr, rfl, .inr (SqT.same e sr), fun pn hpn => ?_⟩
      have nDp : Dl ≠ pn := ne_of_none hls hpn
      have f1 := same_upd (o := HO.lst xr) hpn
      have hls1 := f1 _ _ hls
      have i3 : i < 3 := (List.getElem?_eq_some_iff.mp hi).1
      refine ⟨ls.map fun x => V.ref x.1, hls1, by rw [sizeLine_eq, List.length_map]; omega, e0 _ _ (e.trans f1), ls ++ [(pn, xr)], ?_, by rw [List.length_append, ll]; rfl, fun j x hx => ?_, fun j k x y hx hy hjk => ?_⟩
      · rw [List.map_append]
        exact upd_same
      · have tp := tp_lst (o := HO.lst ((ls.map fun x => V.ref x.1) ++ [V.ref pn])) hls1
        by_cases c : j < ls.length
        · rw [List.getElem?_append_left c] at hx
          obtain ⟨g1, g2, g3, l', g4, g5⟩ := hall j x hx
          exact ⟨by rw [upd_ne g2]; exact f1 _ _ g1, g2, g3, l', g4, Dp.tps tp _ _ (noLs_map _ noL_pl _) (Dp.sames f1 _ _ g5)⟩
        · have ej : j = ls.length := by
            have := (List.getElem?_eq_some_iff.mp hx).1
            simp at this
            omega
          subst ej
          rw [List.getElem?_append_right (Nat.le_refl _), Nat.sub_self] at hx
          have ex : (pn, xr) = x := by simpa using hx
          subst ex
          refine ⟨by rw [upd_ne nDp.symm]; exact upd_same, nDp.symm, ?_, l, by rw [ll]; exact hl1, Dp.tps tp _ _ (noLs_map _ noL_pl _) (Dp.sames (e.trans f1) _ _ dr)⟩
          cases hq : H pn with
          | none => rfl
          | some u =>
            have := e _ _ hq
            rw [hpn] at this
            cases this
      · have old : ∀ (j : Nat) x, ls[j]? = some x → x.1 ≠ pn := fun j x hx => ne_of_none (hall j x hx).1 hpn
        have last : ∀ (j : Nat) (x : Addr × List V), (ls ++ [(pn, xr)])[j]? = some x → (ls[j]? = some x) ∨ (j = ls.length ∧ x.1 = pn) := fun j x hx => by
          by_cases c : j < ls.length
          · rw [List.getElem?_append_left c] at hx
            exact .inl hx
          · have ej : j = ls.length := by
              have := (List.getElem?_eq_some_iff.mp hx).1
              simp at this
              omega
            subst ej
            rw [List.getElem?_append_right (Nat.le_refl _), Nat.sub_self] at hx
            have ex : (pn, xr) = x := by simpa using hx
            exact .inr ⟨rfl, by rw [← ex]⟩
        rcases last j x hx with h1 | ⟨h1, h1'⟩ <;> rcases last k y hy with h2 | ⟨h2, h2'⟩
        · exact hdis j k x y h1 h2 hjk
        · rw [h2']
          exact old j x h1
        · rw [h1']
          exact (old k y h2).symm
        · exact absurd (h1.trans h2.symm) hjk
    rintro H3 ⟨e3, ls, hls, ll, hall, hdis⟩
    have ll : ls.length = 3 := ll
    -- rows[..][..] = place
    obtain ⟨⟨pr, lr⟩, hpr⟩ : ∃ x, ls[p.1.ix]? = some x := ⟨_, List.getElem?_eq_getElem (by rw [ll]; cases p.1 <;> decide)⟩
    obtain ⟨g1, g2, g3, l, g4, g5⟩ := hall _ _ hpr
    rw [rows_get] at g4
    cases g4
    have lrl : lr.length = (rowOf d p.1).length := by rw [DpAll.len g5, List.length_map]
    refine ⟨_, rfl, _, rfl, (by show 3 ≤ sizeLine; decide), fun L hL => ?_⟩
    have e4 := same_upd (o := HO.lst [V.str ("box" : Str), .str ("thing" : Str), .str ("seal" : Str)]) hL
    have sb4 := SqT.same (e3.trans e4) sb
    have hls4 := e4 _ _ hls
    have g14 := e4 _ _ g1
    refine ⟨.inl ⟨rfl, _, SqL.of upd_same⟩, _, rfl, b, _, 0, _, rfl, rfl, sb4, rfl, L, kdL, _, p.1.ix, zk, rfl, rfl, SqL.of upd_same, rfl, rfl, z1, z2, z3, Dl, _, _, V.ref pr, rfl, rfl, SqL.of hls4, atI_nat (by rw [List.getElem?_map, hpr]; rfl), _, rfl, b, _, 1, _, rfl, rfl, sb4, rfl, pr, lr, _, p.2, rfl, rfl, g14, ?_, ?_⟩
    · unfold ixN
      rw [if_pos (by omega), if_pos (by omega)]
      rfl
    have nl5 := nl_updL (ys := lr.set p.2 z) g14
    have e5 : Same H (L2.upd (L2.upd H3 L (.lst [V.str ("box" : Str), .str ("thing" : Str), .str ("seal" : Str)])) pr (.lst (lr.set p.2 z))) := fun c u hc => by
      rw [upd_ne (ne_of_none hc g3)]
      exact e4 _ _ (e3 _ _ hc)
    have hls5 : (L2.upd (L2.upd H3 L (.lst [V.str ("box" : Str), .str ("thing" : Str), .str ("seal" : Str)])) pr (.lst (lr.set p.2 z))) Dl = some (.lst (ls.map fun x => V.ref x.1)) := by rw [upd_ne g2.symm]; exact hls4
    have h5 : ∀ (j : Nat) x, ls[j]? = some x → ∃ ys l, (L2.upd (L2.upd H3 L (.lst [V.str ("box" : Str), .str ("thing" : Str), .str ("seal" : Str)])) pr (.lst (lr.set p.2 z))) x.1 = some (.lst ys) ∧ (rows3 (setD d p q))[j]? = some l ∧ DpAll K (L2.upd (L2.upd H3 L (.lst [V.str ("box" : Str), .str ("thing" : Str), .str ("seal" : Str)])) pr (.lst (lr.set p.2 z))) ys (l.map plD) := fun j x hx => by
      have trans5 : ∀ (vs : List V) (m : List Pl), DpAll K H3 vs (m.map plD) → DpAll K (L2.upd (L2.upd H3 L (.lst [V.str ("box" : Str), .str ("thing" : Str), .str ("seal" : Str)])) pr (.lst (lr.set p.2 z))) vs (m.map plD) := fun vs m hm => Dp.nls nl5 _ _ (noLs_map _ noL_pl _) (Dp.sames e4 _ _ hm)
      by_cases c : j = p.1.ix
      · subst c
        rw [hpr] at hx
        cases hx
        refine ⟨_, (rowOf d p.1).set p.2 q, upd_same, ?_, ?_⟩
        · rw [rows_set, List.getElem?_set_self (List.getElem?_eq_some_iff.mp (rows_get d p.1)).1]
        · rw [List.map_set]
          exact DpAll.set (trans5 _ _ g5) (Dp.same e5 _ _ hz)
      · obtain ⟨k1, k2, k3, l', k4, k5⟩ := hall j x hx
        refine ⟨x.2, l', ?_, ?_, trans5 _ _ k5⟩
        · rw [upd_ne (hdis j p.1.ix x (pr, lr) hx hpr c)]
          exact e4 _ _ k1
        · rw [rows_set, List.getElem?_set_ne (fun z => c z.symm)]
          exact k4
    generalize L2.upd (L2.upd H3 L (.lst [V.str ("box" : Str), .str ("thing" : Str), .str ("seal" : Str)])) pr (.lst (lr.set p.2 z)) = H5 at *
    -- tuple([tuple(row) for row in rows])
    refine ⟨_, rfl, Dl, rfl, ⟨_, SqL.of hls5⟩, fun D2 hD2 => ?_⟩
    have e02 : ∀ (H' : Hp) (o : HO), Same H5 H' → Same H5 (L2.upd H' D2 o) := fun H' o e c u h => by rw [upd_ne (ne_of_none h hD2)]; exact e c u h
    refine lc_list (K := K) (a := Dl) (xs := ls.map fun x => V.ref x.1) (fun i H' => Same H5 H' ∧ ∃ ts : List V, H' D2 = some (.lst ts) ∧ DpAll K H' ts (((rows3 (setD d p q)).take i).map plsD) ∧ ts.length = i ∧ ∀ v ∈ ts, Fv H' v)
      ⟨same_upd hD2, [], upd_same, .nil, rfl, fun v z => nomatch z⟩ (fun i H' _ ⟨e, _⟩ => SqL.of (e _ _ hls5)) ?_ ?_
    · rintro i y H' hi ⟨e, ts, hts, dts, lts, fts⟩
      obtain ⟨x, hx⟩ : ∃ x, ls[i]? = some x := by
        rw [List.getElem?_map] at hi
        cases hq : ls[i]? with
        | none => rw [hq] at hi; cases hi
        | some x => exact ⟨x, rfl⟩
      have ey : V.ref x.1 = y := by
        rw [List.getElem?_map, hx] at hi
        exact Option.some.inj hi
      subst ey
      obtain ⟨ys, l, m1, m2, m3⟩ := h5 i x hx
      have i3 : i < 3 := by rw [← ll]; exact (List.getElem?_eq_some_iff.mp hx).1
      refine ⟨wipe_one _ 4 _, yes_lc ?_⟩
      refine ⟨_, rfl, x.1, ys, rfl, SqL.of (e _ _ m1), fun t o ht oc od => ?_⟩
      have f1 := same_upd (o := HO.frz o (.tup ys)) ht
      have hts1 := f1 _ _ hts
      have tp := tp_lst (o := HO.lst (ts ++ [V.ref t])) hts1
      refine ⟨ts, hts1, by rw [sizeLine_eq]; omega, e02 _ _ (e.trans f1), ts ++ [V.ref t], upd_same, ?_, by rw [List.length_append, lts]; rfl, ?_⟩
      rotate_left
      · intro v hv
        have nlx := nl_updL (ys := ts ++ [V.ref t]) hts1
        rcases List.mem_append.mp hv with hv | hv
        · exact ((fts v hv).nl fun a o h _ _ => f1 a o h).nl nlx
        · have ev : v = .ref t := by simpa using hv
          subst ev
          exact Fv.nl nlx ⟨t, ys, rfl, o, upd_same, oc, od⟩
      have et : ((rows3 (setD d p q)).take (i + 1)).map plsD = ((rows3 (setD d p q)).take i).map plsD ++ [plsD l] := by
        rw [List.take_add_one, m2]
        simp
      rw [et]
      refine DpAll.app (Dp.tps tp _ _ (noLs_map _ noL_pls _) (Dp.sames f1 _ _ dts)) (.cons (Dp.tp tp _ _ (noL_pls _) ?_) .nil)
      exact .tup (Fz.sq ⟨o, upd_same, oc, od⟩) (Dp.sames (e.trans f1) _ _ m3)
    · rintro H6 ⟨e6, ts, hts, dts, lts, fts⟩
      rw [List.length_map, ll] at dts
      refine ⟨D2, ts, rfl, .inl ⟨SqL.of hts, fun r hr => ?_⟩⟩
      have l3 : ts.length = 3 := by rw [lts, List.length_map, ll]
      obtain ⟨t1, t2, t3, et⟩ : ∃ t1 t2 t3, ts = [t1, t2, t3] := by
        match ts, l3 with
        | [t1, t2, t3], _ => exact ⟨t1, t2, t3, rfl⟩
      subst et
      have dd := Dp.sames (same_upd (o := HO.tup [t1, t2, t3]) hr) _ _ dts
      cases dd with
      | cons x1 dd =>
        cases dd with
        | cons x2 dd =>
          cases dd with
          | cons x3 dd =>
            exact k _ _ ((e5.trans e6).trans (same_upd hr)) ⟨_, t1, t2, t3, rfl, SqT.of upd_same, x1, x2, x3, (fts t3 (by simp)).nl fun a o h _ _ => same_upd hr a o h⟩
end
end Kw

set_option Elab.async false
set_option linter.all false
set_option maxRecDepth 100000
set_option maxHeartbeats 4000000
namespace Kw
open PySem PySem.Spec PyProof.Rows L2
/-! ### deeds -/
inductive Dd where
  | give (h : Nat) (p : It) (o : Nat)
  | put (h : Nat) (p : It) (b : Nat)
  | take (h : Nat) (p : It) (b : Nat)
  | lock (h b s : Nat)
  | brk (h b : Nat)
def Dd.word : Dd → Str
  | .give .. => "give"
  | .put .. => "put"
  | .take .. => "take"
  | .lock .. => "seal"
  | .brk .. => "break"
def Dd.hand : Dd → Nat
  | .give h _ _ => h
  | .put h _ _ => h
  | .take h _ _ => h
  | .lock h _ _ => h
  | .brk h _ => h
def Dd.tail : Dd → List PyData
  | .give _ p o => [itP p, .int (o : Nat)]
  | .put _ p b => [itP p, .int (b : Nat)]
  | .take _ p b => [itP p, .int (b : Nat)]
  | .lock _ b s => [.int (b : Nat), .int (s : Nat)]
  | .brk _ b => [.int (b : Nat)]
def ddD (e : Dd) : PyData := .tuple (.str e.word :: .int (e.hand : Nat) :: e.tail)
/-- what the deed names is there -/
def Kn (d : Hs) : Dd → Prop
  | .give _ p _ => (whereD d p).isSome
  | .put _ p b => (whereD d p).isSome ∧ b < d.bs.length
  | .take _ p b => (whereD d p).isSome ∧ b < d.bs.length
  | .lock _ b s => b < d.bs.length ∧ s < d.ss.length
  | .brk _ b => b < d.bs.length
def barOf (d : Hs) : Dd → Str
  | .give h p _ => if whereD d p = some (.hand, (h : Int)) then "" else "NotHeld"
  | .put h p b => if whereD d (.box, b) = some (.hand, (h : Int)) then (if whereD d p = some (.hand, (h : Int)) then (if (.box, (b : Int)) ∈ d.ss then "IsSealed" else "") else "NotHeld") else "NotHeld"
  | .take h p b => if whereD d (.box, b) = some (.hand, (h : Int)) then (if (.box, (b : Int)) ∈ d.ss then "IsSealed" else if whereD d p = some (.box, (b : Int)) then "" else "NotInside") else "NotHeld"
  | .lock h b s => if whereD d (.box, b) = some (.hand, (h : Int)) then (if d.ss[s]? = some (.hand, (h : Int)) then (if (.box, (b : Int)) ∈ d.ss then "IsSealed" else "") else "NotHeld") else "NotHeld"
  | .brk h b => if whereD d (.box, b) = some (.hand, (h : Int)) then (if (.box, (b : Int)) ∈ d.ss then "" else "NotSealed") else "NotHeld"
section
variable {P : Program} {w : World} {K : PySem.W.Frag} {mg : Str → Option Value} {base : Heap}
theorem wNe {σ : L2.St} {H : Hp} {Q : Bool → Hp → Prop} {A : TE} {x y z : V} {d : Hs} {p : It} {q q2 : Pl} {j : Nat} (h0 : σ[0]? = some (some x)) (hx : Dp K H x (stD d)) (hA : ∀ R : V → Hp → Prop, R y H → A σ H R) (hy : Dp K H y (itP p)) (hw : whereD d p = some q) (hj : σ[j]? = some (some z)) (hz : Dp K H z (plD q2))
    (k : ∀ H', Same H H' → Q (!decide (q = q2)) H') : tTest (tOp (rNeD K) (tCall (spWhere K) [] E0 (tCons (tVar 0) (tCons A tNil))) (tVar j)) σ H Q :=
  ⟨_, h0, hA _ ⟨x, y, d, p, q, rfl, hx, hy, hw, fun v H' e dv => ⟨_, hj, plD q, plD q2, dv, Dp.same e _ _ hz, shaped_pl _, shaped_pl _, _, rfl, by rw [eqv_pl]; exact k H' e⟩⟩⟩
theorem wEq {σ : L2.St} {H : Hp} {Q : Bool → Hp → Prop} {A : TE} {x y z : V} {d : Hs} {p : It} {q q2 : Pl} {j : Nat} (h0 : σ[0]? = some (some x)) (hx : Dp K H x (stD d)) (hA : ∀ R : V → Hp → Prop, R y H → A σ H R) (hy : Dp K H y (itP p)) (hw : whereD d p = some q) (hj : σ[j]? = some (some z)) (hz : Dp K H z (plD q2))
    (k : ∀ H', Same H H' → Q (decide (q = q2)) H') : tTest (tOp (rEqD K) (tCall (spWhere K) [] E0 (tCons (tVar 0) (tCons A tNil))) (tVar j)) σ H Q :=
  ⟨_, h0, hA _ ⟨x, y, d, p, q, rfl, hx, hy, hw, fun v H' e dv => ⟨_, hj, plD q, plD q2, dv, Dp.same e _ _ hz, shaped_pl _, shaped_pl _, _, rfl, by rw [eqv_pl]; exact k H' e⟩⟩⟩
theorem dd_at {H : Hp} {y : V} {e : Dd} (h : Dp K H y (ddD e)) : ∃ a vs, y = .ref a ∧ SqT K H a (.str e.word :: .int (e.hand : Nat) :: vs) ∧ DpAll K H vs e.tail := by
  cases h with
  | tup hs ha =>
    cases ha with
    | cons h1 r =>
      cases r with
      | cons h2 r =>
        cases h1
        cases h2
        exact ⟨_, _, rfl, hs, r⟩
theorem where_box {d : Hs} {b : Nat} (h : b < d.bs.length) : ∃ q, whereD d (.box, b) = some q := ⟨_, List.getElem?_eq_getElem h⟩
theorem anyIn (p : Pl) (l : List Pl) : (l.any fun q => decide (q = p)) = decide (p ∈ l) := by
  induction l with
  | nil => simp
  | cons a l ih =>
    rw [List.any_cons, ih]
    by_cases h1 : a = p <;> by_cases h2 : p ∈ l <;> simp [h1, h2, eq_comm]
    · intro h3; exact h1 h3.symm
def spBar (K : PySem.W.Frag) : Sp := fun vs H Q _ => ∃ (x y : V) (d : Hs) (e : Dd), vs = [x, y] ∧ Dp K H x (stD d) ∧ Dp K H y (ddD e) ∧ Kn d e ∧ ∀ H', Same H H' → Q (.str (barOf d e)) H'
theorem scBar : FnScope ["_law_state", "_law_deed", "_law_word", "_law_hand", "_law_mine", "_law_target"] ["_law_state", "_law_deed"] (defScope sBar) := ⟨rfl, rfl, rfl, by decide +kernel, rfl, by decide +kernel, by decide +kernel⟩
theorem ok_bar {f g : Addr} {fd fdg : FuncData} (F : Fun K "_law_bar" "_law_bar" sBar f fd) (B : Bt mg) (G : FnOk P w K mg base CX0 1 g fdg ["_law_state", "_law_item"] (spWhere K)) (mG : mg "_law_where" = some (.ref g)) (kG : PySem.W.keepIn K (.ref g) = true) (bG : Binds K fdg ["_law_state", "_law_item"] []) :
    FnOk P w K mg base CX0 2 f fd ["_law_state", "_law_deed"] (spBar K) := by
  refine F.ok scBar (fun vs H Q E h => ?_) (fun cdv A outer s H vs Q E hr h => ?_)
  · obtain ⟨x, y, d, e, rfl, _⟩ := h
    rfl
  · obtain ⟨x, y, d, e, rfl, hx, hy, hk, k⟩ := h
    have hu : (cxOf CX0 P w K mg base ["_law_state", "_law_deed", "_law_word", "_law_hand", "_law_mine", "_law_target"] "_law_bar" (defScope sBar) f cdv A outer s H E).nox.A.units + 64 < cLine := by have := hr.un; show (A.deeper _).units + 64 < cLine; omega
    have hu65 : (cxOf CX0 P w K mg base ["_law_state", "_law_deed", "_law_word", "_law_hand", "_law_mine", "_law_target"] "_law_bar" (defScope sBar) f cdv A outer s H E).nox.A.units + 65 < cLine := by have := hr.un; show (A.deeper _).units + 65 < cLine; omega
    refine ⟨_, pss_cons (ps_asg (pe_slice sl_tupA (pv 1) po_none (po_some pe_int)) (pg_tup (by rfl) (pgs_cons (pg_name (i := 2) scBar.nd rfl (.inl rfl)) (pgs_cons (pg_name (i := 3) scBar.nd rfl (.inl rfl)) pgs_nil))))
      (pss_cons (ps_par (i := 4) (j := 5) rfl scBar.nd rfl rfl (by decide) rfl rfl (pa_cons (pe_tup (pa_cons pe_str (pa_cons (pv 3) pa_nil))) (pa_cons (pe_tup (pa_cons pe_str (pa_cons (pe_ifExp (pt_cmpR op_in_seq (pv 2) (pe_tup (pa_cons pe_str (pa_cons pe_str pa_nil))) (by rfl)) (pe_ix ix_tup (pv 1) pe_int (fun _ _ => rfl)) (pe_ix ix_tup (pv 1) pe_int (fun _ _ => rfl))) pa_nil))) pa_nil)) (by rfl))
      (pss_cons (ps_if (pt_cmpR op_eq (pv 2) pe_str (nomark _)) (pss_one (ps_ret (pe_ifExp (pt_cmpR (op_eqD hu) (pe_call G hr rfl mG kG bG .nil pass0 (pa_cons (pv 0) (pa_cons (pe_ix ix_tup (pv 1) pe_int (fun _ _ => rfl)) pa_nil))) (pv 4) (nomark _)) pe_str pe_str))) pss_nil)
      (pss_cons (ps_if (PW.pt (pw_or (pt_cmpR (op_neD hu) (pe_call G hr rfl mG kG bG .nil pass0 (pa_cons (pv 0) (pa_cons (pv 5) pa_nil))) (pv 4) (nomark _)) (pw_or1 (PW.pt (pw_and (pt_cmpR op_eq (pv 2) pe_str (nomark _)) (pw_and1 (pt_cmpR (op_neD hu) (pe_call G hr rfl mG kG bG .nil pass0 (pa_cons (pv 0) (pa_cons (pe_ix ix_tup (pv 1) pe_int (fun _ _ => rfl)) pa_nil))) (pv 4) (nomark _))))))))
        (pss_one (ps_ret pe_str)) pss_nil)
      (pss_cons (ps_if (PW.pt (pw_and (pt_cmpR op_eq (pv 2) pe_str (nomark _)) (pw_and1 (pt_cmpR (op_neD hu) (pe_ix ix_tup (pe_ix ix_tup (pv 0) pe_int (fun _ _ => rfl)) (pe_ix ix_tup (pv 1) pe_int (fun _ _ => rfl)) (fun _ _ => rfl)) (pv 4) (nomark _))))) (pss_one (ps_ret pe_str)) pss_nil)
      (pss_cons (ps_if (pt_cmpR op_ne (pe_cmpR (op_inDT hu65) (pv 5) (pe_ix ix_tup (pv 0) pe_int (fun _ _ => rfl)) (by rfl)) (pe_cmpR op_eq (pv 2) pe_str (nomark _)) (nomark _)) (pss_one (ps_ret (pe_ifExp (pt_cmpR op_eq (pv 2) pe_str (nomark _)) pe_str pe_str))) pss_nil)
      (pss_one (ps_ret (pe_ifExp (PW.pt (pw_and (pt_cmpR op_eq (pv 2) pe_str (nomark _)) (pw_and1 (pt_cmpR (op_neD hu) (pe_call G hr rfl mG kG bG .nil pass0 (pa_cons (pv 0) (pa_cons (pe_ix ix_tup (pv 1) pe_int (fun _ _ => rfl)) pa_nil))) (pv 5) (nomark _))))) pe_str pe_str)))))))), ?_⟩
    obtain ⟨a, v1, v2, v3, rfl, sa, d1, d2, d3⟩ := st_at hx
    obtain ⟨yd, vs, rfl, sy, dvs⟩ := dd_at hy
    have lvs : 1 ≤ vs.length := by
      rw [DpAll.len dvs]
      cases e <;> exact Nat.succ_le_succ (Nat.zero_le _)
    refine ⟨_, rfl, _, rfl, yd, _, rfl, sy, fun hw => ?_, fun _ t0 ht0 => ?_⟩
    · exfalso
      have h1 := hw.2
      rw [show (some (2 : Int)) = some ((2 : Nat) : Int) from rfl, HT.sIx_nat] at h1
      simp only [List.length_cons] at h1
      omega
    have ecut : cutV (V.str e.word :: .int (e.hand : Nat) :: vs) none (some 2) = [V.str e.word, .int (e.hand : Nat)] := by
      unfold cutV
      rw [HT.sIx_none, show (some (2 : Int)) = some ((2 : Nat) : Int) from rfl, HT.sIx_nat, List.drop_zero, Nat.sub_zero]
      rw [Nat.min_eq_left (by simp only [List.length_cons]; omega)]
      rfl
    rw [ecut]
    have f1 := same_upd (o := HO.tup [V.str e.word, .int (e.hand : Nat)]) ht0
    refine ⟨t0, _, rfl, SqT.of upd_same, rfl, _, _, rfl, _, _, rfl, rfl, ?_⟩
    refine ⟨_, rfl, (by show 2 ≤ sizeLine; decide), fun m hm => ?_⟩
    have f2 := same_upd (o := HO.tup [V.str ("hand" : Str), .int (e.hand : Nat)]) hm
    refine ⟨_, rfl, (by show 2 ≤ sizeLine; decide), fun w2 hw2 => ?_⟩
    have f3 := same_upd (o := HO.tup [V.str ("seal" : Str), .str ("break" : Str)]) hw2
    have e3 := (f1.trans f2).trans f3
    have cm := f3 _ _ (upd_same (H := L2.upd H t0 (HO.tup [V.str e.word, .int (e.hand : Nat)])) (a := m) (o := HO.tup [V.str ("hand" : Str), .int (e.hand : Nat)]))
    refine ⟨w2, [.str ("seal" : Str), .str ("break" : Str)], rfl, .inr (SqT.of upd_same), rfl, rfl, _, rfl, ?_⟩
    generalize L2.upd (L2.upd (L2.upd H t0 (HO.tup [V.str e.word, .int (e.hand : Nat)])) m (HO.tup [V.str ("hand" : Str), .int (e.hand : Nat)])) w2 (HO.tup [V.str ("seal" : Str), .str ("break" : Str)]) = H3 at *
    have sy3 := SqT.same e3 sy
    cases e with
    | give h p o =>
      cases dvs with
      | cons dp r =>
      cases r with
      | cons do_ r =>
      cases r
      cases do_
      dsimp only [Dd.word, Dd.hand] at *
      refine iteFe (by decide +kernel) ⟨_, rfl, yd, _, 3, _, rfl, rfl, sy3, rfl, (by show 2 ≤ sizeLine; decide), fun t ht => ⟨_, _, rfl, ?_⟩⟩
      have f4 := same_upd (o := HO.tup [V.str ("box" : Str), .int (o : Nat)]) ht
      have ct := upd_same (H := H3) (a := t) (o := HO.tup [V.str ("box" : Str), .int (o : Nat)])
      generalize L2.upd H3 t (HO.tup [V.str ("box" : Str), .int (o : Nat)]) = H4 at *
      have e4 := e3.trans f4
      have dpm : ∀ H', Same H4 H' → Dp K H' (.ref m) (plD (.hand, (h : Int))) := fun H' e => .tup (SqT.of (e _ _ (f4 _ _ cm))) (.cons (.str _) (.cons (.int _) .nil))
      have dpt : ∀ H', Same H4 H' → Dp K H' (.ref t) (plD (.box, (o : Int))) := fun H' e => .tup (SqT.of (e _ _ ct)) (.cons (.str _) (.cons (.int _) .nil))
      have dpi : ∀ H', Same H4 H' → Dp K H' (.ref t) (itP (.box, o)) := fun H' e => .tup (SqT.of (e _ _ ct)) (.cons (.str _) (.cons (.int _) .nil))
      have z4 : Same H4 H4 := Same.refl _
      refine ⟨_, rfl, rfl, _, rfl, iteTe (by decide +kernel) ?_⟩
      obtain ⟨q, hq⟩ := Option.isSome_iff_exists.mp hk
      refine wEq rfl (Dp.same e4 _ _ hx) (fun R r => ⟨_, rfl, yd, _, 2, _, rfl, rfl, SqT.same f4 sy3, rfl, r⟩) (Dp.same e4 _ _ dp) hq rfl (dpm _ z4) fun H5 e5 => ?_
      have kk := k _ (e4.trans e5)
      simp only [barOf, hq] at kk
      by_cases c : q = (.hand, (h : Int))
      · rw [decide_eq_true c]
        rw [if_pos (congrArg some c)] at kk
        exact iteT kk
      · rw [decide_eq_false c]
        rw [if_neg (fun z => c (Option.some.inj z))] at kk
        exact iteF kk
    | put h p b =>
      obtain ⟨hk1, hb⟩ := hk
      cases dvs with
      | cons dp r =>
      cases r with
      | cons do_ r =>
      cases r
      cases do_
      dsimp only [Dd.word, Dd.hand] at *
      refine iteFe (by decide +kernel) ⟨_, rfl, yd, _, 3, _, rfl, rfl, sy3, rfl, (by show 2 ≤ sizeLine; decide), fun t ht => ⟨_, _, rfl, ?_⟩⟩
      have f4 := same_upd (o := HO.tup [V.str ("box" : Str), .int (b : Nat)]) ht
      have ct := upd_same (H := H3) (a := t) (o := HO.tup [V.str ("box" : Str), .int (b : Nat)])
      generalize L2.upd H3 t (HO.tup [V.str ("box" : Str), .int (b : Nat)]) = H4 at *
      have e4 := e3.trans f4
      have dpm : ∀ H', Same H4 H' → Dp K H' (.ref m) (plD (.hand, (h : Int))) := fun H' e => .tup (SqT.of (e _ _ (f4 _ _ cm))) (.cons (.str _) (.cons (.int _) .nil))
      have dpt : ∀ H', Same H4 H' → Dp K H' (.ref t) (plD (.box, (b : Int))) := fun H' e => .tup (SqT.of (e _ _ ct)) (.cons (.str _) (.cons (.int _) .nil))
      have dpi : ∀ H', Same H4 H' → Dp K H' (.ref t) (itP (.box, b)) := fun H' e => .tup (SqT.of (e _ _ ct)) (.cons (.str _) (.cons (.int _) .nil))
      have z4 : Same H4 H4 := Same.refl _
      refine ⟨_, rfl, rfl, _, rfl, iteFe (by decide +kernel) ?_⟩
      obtain ⟨q0, hq0⟩ := where_box hb
      refine wNe rfl (Dp.same e4 _ _ hx) (fun R r => ⟨_, rfl, r⟩) (dpi _ z4) hq0 rfl (dpm _ z4) fun H5 e5 => ?_
      have kk := fun H' (e' : Same H H') => k H' e'
      simp only [barOf, hq0] at kk
      by_cases c0 : ¬ (q0 = (.hand, (h : Int)))
      · rw [decide_eq_false c0]
        simp only [if_neg (fun z => c0 (Option.some.inj z))] at kk
        exact iteT (iteT (kk _ (e4.trans e5)))
      have c0 := Classical.not_not.mp c0
      rw [decide_eq_true c0]
      simp only [if_pos (congrArg some c0)] at kk
      refine iteF ?_
      obtain ⟨q, hq⟩ := Option.isSome_iff_exists.mp hk1
      refine ⟨_, rfl, rfl, _, rfl, iteTe (by decide +kernel) ?_⟩
      refine wNe rfl (Dp.same (e4.trans e5) _ _ hx) (fun R r => ⟨_, rfl, yd, _, 2, _, rfl, rfl, SqT.same (f4.trans e5) sy3, rfl, r⟩) (Dp.same (e4.trans e5) _ _ dp) hq rfl (dpm _ e5) fun H6 e6 => ?_
      simp only [hq] at kk
      have e56 := e5.trans e6
      by_cases c : ¬ (q = (.hand, (h : Int)))
      · rw [decide_eq_false c]
        simp only [if_neg (fun z => c (Option.some.inj z))] at kk
        exact iteT (kk _ (e4.trans e56))
      have c := Classical.not_not.mp c
      rw [decide_eq_true c]
      simp only [if_pos (congrArg some c)] at kk
      refine iteF ?_
      refine ⟨_, rfl, rfl, _, rfl, iteFe (by decide +kernel) (iteF ?_)⟩
      refine ⟨_, rfl, _, rfl, a, _, 2, _, rfl, rfl, SqT.same (e4.trans e56) sa, rfl, plD (.box, (b : Int)), d.ss.map plD, dpt _ e56, Dp.same (e4.trans e56) _ _ d3, shaped_pl _, shaped_pls _, _, rfl, rfl, rfl, _, rfl, ?_⟩
      rw [if_neg (show ¬ (false = true) by decide), any_pl, anyIn]
      by_cases cin : (Wd.box, (b : Int)) ∈ d.ss
      · rw [decide_eq_true cin]
        simp only [if_pos cin] at kk
        exact iteTe (by decide +kernel) ⟨_, rfl, rfl, _, rfl, iteFe (by decide +kernel) (kk _ (e4.trans e56))⟩
      rw [decide_eq_false cin]
      simp only [if_neg cin] at kk
      refine iteFe (by decide +kernel) ?_
      exact ⟨_, rfl, rfl, _, rfl, iteFe (by decide +kernel) (iteF (kk _ (e4.trans e56)))⟩
    | take h p b =>
      obtain ⟨hk1, hb⟩ := hk
      cases dvs with
      | cons dp r =>
      cases r with
      | cons do_ r =>
      cases r
      cases do_
      dsimp only [Dd.word, Dd.hand] at *
      refine iteFe (by decide +kernel) ⟨_, rfl, yd, _, 3, _, rfl, rfl, sy3, rfl, (by show 2 ≤ sizeLine; decide), fun t ht => ⟨_, _, rfl, ?_⟩⟩
      have f4 := same_upd (o := HO.tup [V.str ("box" : Str), .int (b : Nat)]) ht
      have ct := upd_same (H := H3) (a := t) (o := HO.tup [V.str ("box" : Str), .int (b : Nat)])
      generalize L2.upd H3 t (HO.tup [V.str ("box" : Str), .int (b : Nat)]) = H4 at *
      have e4 := e3.trans f4
      have dpm : ∀ H', Same H4 H' → Dp K H' (.ref m) (plD (.hand, (h : Int))) := fun H' e => .tup (SqT.of (e _ _ (f4 _ _ cm))) (.cons (.str _) (.cons (.int _) .nil))
      have dpt : ∀ H', Same H4 H' → Dp K H' (.ref t) (plD (.box, (b : Int))) := fun H' e => .tup (SqT.of (e _ _ ct)) (.cons (.str _) (.cons (.int _) .nil))
      have dpi : ∀ H', Same H4 H' → Dp K H' (.ref t) (itP (.box, b)) := fun H' e => .tup (SqT.of (e _ _ ct)) (.cons (.str _) (.cons (.int _) .nil))
      have z4 : Same H4 H4 := Same.refl _
      refine ⟨_, rfl, rfl, _, rfl, iteFe (by decide +kernel) ?_⟩
      obtain ⟨q0, hq0⟩ := where_box hb
      refine wNe rfl (Dp.same e4 _ _ hx) (fun R r => ⟨_, rfl, r⟩) (dpi _ z4) hq0 rfl (dpm _ z4) fun H5 e5 => ?_
      have kk := fun H' (e' : Same H H') => k H' e'
      simp only [barOf, hq0] at kk
      by_cases c0 : ¬ (q0 = (.hand, (h : Int)))
      · rw [decide_eq_false c0]
        simp only [if_neg (fun z => c0 (Option.some.inj z))] at kk
        exact iteT (iteT (kk _ (e4.trans e5)))
      have c0 := Classical.not_not.mp c0
      rw [decide_eq_true c0]
      simp only [if_pos (congrArg some c0)] at kk
      refine iteF ?_
      refine ⟨_, rfl, rfl, _, rfl, iteFe (by decide +kernel) (iteF ?_)⟩
      refine ⟨_, rfl, rfl, _, rfl, iteFe (by decide +kernel) (iteF ?_)⟩
      refine ⟨_, rfl, _, rfl, a, _, 2, _, rfl, rfl, SqT.same (e4.trans e5) sa, rfl, plD (.box, (b : Int)), d.ss.map plD, dpt _ e5, Dp.same (e4.trans e5) _ _ d3, shaped_pl _, shaped_pls _, _, rfl, rfl, rfl, _, rfl, ?_⟩
      rw [if_neg (show ¬ (false = true) by decide), any_pl, anyIn]
      by_cases cin : (Wd.box, (b : Int)) ∈ d.ss
      · rw [decide_eq_true cin]
        simp only [if_pos cin] at kk
        exact iteTe (by decide +kernel) ⟨_, rfl, rfl, _, rfl, iteFe (by decide +kernel) (kk _ (e4.trans e5))⟩
      rw [decide_eq_false cin]
      simp only [if_neg cin] at kk
      refine iteFe (by decide +kernel) ?_
      obtain ⟨q, hq⟩ := Option.isSome_iff_exists.mp hk1
      simp only [hq] at kk
      refine ⟨_, rfl, rfl, _, rfl, iteTe (by decide +kernel) ?_⟩
      refine wNe rfl (Dp.same (e4.trans e5) _ _ hx) (fun R r => ⟨_, rfl, yd, _, 2, _, rfl, rfl, SqT.same (f4.trans e5) sy3, rfl, r⟩) (Dp.same (e4.trans e5) _ _ dp) hq rfl (dpt _ e5) fun H6 e6 => ?_
      have kk := kk _ (e4.trans (e5.trans e6))
      by_cases c : q = (.box, (b : Int))
      · rw [decide_eq_true c]
        rw [if_pos (congrArg some c)] at kk
        exact iteF kk
      · rw [decide_eq_false c]
        rw [if_neg (fun z => c (Option.some.inj z))] at kk
        exact iteT kk
    | lock h b s =>
      obtain ⟨hb, hsl⟩ := hk
      cases dvs with
      | cons dp r =>
      cases r with
      | cons do_ r =>
      cases r
      cases do_
      cases dp
      dsimp only [Dd.word, Dd.hand] at *
      refine iteTe (by decide +kernel) ⟨_, rfl, yd, _, 2, _, rfl, rfl, sy3, rfl, (by show 2 ≤ sizeLine; decide), fun t ht => ⟨_, _, rfl, ?_⟩⟩
      have f4 := same_upd (o := HO.tup [V.str ("box" : Str), .int (b : Nat)]) ht
      have ct := upd_same (H := H3) (a := t) (o := HO.tup [V.str ("box" : Str), .int (b : Nat)])
      generalize L2.upd H3 t (HO.tup [V.str ("box" : Str), .int (b : Nat)]) = H4 at *
      have e4 := e3.trans f4
      have dpm : ∀ H', Same H4 H' → Dp K H' (.ref m) (plD (.hand, (h : Int))) := fun H' e => .tup (SqT.of (e _ _ (f4 _ _ cm))) (.cons (.str _) (.cons (.int _) .nil))
      have dpt : ∀ H', Same H4 H' → Dp K H' (.ref t) (plD (.box, (b : Int))) := fun H' e => .tup (SqT.of (e _ _ ct)) (.cons (.str _) (.cons (.int _) .nil))
      have dpi : ∀ H', Same H4 H' → Dp K H' (.ref t) (itP (.box, b)) := fun H' e => .tup (SqT.of (e _ _ ct)) (.cons (.str _) (.cons (.int _) .nil))
      have z4 : Same H4 H4 := Same.refl _
      refine ⟨_, rfl, rfl, _, rfl, iteFe (by decide +kernel) ?_⟩
      obtain ⟨q0, hq0⟩ := where_box hb
      refine wNe rfl (Dp.same e4 _ _ hx) (fun R r => ⟨_, rfl, r⟩) (dpi _ z4) hq0 rfl (dpm _ z4) fun H5 e5 => ?_
      have kk := fun H' (e' : Same H H') => k H' e'
      simp only [barOf, hq0] at kk
      by_cases c0 : ¬ (q0 = (.hand, (h : Int)))
      · rw [decide_eq_false c0]
        simp only [if_neg (fun z => c0 (Option.some.inj z))] at kk
        exact iteT (iteT (kk _ (e4.trans e5)))
      have c0 := Classical.not_not.mp c0
      rw [decide_eq_true c0]
      simp only [if_pos (congrArg some c0)] at kk
      refine iteF ?_
      refine ⟨_, rfl, rfl, _, rfl, iteFe (by decide +kernel) (iteF ?_)⟩
      obtain ⟨q, hq⟩ : ∃ q, d.ss[s]? = some q := ⟨_, List.getElem?_eq_getElem hsl⟩
      obtain ⟨ar, xr, rfl, sr, dr, lr⟩ := pls_at d3
      obtain ⟨vq, hv1, hv2⟩ := DpAll.at2 dr (i := s) (d := plD q) (by rw [List.getElem?_map, hq]; rfl)
      simp only [hq] at kk
      have e45 := e4.trans e5
      refine ⟨_, rfl, rfl, _, rfl, iteTe (by decide +kernel) ⟨_, rfl, a, _, 2, _, rfl, rfl, SqT.same e45 sa, rfl, _, rfl, yd, _, 3, _, rfl, rfl, SqT.same (f4.trans e5) sy3, rfl, ar, xr, _, vq, rfl, rfl, SqT.same e45 sr, atI_nat hv1, _, rfl, plD q, plD (.hand, (h : Int)), Dp.same e45 _ _ hv2, dpm _ e5, shaped_pl _, shaped_pl _, _, rfl, ?_⟩⟩
      rw [eqv_pl]
      by_cases c : ¬ (q = (.hand, (h : Int)))
      · rw [decide_eq_false c]
        simp only [if_neg (fun z => c (Option.some.inj z))] at kk
        exact iteT (kk _ e45)
      have c := Classical.not_not.mp c
      rw [decide_eq_true c]
      simp only [if_pos (congrArg some c)] at kk
      refine iteF ?_
      refine ⟨_, rfl, _, rfl, a, _, 2, _, rfl, rfl, SqT.same (e4.trans e5) sa, rfl, plD (.box, (b : Int)), d.ss.map plD, dpt _ e5, Dp.same (e4.trans e5) _ _ d3, shaped_pl _, shaped_pls _, _, rfl, rfl, rfl, _, rfl, ?_⟩
      rw [if_neg (show ¬ (false = true) by decide), any_pl, anyIn]
      by_cases cin : (Wd.box, (b : Int)) ∈ d.ss
      · rw [decide_eq_true cin]
        simp only [if_pos cin] at kk
        exact iteTe (by decide +kernel) ⟨_, rfl, rfl, _, rfl, iteFe (by decide +kernel) (kk _ (e4.trans e5))⟩
      rw [decide_eq_false cin]
      simp only [if_neg cin] at kk
      refine iteFe (by decide +kernel) ?_
      exact ⟨_, rfl, rfl, _, rfl, iteFe (by decide +kernel) (iteF (kk _ (e4.trans e5)))⟩
    | brk h b =>
      have hb : b < d.bs.length := hk
      cases dvs with
      | cons dp r =>
      cases r
      cases dp
      dsimp only [Dd.word, Dd.hand] at *
      refine iteTe (by decide +kernel) ⟨_, rfl, yd, _, 2, _, rfl, rfl, sy3, rfl, (by show 2 ≤ sizeLine; decide), fun t ht => ⟨_, _, rfl, ?_⟩⟩
      have f4 := same_upd (o := HO.tup [V.str ("box" : Str), .int (b : Nat)]) ht
      have ct := upd_same (H := H3) (a := t) (o := HO.tup [V.str ("box" : Str), .int (b : Nat)])
      generalize L2.upd H3 t (HO.tup [V.str ("box" : Str), .int (b : Nat)]) = H4 at *
      have e4 := e3.trans f4
      have dpm : ∀ H', Same H4 H' → Dp K H' (.ref m) (plD (.hand, (h : Int))) := fun H' e => .tup (SqT.of (e _ _ (f4 _ _ cm))) (.cons (.str _) (.cons (.int _) .nil))
      have dpt : ∀ H', Same H4 H' → Dp K H' (.ref t) (plD (.box, (b : Int))) := fun H' e => .tup (SqT.of (e _ _ ct)) (.cons (.str _) (.cons (.int _) .nil))
      have dpi : ∀ H', Same H4 H' → Dp K H' (.ref t) (itP (.box, b)) := fun H' e => .tup (SqT.of (e _ _ ct)) (.cons (.str _) (.cons (.int _) .nil))
      have z4 : Same H4 H4 := Same.refl _
      refine ⟨_, rfl, rfl, _, rfl, iteFe (by decide +kernel) ?_⟩
      obtain ⟨q0, hq0⟩ := where_box hb
      refine wNe rfl (Dp.same e4 _ _ hx) (fun R r => ⟨_, rfl, r⟩) (dpi _ z4) hq0 rfl (dpm _ z4) fun H5 e5 => ?_
      have kk := fun H' (e' : Same H H') => k H' e'
      simp only [barOf, hq0] at kk
      by_cases c0 : ¬ (q0 = (.hand, (h : Int)))
      · rw [decide_eq_false c0]
        simp only [if_neg (fun z => c0 (Option.some.inj z))] at kk
        exact iteT (iteT (kk _ (e4.trans e5)))
      have c0 := Classical.not_not.mp c0
      rw [decide_eq_true c0]
      simp only [if_pos (congrArg some c0)] at kk
      refine iteF ?_
      refine ⟨_, rfl, rfl, _, rfl, iteFe (by decide +kernel) (iteF ?_)⟩
      refine ⟨_, rfl, rfl, _, rfl, iteFe (by decide +kernel) (iteF ?_)⟩
      refine ⟨_, rfl, _, rfl, a, _, 2, _, rfl, rfl, SqT.same (e4.trans e5) sa, rfl, plD (.box, (b : Int)), d.ss.map plD, dpt _ e5, Dp.same (e4.trans e5) _ _ d3, shaped_pl _, shaped_pls _, _, rfl, rfl, rfl, _, rfl, ?_⟩
      rw [if_neg (show ¬ (false = true) by decide), any_pl, anyIn]
      by_cases cin : (Wd.box, (b : Int)) ∈ d.ss
      · rw [decide_eq_true cin]
        simp only [if_pos cin] at kk
        exact iteFe (by decide +kernel) ⟨_, rfl, rfl, _, rfl, iteFe (by decide +kernel) (iteF (kk _ (e4.trans e5)))⟩
      rw [decide_eq_false cin]
      simp only [if_neg cin] at kk
      exact iteTe (by decide +kernel) ⟨_, rfl, rfl, _, rfl, iteTe (by decide +kernel) (kk _ (e4.trans e5))⟩
end
end Kw

set_option Elab.async false
set_option linter.all false
set_option maxRecDepth 100000
set_option maxHeartbeats 4000000
namespace Kw
open PySem PySem.Spec PyProof.Rows L2
/-! ### the state behind a deed -/
def onIx (d : Hs) (b : Nat) : Nat := (d.ss.findIdx? fun q => decide (q = (Wd.box, (b : Int)))).getD 0
def nextOf (d : Hs) : Dd → Hs
  | .give _ p o => setD d p (.hand, (o : Int))
  | .put _ p b => setD d p (.box, (b : Int))
  | .take h p _ => setD d p (.hand, (h : Int))
  | .lock _ b s => setD d (.sl, s) (.box, (b : Int))
  | .brk _ b => setD d (.sl, onIx d b) (.gone, 0)
section
variable {P : Program} {w : World} {K : PySem.W.Frag} {mg : Str → Option Value} {base : Heap}
theorem where_lt {d : Hs} {p : It} {q : Pl} (h : whereD d p = some q) : p.2 < (rowOf d p.1).length := (List.getElem?_eq_some_iff.mp h).1
theorem on_some {d : Hs} {b : Nat} (h : (Wd.box, (b : Int)) ∈ d.ss) : (∃ z, d.ss[onIx d b]? = some z ∧ z = (Wd.box, (b : Int))) ∧ ∀ (m : Nat) z, m < onIx d b → d.ss[m]? = some z → z ≠ (Wd.box, (b : Int)) := by
  unfold onIx
  cases e : d.ss.findIdx? fun q => decide (q = (Wd.box, (b : Int))) with
  | none =>
    have := List.findIdx?_eq_none_iff.mp e _ h
    simp at this
  | some i =>
    obtain ⟨hi, h1, h2⟩ := List.findIdx?_eq_some_iff_getElem.mp e
    refine ⟨⟨d.ss[i], List.getElem?_eq_getElem hi, of_decide_eq_true h1⟩, fun m z hm hz => ?_⟩
    obtain ⟨hm1, hm2⟩ := List.getElem?_eq_some_iff.mp hz
    have := h2 m hm
    rw [← hm2]
    simpa using this
def spNext (K : PySem.W.Frag) : Sp := fun vs H Q _ => ∃ (x y : V) (d : Hs) (e : Dd), vs = [x, y] ∧ StF K H x d ∧ Dp K H y (ddD e) ∧ Kn d e ∧ barOf d e = "" ∧ ∀ v H', Same H H' → StF K H' v (nextOf d e) → Q v H'
theorem scNext : FnScope ["_law_state", "_law_deed", "_law_word"] ["_law_state", "_law_deed"] (defScope sNext) := ⟨rfl, rfl, rfl, by decide +kernel, rfl, by decide +kernel, by decide +kernel⟩
theorem ok_next {f g : Addr} {fd fdg : FuncData} (F : Fun K "_law_next" "_law_next" sNext f fd) (B : Bt mg) (G : FnOk P w K mg base CX0 1 g fdg ["_law_state", "_law_item", "_law_place"] (spSet K)) (mG : mg "_law_set" = some (.ref g)) (kG : PySem.W.keepIn K (.ref g) = true) (bG : Binds K fdg ["_law_state", "_law_item", "_law_place"] []) :
    FnOk P w K mg base CX0 2 f fd ["_law_state", "_law_deed"] (spNext K) := by
  refine F.ok scNext (fun vs H Q E h => ?_) (fun cdv A outer s H vs Q E hr h => ?_)
  · obtain ⟨x, y, d, e, rfl, _⟩ := h
    rfl
  · obtain ⟨x, y, d, e, rfl, hx, hy, hk, hb, k⟩ := h
    have hu65 : (cxOf CX0 P w K mg base ["_law_state", "_law_deed", "_law_word"] "_law_next" (defScope sNext) f cdv A outer s H E).nox.A.units + 65 < cLine := by have := hr.un; show (A.deeper _).units + 65 < cLine; omega
    refine ⟨_, pss_cons (ps_set (i := 2) scNext.nd rfl (.inl rfl) (pe_ix ix_tup (pv 1) pe_int (fun _ _ => rfl)))
      (pss_cons (ps_if (pt_cmpR op_eq (pv 2) pe_str (nomark _)) (pss_one (ps_ret (pe_call G hr rfl mG kG bG .nil pass0 (pa_cons (pv 0) (pa_cons (pe_ix ix_tup (pv 1) pe_int (fun _ _ => rfl)) (pa_cons (pe_tup (pa_cons pe_str (pa_cons (pe_ix ix_tup (pv 1) pe_int (fun _ _ => rfl)) pa_nil))) pa_nil)))))) pss_nil)
      (pss_cons (ps_if (pt_cmpR op_eq (pv 2) pe_str (nomark _)) (pss_one (ps_ret (pe_call G hr rfl mG kG bG .nil pass0 (pa_cons (pv 0) (pa_cons (pe_ix ix_tup (pv 1) pe_int (fun _ _ => rfl)) (pa_cons (pe_tup (pa_cons pe_str (pa_cons (pe_ix ix_tup (pv 1) pe_int (fun _ _ => rfl)) pa_nil))) pa_nil)))))) pss_nil)
      (pss_cons (ps_if (pt_cmpR op_eq (pv 2) pe_str (nomark _)) (pss_one (ps_ret (pe_call G hr rfl mG kG bG .nil pass0 (pa_cons (pv 0) (pa_cons (pe_ix ix_tup (pv 1) pe_int (fun _ _ => rfl)) (pa_cons (pe_tup (pa_cons pe_str (pa_cons (pe_ix ix_tup (pv 1) pe_int (fun _ _ => rfl)) pa_nil))) pa_nil)))))) pss_nil)
      (pss_cons (ps_if (pt_cmpR op_eq (pv 2) pe_str (nomark _)) (pss_one (ps_ret (pe_call G hr rfl mG kG bG .nil pass0 (pa_cons (pv 0) (pa_cons (pe_tup (pa_cons pe_str (pa_cons (pe_ix ix_tup (pv 1) pe_int (fun _ _ => rfl)) pa_nil))) (pa_cons (pe_tup (pa_cons pe_str (pa_cons (pe_ix ix_tup (pv 1) pe_int (fun _ _ => rfl)) pa_nil))) pa_nil)))))) pss_nil)
      (pss_one (ps_ret (pe_call G hr rfl mG kG bG .nil pass0 (pa_cons (pv 0) (pa_cons (pe_tup (pa_cons pe_str (pa_cons (pe_bmF PySem.F.slot_tuple_index PySem.F.type_tuple_index (mt_indexT hu65) (pe_ix ix_tup (pv 0) pe_int (fun _ _ => rfl)) (pa_cons (pe_tup (pa_cons pe_str (pa_cons (pe_ix ix_tup (pv 1) pe_int (fun _ _ => rfl)) pa_nil))) pa_nil)) pa_nil))) (pa_cons (pe_tup (pa_cons pe_str (pa_cons pe_int pa_nil))) pa_nil)))))))))), ?_⟩
    obtain ⟨a, v1, v2, v3, rfl, sa, d1, d2, d3, fz⟩ := hx.ex
    have hx := hx.dp
    obtain ⟨yd, vs, rfl, sy, dvs⟩ := dd_at hy
    refine ⟨_, rfl, yd, _, 0, _, rfl, rfl, sy, atI_nat (j := 0) rfl, ?_⟩
    have mk : ∀ (H1 : Hp) (t : Addr) (wd : Wd) (n : Nat), H1 t = some (.tup [.str wd.str, .int (n : Nat)]) → ∀ H', Same H1 H' → Dp K H' (.ref t) (plD (wd, (n : Int))) := fun H1 t wd n h H' e => .tup (SqT.of (e _ _ h)) (.cons (.str _) (.cons (.int _) .nil))
    cases e with
    | give h p o =>
      cases dvs with
      | cons dp r =>
      cases r with
      | cons do_ r =>
      cases r
      cases do_
      dsimp only [Dd.word, Dd.hand] at *
      refine ⟨_, rfl, rfl, _, rfl, iteTe (by decide +kernel) ?_⟩
      refine ⟨_, rfl, _, rfl, yd, _, 2, _, rfl, rfl, sy, rfl, _, rfl, yd, _, 3, _, rfl, rfl, sy, rfl, (by show 2 ≤ sizeLine; decide), fun t ht => ?_⟩
      have f1 := same_upd (o := HO.tup [V.str ("hand" : Str), .int (o : Nat)]) ht
      exact ⟨.ref a, _, .ref t, d, p, (.hand, (o : Int)), rfl, Dp.same f1 _ _ hx, Dp.same f1 _ _ dp, mk _ t _ _ upd_same _ (Same.refl _), (by obtain ⟨q, hq⟩ := Option.isSome_iff_exists.mp hk; exact where_lt hq), fun v H' e dv => k v H' (f1.trans e) dv⟩
    | put h p b =>
      cases dvs with
      | cons dp r =>
      cases r with
      | cons do_ r =>
      cases r
      cases do_
      dsimp only [Dd.word, Dd.hand] at *
      refine ⟨_, rfl, rfl, _, rfl, iteFe (by decide +kernel) ?_⟩
      refine ⟨_, rfl, rfl, _, rfl, iteTe (by decide +kernel) ?_⟩
      refine ⟨_, rfl, _, rfl, yd, _, 2, _, rfl, rfl, sy, rfl, _, rfl, yd, _, 3, _, rfl, rfl, sy, rfl, (by show 2 ≤ sizeLine; decide), fun t ht => ?_⟩
      have f1 := same_upd (o := HO.tup [V.str ("box" : Str), .int (b : Nat)]) ht
      exact ⟨.ref a, _, .ref t, d, p, (.box, (b : Int)), rfl, Dp.same f1 _ _ hx, Dp.same f1 _ _ dp, mk _ t _ _ upd_same _ (Same.refl _), (by obtain ⟨q, hq⟩ := Option.isSome_iff_exists.mp hk.1; exact where_lt hq), fun v H' e dv => k v H' (f1.trans e) dv⟩
    | take h p b =>
      cases dvs with
      | cons dp r =>
      cases r with
      | cons do_ r =>
      cases r
      cases do_
      dsimp only [Dd.word, Dd.hand] at *
      refine ⟨_, rfl, rfl, _, rfl, iteFe (by decide +kernel) ?_⟩
      refine ⟨_, rfl, rfl, _, rfl, iteFe (by decide +kernel) ?_⟩
      refine ⟨_, rfl, rfl, _, rfl, iteTe (by decide +kernel) ?_⟩
      refine ⟨_, rfl, _, rfl, yd, _, 2, _, rfl, rfl, sy, rfl, _, rfl, yd, _, 1, _, rfl, rfl, sy, rfl, (by show 2 ≤ sizeLine; decide), fun t ht => ?_⟩
      have f1 := same_upd (o := HO.tup [V.str ("hand" : Str), .int (h : Nat)]) ht
      exact ⟨.ref a, _, .ref t, d, p, (.hand, (h : Int)), rfl, Dp.same f1 _ _ hx, Dp.same f1 _ _ dp, mk _ t _ _ upd_same _ (Same.refl _), (by obtain ⟨q, hq⟩ := Option.isSome_iff_exists.mp hk.1; exact where_lt hq), fun v H' e dv => k v H' (f1.trans e) dv⟩
    | lock h b s =>
      cases dvs with
      | cons dp r =>
      cases r with
      | cons do_ r =>
      cases r
      cases do_
      cases dp
      dsimp only [Dd.word, Dd.hand] at *
      refine ⟨_, rfl, rfl, _, rfl, iteFe (by decide +kernel) ?_⟩
      refine ⟨_, rfl, rfl, _, rfl, iteFe (by decide +kernel) ?_⟩
      refine ⟨_, rfl, rfl, _, rfl, iteFe (by decide +kernel) ?_⟩
      refine ⟨_, rfl, rfl, _, rfl, iteTe (by decide +kernel) ?_⟩
      refine ⟨_, rfl, _, rfl, yd, _, 3, _, rfl, rfl, sy, rfl, (by show 2 ≤ sizeLine; decide), fun t1 ht1 => ?_⟩
      have f1 := same_upd (o := HO.tup [V.str ("seal" : Str), .int (s : Nat)]) ht1
      refine ⟨_, rfl, yd, _, 2, _, rfl, rfl, SqT.same f1 sy, rfl, (by show 2 ≤ sizeLine; decide), fun t ht => ?_⟩
      have f2 := same_upd (o := HO.tup [V.str ("box" : Str), .int (b : Nat)]) ht
      have e2 := f1.trans f2
      exact ⟨.ref a, .ref t1, .ref t, d, (.sl, s), (.box, (b : Int)), rfl, Dp.same e2 _ _ hx, .tup (SqT.of (f2 _ _ upd_same)) (.cons (.str _) (.cons (.int _) .nil)), mk _ t _ _ upd_same _ (Same.refl _), hk.2, fun v H' e dv => k v H' (e2.trans e) dv⟩
    | brk h b =>
      cases dvs with
      | cons dp r =>
      cases r
      cases dp
      dsimp only [Dd.word, Dd.hand] at *
      refine ⟨_, rfl, rfl, _, rfl, iteFe (by decide +kernel) ?_⟩
      refine ⟨_, rfl, rfl, _, rfl, iteFe (by decide +kernel) ?_⟩
      refine ⟨_, rfl, rfl, _, rfl, iteFe (by decide +kernel) ?_⟩
      refine ⟨_, rfl, rfl, _, rfl, iteFe (by decide +kernel) ?_⟩
      have hin : (Wd.box, (b : Int)) ∈ d.ss := by
        have q := hb
        simp only [barOf] at q
        by_cases c1 : whereD d (.box, b) = some (.hand, (h : Int))
        · rw [if_pos c1] at q
          by_cases c2 : (Wd.box, (b : Int)) ∈ d.ss
          · exact c2
          · rw [if_neg c2] at q
            exact absurd q (by decide +kernel)
        · rw [if_neg c1] at q
          exact absurd q (by decide +kernel)
      obtain ⟨⟨z, hz1, hz2⟩, hz3⟩ := on_some hin
      subst hz2
      obtain ⟨as, xs, e3, hf⟩ := fz
      subst e3
      refine ⟨_, rfl, _, rfl, a, _, 2, _, rfl, rfl, sa, rfl, ⟨as, xs, rfl, hf⟩, _, rfl, yd, _, 2, _, rfl, rfl, sy, rfl, (by show 2 ≤ sizeLine; decide), fun t1 ht1 => ?_⟩
      have f1 := same_upd (o := HO.tup [V.str ("box" : Str), .int (b : Nat)]) ht1
      refine ⟨as, _, plD (.box, (b : Int)), d.ss.map plD, onIx d b, plD (.box, (b : Int)), rfl, rfl, Dp.same f1 _ _ d3, mk _ t1 _ _ upd_same _ (Same.refl _), shaped_pls _, shaped_pl _, by rw [List.getElem?_map, hz1]; rfl, by rw [eqv_pl]; exact decide_eq_true rfl, fun m z' hm hz' => ?_, ?_⟩
      · rw [List.getElem?_map] at hz'
        cases hq : d.ss[m]? with
        | none => rw [hq] at hz'; cases hz'
        | some q =>
          rw [hq] at hz'
          have e' := Option.some.inj hz'
          subst e'
          rw [eqv_pl]
          exact decide_eq_false (hz3 m q hm hq)
      refine ⟨(by show 2 ≤ sizeLine; decide), fun t2 ht2 => ?_⟩
      have f2 := same_upd (o := HO.tup [V.str ("seal" : Str), .int (onIx d b : Nat)]) ht2
      refine ⟨(by show 2 ≤ sizeLine; decide), fun t ht => ?_⟩
      have f3 := same_upd (o := HO.tup [V.str ("gone" : Str), .int 0]) ht
      have e3 := (f1.trans f2).trans f3
      exact ⟨.ref a, .ref t2, .ref t, d, (.sl, onIx d b), (.gone, 0), rfl, Dp.same e3 _ _ hx, .tup (SqT.of (f3 _ _ upd_same)) (.cons (.str _) (.cons (.int _) .nil)), mk _ t .gone 0 upd_same _ (Same.refl _), where_lt (q := (Wd.box, (b : Int))) hz1, fun v H' e dv => k v H' (e3.trans e) dv⟩
end
end Kw

set_option Elab.async false
set_option linter.all false
set_option maxRecDepth 100000
set_option maxHeartbeats 4000000
namespace Kw
open PySem PySem.Spec PyProof.Rows L2
/-! ### deeds as data -/
theorem sqL_same {K : PySem.W.Frag} {H H' : Hp} {a : Addr} {xs : List V} (k : Same H H') (h : SqL K H a xs) : SqL K H' a xs := by
  rcases h with (h | ⟨o, h⟩) | h
  · exact .inl (.inl (k _ _ h))
  · exact .inl (.inr ⟨o, k _ _ h⟩)
  · exact .inr h
theorem noL_dd (e : Dd) : noL (ddD e) = true := by cases e <;> rfl
theorem lay_it (p : It) : PyData.canLay0 (itP p) = true := by
  obtain ⟨k, n⟩ := p
  have h1 : PyData.strOk ("box" : Str) = true := by decide +kernel
  have h2 : PyData.strOk ("thing" : Str) = true := by decide +kernel
  have h3 : PyData.strOk ("seal" : Str) = true := by decide +kernel
  cases k <;> simp [itP, Kd.str, PyData.canLay0, PyData.canLayAll0, h1, h2, h3]
theorem depth_it (p : It) : PyData.depth (itP p) = 1 := by simp [itP, PyData.depth, PyData.depthAll]
theorem shaped_it (p : It) : SeqAt.shaped (itP p) = true := by simp [SeqAt.shaped, lay_it, depth_it]
theorem kd_inj {k l : Kd} (h : k.str = l.str) : k = l := by
  cases k <;> cases l <;> first | rfl | exact absurd h (by decide +kernel)
theorem eqv_it (p q : It) : PyData.eqv (itP p) (itP q) = decide (p = q) := by
  obtain ⟨k, n⟩ := p
  obtain ⟨l, m⟩ := q
  by_cases h1 : k = l
  · subst h1
    by_cases h2 : n = m
    · subst h2
      simp [itP, PyData.eqv, PyData.eqvAll]
    · have h3 : ¬ ((n : Int) = (m : Int)) := fun z => h2 (by omega)
      simp [itP, PyData.eqv, PyData.eqvAll, h2, h3]
  · have h3 : ¬ (k.str = l.str) := fun z => h1 (kd_inj z)
    simp [itP, PyData.eqv, PyData.eqvAll, h1, h3]
theorem sd_dd (e : Dd) : Sd (ddD e) := by
  have a1 : PyData.strOk ("give" : Str) = true := by decide +kernel
  have a2 : PyData.strOk ("put" : Str) = true := by decide +kernel
  have a3 : PyData.strOk ("take" : Str) = true := by decide +kernel
  have a4 : PyData.strOk ("seal" : Str) = true := by decide +kernel
  have a5 : PyData.strOk ("break" : Str) = true := by decide +kernel
  refine ⟨⟨_, _, rfl⟩, ?_, ?_, noL_dd e⟩
  · cases e <;> simp [ddD, Dd.word, Dd.hand, Dd.tail, PyData.canLay0, PyData.canLayAll0, lay_it, a1, a2, a3, a4, a5]
  · cases e <;> simp [ddD, Dd.word, Dd.hand, Dd.tail, PyData.depth, PyData.depthAll, depth_it]
theorem cmpE_it (p q : It) : cmpE (itP p) (itP q) = true := rfl
theorem tc_two {x y : PyData} {i j : Int} (h : cmpE x y = true) : topCmp [x, .int i] [y, .int j] = true := by
  unfold topCmp
  split
  · unfold topCmp
    split
    · rfl
    · rfl
  · exact h
theorem tc_one {i j : Int} : topCmp [.int i] [.int j] = true := by
  unfold topCmp
  split
  · rfl
  · rfl
theorem tc_tail {e f : Dd} (h : e.word = f.word) : topCmp e.tail f.tail = true := by
  cases e <;> cases f <;> first | exact tc_two (cmpE_it _ _) | exact tc_two rfl | exact tc_one | (dsimp only [Dd.word] at h; exact absurd h (by decide +kernel))
theorem tc_dd (e f : Dd) : topCmp (itemsD' (ddD e)) (itemsD' (ddD f)) = true := by
  show topCmp (.str e.word :: .int (e.hand : Nat) :: e.tail) (.str f.word :: .int (f.hand : Nat) :: f.tail) = true
  unfold topCmp
  split
  · rename_i h
    have hw : e.word = f.word := by simpa [PyData.eqv] using h
    unfold topCmp
    split
    · exact tc_tail hw
    · rfl
  · rfl
/-! ### what the list of deeds has -/
theorem But.refl (L : Addr) (H : Hp) : But L H H := fun _ _ h _ => h
theorem But.trans {L : Addr} {H H1 H2 : Hp} (x : But L H H1) (y : But L H1 H2) : But L H H2 := fun a o h n => y a o (x a o h n) n
theorem But.same {L : Addr} {H H' : Hp} (e : Same H H') : But L H H' := fun a o h _ => e a o h
theorem But.nl {L : Addr} {H H' : Hp} {xs : List V} (hL : H L = some (.lst xs)) (x : But L H H') : Nl H H' := fun a o h n _ => x a o h (ne_of h hL (n _))
section
variable {P : Program} {w : World} {K : PySem.W.Frag} {mg : Str → Option Value} {base : Heap}
/-- small numbers -/
def Sm : Dd → Prop
  | .give h p o => h ≤ 1000 ∧ p.2 ≤ 1000 ∧ o ≤ 1000
  | .put h p b => h ≤ 1000 ∧ p.2 ≤ 1000 ∧ b ≤ 1000
  | .take h p b => h ≤ 1000 ∧ p.2 ≤ 1000 ∧ b ≤ 1000
  | .lock h b s => h ≤ 1000 ∧ b ≤ 1000 ∧ s ≤ 1000
  | .brk h b => h ≤ 1000 ∧ b ≤ 1000
def DdV (K : PySem.W.Frag) (d : Hs) (v : V) (H : Hp) : Prop := ∃ e, Dp K H v (ddD e) ∧ Kn d e ∧ Sm e
theorem DdV.nl {d : Hs} {v : V} {H H' : Hp} (k : Nl H H') (h : DdV K d v H) : DdV K d v H' := by
  obtain ⟨e, h1, h2⟩ := h
  exact ⟨e, Dp.nl k _ _ (noL_dd e) h1, h2⟩
def ItV (K : PySem.W.Frag) (d : Hs) (v : V) (H : Hp) : Prop := ∃ p : It, Dp K H v (itP p) ∧ p.2 < (rowOf d p.1).length
theorem ItV.nl {d : Hs} {v : V} {H H' : Hp} (k : Nl H H') (h : ItV K d v H) : ItV K d v H' := by
  obtain ⟨e, h1, h2⟩ := h
  exact ⟨e, Dp.nl k _ _ rfl h1, h2⟩
theorem nl_same {H H' : Hp} (e : Same H H') : Nl H H' := fun a o h _ _ => e a o h
structure Fd (K : PySem.W.Frag) (d : Hs) (L : Addr) (H0 H : Hp) (m : Nat) : Prop where
  bt : But L H0 H
  ex : ∃ xs, H L = some (.lst xs) ∧ xs.length ≤ m ∧ ∀ v ∈ xs, DdV K d v H
theorem Fd.ext {d : Hs} {L : Addr} {H0 H H' : Hp} {m : Nat} (x : Fd K d L H0 H m) (e : Same H H') : ∃ xs, H' L = some (.lst xs) ∧ xs.length ≤ m ∧ ∀ (zs : List V) (n : Nat), zs.length ≤ n → (∀ v ∈ zs, DdV K d v H') → Fd K d L H0 (L2.upd H' L (.lst (xs ++ zs))) (m + n) := by
  obtain ⟨xs, h1, h2, h3⟩ := x.ex
  refine ⟨xs, e _ _ h1, h2, fun zs n hz hzs => ⟨fun a o h ne => ?_, xs ++ zs, upd_same, by rw [List.length_append]; omega, fun v hv => ?_⟩⟩
  · rw [upd_ne ne]
    exact e _ _ (x.bt a o h ne)
  · have k := nl_updL (ys := xs ++ zs) (e _ _ h1)
    rcases List.mem_append.mp hv with hv | hv
    · exact ((h3 v hv).nl (nl_same e)).nl k
    · exact (hzs v hv).nl k
theorem Fd.more {d : Hs} {L : Addr} {H0 H : Hp} {m n : Nat} (x : Fd K d L H0 H m) (h : m ≤ n) : Fd K d L H0 H n := by
  obtain ⟨xs, h1, h2, h3⟩ := x.ex
  exact ⟨x.bt, xs, h1, by omega, h3⟩
/-- a comprehension over a list whose items all have R -/
theorem lc_mk {a D : Addr} {xs : List V} {j : Nat} {σ : L2.St} {H1 : Hp} {tt : TT} {te : TE} {Qd : Hp → Prop} (R : V → Hp → Prop) (hR : ∀ H H' v, Nl H H' → R v H → R v H') (ha : SqL K H1 a xs) (hn : xs.length ≤ 1000000) (hD : H1 D = none)
    (hs : ∀ (i : Nat) (x : V) (H : Hp) (N : Hp → Prop) (Y : V → Hp → Prop), xs[i]? = some x → Same H1 H → (∀ H', Same H H' → N H') → (∀ y H', Same H H' → R y H' → Y y H') → tt ((wipe σ [j]).set j (some x)) H fun b H3 => if b = true then te ((wipe σ [j]).set j (some x)) H3 Y else N H3)
    (hd : ∀ H zs, Same H1 H → H D = some (.lst zs) → zs.length ≤ xs.length → (∀ z ∈ zs, R z H) → Qd H) :
    ∃ W : Nat → Nat → Hp → Prop, (∃ m, W 0 m (upd H1 D (.lst []))) ∧ ∀ i m H, W i m H →
      ((Itl K a).stop i H ∧ Qd H) ∨ ((Itl K a).go i H ∧ ∃ Nx : Hp → Prop, (∀ H', Nx H' → ∃ m', m' < m ∧ W (i + 1) m' H') ∧ ∀ x H', (Itl K a).yld i H x H' → gName j x (wipe σ [j]) H' fun σ2 H2 => wipe σ2 [j] = wipe σ [j] ∧ tt σ2 H2 fun b H3 =>
        if b = true then te σ2 H3 fun y H4 => ∃ acc, H4 D = some (.lst acc) ∧ acc.length < sizeLine ∧ Nx (upd H4 D (.lst (acc ++ [y]))) else Nx H3) := by
  have e0 : ∀ (H' : Hp) (o : HO), Same H1 H' → Same H1 (L2.upd H' D o) := fun H' o e c u h => by rw [upd_ne (ne_of_none h hD)]; exact e c u h
  refine lc_list (K := K) (a := a) (xs := xs) (fun i H => Same H1 H ∧ ∃ zs, H D = some (.lst zs) ∧ zs.length ≤ i ∧ ∀ z ∈ zs, R z H) ⟨same_upd hD, [], upd_same, Nat.le_refl _, fun z hz => nomatch hz⟩ (fun i H _ ⟨e, _⟩ => sqL_same e ha) ?_ ?_
  · rintro i x H hi ⟨e, zs, hz, lz, rz⟩
    have i1 := (List.getElem?_eq_some_iff.mp hi).1
    refine ⟨wipe_one _ j _, hs i x H _ _ hi e (fun H' e' => ⟨e.trans e', zs, e' _ _ hz, by omega, fun z q => hR _ _ _ (nl_same e') (rz z q)⟩) (fun y H' e' ry => ?_)⟩
    have hz' := e' _ _ hz
    have k := nl_updL (ys := zs ++ [y]) hz'
    refine ⟨zs, hz', by rw [sizeLine_eq]; omega, e0 _ _ (e.trans e'), zs ++ [y], upd_same, by rw [List.length_append]; simp; exact lz, fun z q => ?_⟩
    rcases List.mem_append.mp q with q | q
    · exact hR _ _ _ k (hR _ _ _ (nl_same e') (rz z q))
    · have ez : z = y := by simpa using q
      subst ez
      exact hR _ _ _ k ry
  · rintro H ⟨e, zs, hz, lz, rz⟩
    exact hd H zs e hz lz rz
theorem rg_get {n : Nat} {i : Nat} {x : V} (h : (rgV 0 (n : Int))[i]? = some x) : i < n ∧ x = .int (i : Nat) := by
  have hl := (List.getElem?_eq_some_iff.mp h).1
  rw [rgV_length] at hl
  have hi : i < n := by omega
  refine ⟨hi, ?_⟩
  unfold rgV at h
  rw [List.getElem?_map, List.getElem?_range (by omega)] at h
  have := Option.some.inj h
  rw [← this]
  show V.int (0 + (i : Int)) = _
  rw [Int.zero_add]
theorem rg_len (n : Nat) : (rgV 0 (n : Int)).length = n := by rw [rgV_length]; omega
theorem ite_b {A B : Prop} (b : Bool) (h1 : b = true → A) (h2 : b = false → B) : if b = true then A else B := by
  cases b with
  | true => rw [if_pos rfl]; exact h1 rfl
  | false => rw [if_neg (by decide)]; exact h2 rfl
theorem dds_all {d : Hs} {H : Hp} : ∀ {vs : List V}, (∀ v ∈ vs, DdV K d v H) → ∃ es : List Dd, DpAll K H vs (es.map ddD)
  | [], _ => ⟨[], .nil⟩
  | v :: vs, h => by
    obtain ⟨e, h1, _⟩ := h v List.mem_cons_self
    obtain ⟨es, h2⟩ := dds_all (vs := vs) fun u hu => h u (List.mem_cons_of_mem _ hu)
    exact ⟨e :: es, .cons h1 h2⟩
def spDeeds (K : PySem.W.Frag) : Sp := fun vs H Q _ => ∃ (x : V) (hp : Addr) (d : Hs) (n : Nat), vs = [x, .ref hp] ∧ Dp K H x (stD d) ∧ H hp = some (.lst (rgV 0 (n : Int))) ∧ n ≤ 4 ∧ d.bs.length ≤ 3 ∧ d.ts.length ≤ 4 ∧ d.ss.length ≤ 3 ∧
  ∀ (p : Addr) (xs : List V) (H' : Hp), Same H H' → H p = none → H' p = some (.lst xs) → xs.length ≤ 400 → (∀ v ∈ xs, DdV K d v H') → Q (.ref p) H'
theorem scDeeds : FnScope ["_law_state", "_law_hands", "_law_boxes", "_law_things", "_law_seals", "_law_goods", "_law_found", "_law_hand", "_law_box", "_law_item", "_law_row", "_law_number", "_law_seal", "_law_other", "_law_deed"] ["_law_state", "_law_hands"] (defScope sDeeds) := ⟨rfl, rfl, rfl, by decide +kernel, rfl, by decide +kernel, by decide +kernel⟩
theorem ok_deeds {f g : Addr} {fd fdg : FuncData} (F : Fun K "_law_deeds" "_law_deeds" sDeeds f fd) (B : Bt mg) (mS : mg "sorted" = none) (G : FnOk P w K mg base CX0 2 g fdg ["_law_state", "_law_deed"] (spBar K)) (mG : mg "_law_bar" = some (.ref g)) (kG : PySem.W.keepIn K (.ref g) = true) (bG : Binds K fdg ["_law_state", "_law_deed"] []) :
    FnOk P w K mg base CX0 3 f fd ["_law_state", "_law_hands"] (spDeeds K) := by
  refine F.ok scDeeds (fun vs H Q E h => ?_) (fun cdv A outer s H vs Q E hr h => ?_)
  · obtain ⟨x, hp, d, n, rfl, _⟩ := h
    rfl
  · obtain ⟨x, hp, d, n, rfl, hx, hhp, hn, lb, lt, ls, k⟩ := h
    have hu : (cxOf CX0 P w K mg base ["_law_state", "_law_hands", "_law_boxes", "_law_things", "_law_seals", "_law_goods", "_law_found", "_law_hand", "_law_box", "_law_item", "_law_row", "_law_number", "_law_seal", "_law_other", "_law_deed"] "_law_deeds" (defScope sDeeds) f cdv A outer s H E).nox.A.units + 64 < cLine := by have := hr.un; show (A.deeper _).units + 64 < cLine; omega
    have hu60 : (cxOf CX0 P w K mg base ["_law_state", "_law_hands", "_law_boxes", "_law_things", "_law_seals", "_law_goods", "_law_found", "_law_hand", "_law_box", "_law_item", "_law_row", "_law_number", "_law_seal", "_law_other", "_law_deed"] "_law_deeds" (defScope sDeeds) f cdv A outer s H E).nox.A.units + 60 < cLine := by omega
    have hr1 : Room 2 _ := hr
    refine ⟨_, (pss_cons (ps_asg (pe_lc (own := [("_law_row", 10)]) (g := gName 10) (tt := tYes) (te := tLstRg (tRg1 (tCB (fun xs H Q => ∃ p ys, xs = [V.ref p] ∧ (SqL K H p ys ∨ SqT K H p ys) ∧ Q (.int ys.length) H) (tCons (tVar 10) tNil)))) rfl scDeeds.nd (pi_tup (pv 0)) (blkOk_by (own := [("_law_row", 10)]) (N := ["_law_state", "_law_hands", "_law_boxes", "_law_things", "_law_seals", "_law_goods", "_law_found", "_law_hand", "_law_box", "_law_item", "_law_row", "_law_number", "_law_seal", "_law_other", "_law_deed"]) (sc := defScope sDeeds) (by decide +kernel)) (fun _ _ _ _ _ => pg_name (i := 10) scDeeds.nd rfl (.inl rfl)) (fun _ _ _ _ _ => pts_nil) (fun _ _ _ _ _ => pe_listRg rfl (by rfl) B.lst (prg_1 (by rfl) B.rng (pe_callB call_len_seq (by rfl) B.len PySem.boot_len (pa_cons (pv 10) pa_nil))))) (pg_lst rfl (pgs_cons (pg_name (i := 2) scDeeds.nd rfl (.inl rfl)) (pgs_cons (pg_name (i := 3) scDeeds.nd rfl (.inl rfl)) (pgs_cons (pg_name (i := 4) scDeeds.nd rfl (.inl rfl)) pgs_nil)))))
      (pss_cons (ps_set (i := 5) scDeeds.nd rfl (.inl rfl) (pe_op op_cat (pe_lc (own := [("_law_number", 11)]) (g := gName 11) (tt := tYes) (te := (tTup (tCons (tC (.str ("box" : Str))) (tCons (tVar 11) (tNil))))) rfl scDeeds.nd (pi_list (pv 2)) (blkOk_by (own := [("_law_number", 11)]) (N := ["_law_state", "_law_hands", "_law_boxes", "_law_things", "_law_seals", "_law_goods", "_law_found", "_law_hand", "_law_box", "_law_item", "_law_row", "_law_number", "_law_seal", "_law_other", "_law_deed"]) (sc := defScope sDeeds) (by decide +kernel)) (fun _ _ _ _ _ => pg_name (i := 11) scDeeds.nd rfl (.inl rfl)) (fun _ _ _ _ _ => pts_nil) (fun _ _ _ _ _ => (pe_tup (pa_cons pe_str (pa_cons (pv 11) (pa_nil)))))) (pe_lc (own := [("_law_number", 11)]) (g := gName 11) (tt := tYes) (te := (tTup (tCons (tC (.str ("thing" : Str))) (tCons (tVar 11) (tNil))))) rfl scDeeds.nd (pi_list (pv 3)) (blkOk_by (own := [("_law_number", 11)]) (N := ["_law_state", "_law_hands", "_law_boxes", "_law_things", "_law_seals", "_law_goods", "_law_found", "_law_hand", "_law_box", "_law_item", "_law_row", "_law_number", "_law_seal", "_law_other", "_law_deed"]) (sc := defScope sDeeds) (by decide +kernel)) (fun _ _ _ _ _ => pg_name (i := 11) scDeeds.nd rfl (.inl rfl)) (fun _ _ _ _ _ => pts_nil) (fun _ _ _ _ _ => (pe_tup (pa_cons pe_str (pa_cons (pv 11) (pa_nil))))))))
      (pss_cons (ps_set (i := 6) scDeeds.nd rfl (.inl rfl) (pe_lst pa_nil))
      (pss_cons (ps_for PassesOwn.never rfl (pi_list (pv 1)) (pg_name (i := 7) scDeeds.nd rfl (.inr rfl)) (pss_cons (ps_for PassesOwn.never rfl (pi_list (pv 2)) (pg_name (i := 8) scDeeds.nd rfl (.inr rfl)) (pss_cons (ps_expr (pe_bm PySem.F.plainAttrs_list PySem.F.slot_list_append PySem.F.type_list_append mt_append (pv 6) (pa_cons (pe_tup (pa_cons pe_str (pa_cons (pv 7) (pa_cons (pv 8) (pa_nil))))) pa_nil)))
      (pss_cons (ps_expr (pe_bm PySem.F.plainAttrs_list PySem.F.slot_list_extend PySem.F.type_list_extend mt_extend (pv 6) (pa_cons (pe_lc (own := [("_law_seal", 12)]) (g := gName 12) (tt := tYes) (te := (tTup (tCons (tC (.str ("seal" : Str))) (tCons (tVar 7) (tCons (tVar 8) (tCons (tVar 12) (tNil))))))) rfl scDeeds.nd (pi_list (pv 4)) (blkOk_by (own := [("_law_seal", 12)]) (N := ["_law_state", "_law_hands", "_law_boxes", "_law_things", "_law_seals", "_law_goods", "_law_found", "_law_hand", "_law_box", "_law_item", "_law_row", "_law_number", "_law_seal", "_law_other", "_law_deed"]) (sc := defScope sDeeds) (by decide +kernel)) (fun _ _ _ _ _ => pg_name (i := 12) scDeeds.nd rfl (.inl rfl)) (fun _ _ _ _ _ => pts_nil) (fun _ _ _ _ _ => (pe_tup (pa_cons pe_str (pa_cons (pv 7) (pa_cons (pv 8) (pa_cons (pv 12) (pa_nil)))))))) pa_nil)))
      (pss_cons (ps_expr (pe_bm PySem.F.plainAttrs_list PySem.F.slot_list_extend PySem.F.type_list_extend mt_extend (pv 6) (pa_cons (pe_lc (own := [("_law_item", 9)]) (g := gName 9) (tt := (tTest (tOp (rNeD K) (tVar 9) (tTup (tCons (tC (.str ("box" : Str))) (tCons (tVar 8) tNil)))))) (te := (tTup (tCons (tC (.str ("put" : Str))) (tCons (tVar 7) (tCons (tVar 9) (tCons (tVar 8) (tNil))))))) rfl scDeeds.nd (pi_list (pv 5)) (blkOk_by (own := [("_law_item", 9)]) (N := ["_law_state", "_law_hands", "_law_boxes", "_law_things", "_law_seals", "_law_goods", "_law_found", "_law_hand", "_law_box", "_law_item", "_law_row", "_law_number", "_law_seal", "_law_other", "_law_deed"]) (sc := defScope sDeeds) (by decide +kernel)) (fun _ _ _ _ _ => pg_name (i := 9) scDeeds.nd rfl (.inl rfl)) (fun _ _ _ _ _ => pts_one (pt_cmpR (op_neD hu) (pv 9) (pe_tup (pa_cons pe_str (pa_cons (pv 8) pa_nil))) (nomark _))) (fun _ _ _ _ _ => (pe_tup (pa_cons pe_str (pa_cons (pv 7) (pa_cons (pv 9) (pa_cons (pv 8) (pa_nil)))))))) pa_nil)))
      (pss_one (ps_expr (pe_bm PySem.F.plainAttrs_list PySem.F.slot_list_extend PySem.F.type_list_extend mt_extend (pv 6) (pa_cons (pe_lc (own := [("_law_item", 9)]) (g := gName 9) (tt := (tTest (tOp (rNeD K) (tVar 9) (tTup (tCons (tC (.str ("box" : Str))) (tCons (tVar 8) tNil)))))) (te := (tTup (tCons (tC (.str ("take" : Str))) (tCons (tVar 7) (tCons (tVar 9) (tCons (tVar 8) (tNil))))))) rfl scDeeds.nd (pi_list (pv 5)) (blkOk_by (own := [("_law_item", 9)]) (N := ["_law_state", "_law_hands", "_law_boxes", "_law_things", "_law_seals", "_law_goods", "_law_found", "_law_hand", "_law_box", "_law_item", "_law_row", "_law_number", "_law_seal", "_law_other", "_law_deed"]) (sc := defScope sDeeds) (by decide +kernel)) (fun _ _ _ _ _ => pg_name (i := 9) scDeeds.nd rfl (.inl rfl)) (fun _ _ _ _ _ => pts_one (pt_cmpR (op_neD hu) (pv 9) (pe_tup (pa_cons pe_str (pa_cons (pv 8) pa_nil))) (nomark _))) (fun _ _ _ _ _ => (pe_tup (pa_cons pe_str (pa_cons (pv 7) (pa_cons (pv 9) (pa_cons (pv 8) (pa_nil)))))))) pa_nil))))))))
      (pss_one (ps_for PassesOwn.never rfl (pi_list (pe_op op_cat (pv 5) (pe_lc (own := [("_law_seal", 12)]) (g := gName 12) (tt := tYes) (te := (tTup (tCons (tC (.str ("seal" : Str))) (tCons (tVar 12) (tNil))))) rfl scDeeds.nd (pi_list (pv 4)) (blkOk_by (own := [("_law_seal", 12)]) (N := ["_law_state", "_law_hands", "_law_boxes", "_law_things", "_law_seals", "_law_goods", "_law_found", "_law_hand", "_law_box", "_law_item", "_law_row", "_law_number", "_law_seal", "_law_other", "_law_deed"]) (sc := defScope sDeeds) (by decide +kernel)) (fun _ _ _ _ _ => pg_name (i := 12) scDeeds.nd rfl (.inl rfl)) (fun _ _ _ _ _ => pts_nil) (fun _ _ _ _ _ => (pe_tup (pa_cons pe_str (pa_cons (pv 12) (pa_nil)))))))) (pg_name (i := 9) scDeeds.nd rfl (.inr rfl)) (pss_one (ps_expr (pe_bm PySem.F.plainAttrs_list PySem.F.slot_list_extend PySem.F.type_list_extend mt_extend (pv 6) (pa_cons (pe_lc (own := [("_law_other", 13)]) (g := gName 13) (tt := (tTest (tOp rNe (tVar 13) (tVar 7)))) (te := (tTup (tCons (tC (.str ("give" : Str))) (tCons (tVar 7) (tCons (tVar 9) (tCons (tVar 13) (tNil))))))) rfl scDeeds.nd (pi_list (pv 1)) (blkOk_by (own := [("_law_other", 13)]) (N := ["_law_state", "_law_hands", "_law_boxes", "_law_things", "_law_seals", "_law_goods", "_law_found", "_law_hand", "_law_box", "_law_item", "_law_row", "_law_number", "_law_seal", "_law_other", "_law_deed"]) (sc := defScope sDeeds) (by decide +kernel)) (fun _ _ _ _ _ => pg_name (i := 13) scDeeds.nd rfl (.inl rfl)) (fun _ _ _ _ _ => pts_one (pt_cmpR op_ne (pv 13) (pv 7) (nomark _))) (fun _ _ _ _ _ => (pe_tup (pa_cons pe_str (pa_cons (pv 7) (pa_cons (pv 9) (pa_cons (pv 13) (pa_nil)))))))) pa_nil))))))))
      (pss_one (ps_ret (pe_callB (cr_sortD hu60) (by rfl) mS (by decide +kernel) (pa_cons (pe_lc (own := [("_law_deed", 14)]) (g := gName 14) (tt := (tTest (tOp rEq (tCall (spBar K) [] E0 (tCons (tVar 0) (tCons (tVar 14) tNil))) (tC (.str ("" : Str)))))) (te := tVar 14) rfl scDeeds.nd (pi_list (pv 6)) (blkOk_by (own := [("_law_deed", 14)]) (N := ["_law_state", "_law_hands", "_law_boxes", "_law_things", "_law_seals", "_law_goods", "_law_found", "_law_hand", "_law_box", "_law_item", "_law_row", "_law_number", "_law_seal", "_law_other", "_law_deed"]) (sc := defScope sDeeds) (by decide +kernel)) (fun _ _ _ _ _ => pg_name (i := 14) scDeeds.nd rfl (.inl rfl)) (fun _ _ _ _ _ => pts_one (pt_cmpR op_eq (pe_call G hr1 rfl mG kG bG .nil pass0 (pa_cons (pv 0) (pa_cons (pv 14) pa_nil))) pe_str (nomark _))) (fun _ _ _ _ _ => pv 14)) pa_nil)))))))), ?_⟩
    obtain ⟨a, v1, v2, v3, rfl, sa, d1, d2, d3⟩ := st_at hx
    have ilen : ∀ (j : Nat) (v : V), [v1, v2, v3][j]? = some v → ∃ l, (rows3 d)[j]? = some l ∧ Dp K H v (plsD l) := fun j v e => by
      match j, e with
      | 0, e => cases e; exact ⟨_, rfl, d1⟩
      | 1, e => cases e; exact ⟨_, rfl, d2⟩
      | 2, e => cases e; exact ⟨_, rfl, d3⟩
      | j + 3, e => simp at e
    have rlen : ∀ (j : Nat) (l : List Pl), (rows3 d)[j]? = some l → l.length ≤ 4 := fun j l e => by
      match j, e with
      | 0, e => cases e; omega
      | 1, e => cases e; omega
      | 2, e => cases e; omega
      | j + 3, e => simp [rows3] at e
    have rl4 : ∀ k, (rowOf d k).length ≤ 4 := fun k => by
      cases k
      · show d.bs.length ≤ 4; omega
      · show d.ts.length ≤ 4; omega
      · show d.ss.length ≤ 4; omega
    -- the numbers
    refine ⟨_, rfl, a, rfl, ⟨_, sa⟩, fun Dl hD => ?_⟩
    have e0 : ∀ (H' : Hp) (o : HO), Same H H' → Same H (L2.upd H' Dl o) := fun H' o e c u h => by rw [upd_ne (ne_of_none h hD)]; exact e c u h
    refine lc_tup (K := K) (a := a) (xs := [v1, v2, v3]) (fun i H' => Same H H' ∧ ∃ ls : List Addr, H' Dl = some (.lst (ls.map V.ref)) ∧ ls.length = i ∧ ∀ (j : Nat) b, ls[j]? = some b → b ≠ Dl ∧ ∃ l, (rows3 d)[j]? = some l ∧ H' b = some (.lst (rgV 0 (l.length : Nat)))) ⟨same_upd hD, [], upd_same, rfl, fun j b e => by simp at e⟩ (fun i H' _ ⟨e, _⟩ => SqT.same e sa) ?_ ?_
    · rintro i y H' hi ⟨e, ls, hls, ll, hall⟩
      obtain ⟨l, hl1, hl2⟩ := ilen i y hi
      obtain ⟨ar, xr, rfl, sr, dr, lr⟩ := pls_at hl2
      have hl4 := rlen i l hl1
      have i3 : i < 3 := (List.getElem?_eq_some_iff.mp hi).1
      refine ⟨wipe_one _ 10 _, yes_lc ?_⟩
      refine ⟨_, rfl, ar, xr, rfl, .inr (SqT.same e sr), _, rfl, RgOk.of_le (by omega) (by omega) (by omega) (by omega), fun q hq => ?_⟩
      have nq : q ≠ Dl := (ne_of_none hls hq).symm
      have f1 := same_upd (o := HO.lst (rgV 0 (xr.length : Nat))) hq
      have hls1 := f1 _ _ hls
      refine ⟨ls.map V.ref, hls1, by rw [sizeLine_eq, List.length_map]; omega, e0 _ _ (e.trans f1), ls ++ [q], ?_, by rw [List.length_append, ll]; rfl, fun j b hb => ?_⟩
      · rw [List.map_append]
        exact upd_same
      · by_cases c : j < ls.length
        · rw [List.getElem?_append_left c] at hb
          obtain ⟨g1, l', g2, g3⟩ := hall j b hb
          exact ⟨g1, l', g2, by rw [upd_ne g1]; exact f1 _ _ g3⟩
        · have ej : j = ls.length := by
            have := (List.getElem?_eq_some_iff.mp hb).1
            simp at this
            omega
          subst ej
          rw [List.getElem?_append_right (Nat.le_refl _), Nat.sub_self] at hb
          have ex : q = b := by simpa using hb
          subst ex
          exact ⟨nq, l, by rw [ll]; exact hl1, by rw [upd_ne nq, ← lr]; exact upd_same⟩
    rintro H3 ⟨e3, ls, hls, ll, hall⟩
    have ll : ls.length = 3 := ll
    obtain ⟨ab, at', as, rfl⟩ : ∃ x y z, ls = [x, y, z] := by
      match ls, ll with
      | [x, y, z], _ => exact ⟨x, y, z, rfl⟩
    obtain ⟨_, l1, q1, hab⟩ := hall 0 ab rfl
    obtain ⟨_, l2, q2, hat⟩ := hall 1 at' rfl
    obtain ⟨_, l3, q3, has⟩ := hall 2 as rfl
    cases q1
    cases q2
    cases q3
    refine ⟨Dl, _, rfl, SqL.of hls, rfl, _, _, rfl, _, _, rfl, _, _, rfl, rfl, ?_⟩
    -- boxes and things
    refine ⟨_, rfl, ab, rfl, ⟨_, SqL.of hab⟩, fun D1 hD1 => ?_⟩
    refine lc_mk (K := K) (fun v H => ItV K d v H) (fun _ _ _ k h => h.nl k) (SqL.of hab) (by rw [rg_len]; omega) hD1 (fun i x H' N Y hi e hN hY => ?_) (fun H4 g1 e4 hg1 lg1 rg1 => ?_)
    · obtain ⟨hi', rfl⟩ := rg_get hi
      exact yes_lc ⟨_, rfl, (by show 2 ≤ sizeLine; decide), fun t ht => hY _ _ (same_upd ht) ⟨(.box, i), .tup (SqT.of upd_same) (.cons (.str _) (.cons (.int _) .nil)), hi'⟩⟩
    refine ⟨_, rfl, at', rfl, ⟨_, SqL.of (e4 _ _ hat)⟩, fun D2 hD2 => ?_⟩
    refine lc_mk (K := K) (fun v H => ItV K d v H) (fun _ _ _ k h => h.nl k) (SqL.of (e4 _ _ hat)) (by rw [rg_len]; omega) hD2 (fun i x H' N Y hi e hN hY => ?_) (fun H5 g2 e5 hg2 lg2 rg2 => ?_)
    · obtain ⟨hi', rfl⟩ := rg_get hi
      exact yes_lc ⟨_, rfl, (by show 2 ≤ sizeLine; decide), fun t ht => hY _ _ (same_upd ht) ⟨(.thing, i), .tup (SqT.of upd_same) (.cons (.str _) (.cons (.int _) .nil)), hi'⟩⟩
    rw [rg_len] at lg1 lg2
    refine ⟨D1, D2, g1, g2, rfl, rfl, e5 _ _ hg1, hg2, by rw [sizeLine_eq]; omega, fun pg hpg => ?_⟩
    have e6 := same_upd (o := HO.lst (g1 ++ g2)) hpg
    have hpg6 : (L2.upd H5 pg (.lst (g1 ++ g2))) pg = some (.lst (g1 ++ g2)) := upd_same
    have rg6 : ∀ v ∈ g1 ++ g2, ItV K d v (L2.upd H5 pg (.lst (g1 ++ g2))) := fun v hv => by
      rcases List.mem_append.mp hv with hv | hv
      · exact (rg1 v hv).nl (nl_same (e5.trans e6))
      · exact (rg2 v hv).nl (nl_same e6)
    have lg : (g1 ++ g2).length ≤ 7 := by rw [List.length_append]; omega
    have e36 := e4.trans (e5.trans e6)
    generalize L2.upd H5 pg (.lst (g1 ++ g2)) = H6 at *
    generalize g1 ++ g2 = gs at *
    refine ⟨(by show 0 ≤ sizeLine; decide), fun L hL => ?_⟩
    have e7 := same_upd (o := HO.lst []) hL
    have e37 := e36.trans e7
    have eH := e3.trans e37
    have hL0 : (L2.upd H6 L (.lst [])) L = some (.lst []) := upd_same
    have hab7 := e37 _ _ hab
    have hat7 := e37 _ _ hat
    have has7 := e37 _ _ has
    have hpg7 := e7 _ _ hpg6
    have hhp7 := eH _ _ hhp
    have rg7 : ∀ v ∈ gs, ItV K d v (L2.upd H6 L (.lst [])) := fun v hv => (rg6 v hv).nl (nl_same e7)
    have hx7 := Dp.same eH _ _ hx
    have nab : ab ≠ L := ne_of_none (e36 _ _ hab) hL
    have nat : at' ≠ L := ne_of_none (e36 _ _ hat) hL
    have nas : as ≠ L := ne_of_none (e36 _ _ has) hL
    have npg : pg ≠ L := ne_of_none hpg6 hL
    have nhp : hp ≠ L := ne_of_none (e36 _ _ (e3 _ _ hhp)) hL
    have noldL : ∀ (b : Addr) o, H b = some o → b ≠ L := fun b o h => ne_of_none (e36 _ _ (e3 _ _ h)) hL
    generalize L2.upd H6 L (.lst []) = H0 at *
    have nlf : ∀ {H' : Hp} {m : Nat}, Fd K d L H0 H' m → Nl H0 H' := fun fd => fd.bt.nl hL0
    -- hand by hand
    refine ⟨_, rfl, hp, rfl, ⟨_, SqL.of hhp7⟩, ?_⟩
    refine for_list (K := K) (a := hp) (xs := rgV 0 (n : Int)) (fun i σ H' => ∃ vh vb vi : Option V, σ = [some (.ref a), some (.ref hp), some (.ref ab), some (.ref at'), some (.ref as), some (.ref pg), some (.ref L), vh, vb, vi, none, none, none, none, none] ∧ Fd K d L H0 H' (i * 100))
      ⟨none, none, none, rfl, But.refl _ _, [], hL0, by simp, fun v hv => nomatch hv⟩ (fun i σ H' _ ⟨_, _, _, _, fd⟩ => SqL.of (fd.bt _ _ hhp7 nhp)) ?_ ?_
    · rintro i y σ H7 hi ⟨vh, vb, vi, rfl, fd⟩
      obtain ⟨hi', rfl⟩ := rg_get hi
      -- box by box
      refine ⟨_, rfl, ab, rfl, ⟨_, SqL.of (fd.bt _ _ hab7 nab)⟩, ?_⟩
      refine for_list (K := K) (a := ab) (xs := rgV 0 (d.bs.length : Nat)) (fun j σ H' => ∃ vb vi : Option V, σ = [some (.ref a), some (.ref hp), some (.ref ab), some (.ref at'), some (.ref as), some (.ref pg), some (.ref L), some (.int (i : Nat)), vb, vi, none, none, none, none, none] ∧ Fd K d L H0 H' (i * 100 + j * 20))
        ⟨vb, vi, rfl, fd⟩ (fun j σ H' _ ⟨_, _, _, fd⟩ => SqL.of (fd.bt _ _ hab7 nab)) ?_ ?_
      · rintro j y σ H8 hj ⟨vb, vi, rfl, fd⟩
        obtain ⟨hj', rfl⟩ := rg_get hj
        obtain ⟨x0, hx0, lx0, _⟩ := fd.ext (Same.refl _)
        refine ⟨_, rfl, .inl ⟨rfl, _, SqL.of hx0⟩, _, rfl, _, rfl, (by show 3 ≤ sizeLine; decide), fun t1 ht1 => ?_⟩
        have f1 := same_upd (o := HO.tup [V.str ("break" : Str), .int (i : Nat), .int (j : Nat)]) ht1
        obtain ⟨x1, hx1, lx1, gx1⟩ := fd.ext f1
        refine ⟨L, x1, .ref t1, rfl, rfl, hx1, by rw [sizeLine_eq]; omega, ?_⟩
        have fd1 := gx1 [.ref t1] 1 (Nat.le_refl _) (fun v hv => by
          have ev : v = .ref t1 := by simpa using hv
          subst ev
          exact ⟨.brk i j, .tup (SqT.of upd_same) (.cons (.str _) (.cons (.int _) (.cons (.int _) .nil))), hj', (⟨by omega, by omega⟩ : i ≤ 1000 ∧ j ≤ 1000)⟩)
        generalize L2.upd (L2.upd H8 t1 (HO.tup [V.str ("break" : Str), .int (i : Nat), .int (j : Nat)])) L (.lst (x1 ++ [.ref t1])) = H9 at *
        -- seals
        obtain ⟨x2, hx2, lx2, _⟩ := fd1.ext (Same.refl _)
        refine ⟨_, rfl, .inl ⟨rfl, _, SqL.of hx2⟩, _, rfl, as, rfl, ⟨_, SqL.of (fd1.bt _ _ has7 nas)⟩, fun D3 hD3 => ?_⟩
        refine lc_mk (K := K) (fun v H => DdV K d v H) (fun _ _ _ k h => h.nl k) (SqL.of (fd1.bt _ _ has7 nas)) (by rw [rg_len]; omega) hD3 (fun m x H' N Y hm e hN hY => ?_) (fun HA z1 eA hz1 lz1 rz1 => ?_)
        · obtain ⟨hm', rfl⟩ := rg_get hm
          exact yes_lc ⟨_, rfl, _, rfl, _, rfl, (by show 4 ≤ sizeLine; decide), fun t ht => hY _ _ (same_upd ht) ⟨.lock i j m, .tup (SqT.of upd_same) (.cons (.str _) (.cons (.int _) (.cons (.int _) (.cons (.int _) .nil)))), ⟨hj', hm'⟩, (⟨by omega, by omega, by omega⟩ : i ≤ 1000 ∧ j ≤ 1000 ∧ m ≤ 1000)⟩⟩
        rw [rg_len] at lz1
        obtain ⟨x3, hx3, lx3, gx3⟩ := fd1.ext eA
        refine ⟨L, D3, x3, z1, rfl, rfl, hx3, hz1, by rw [sizeLine_eq]; omega, ?_⟩
        have fd2 := gx3 z1 3 (by omega) rz1
        generalize L2.upd HA L (.lst (x3 ++ z1)) = HB at *
        -- put
        obtain ⟨x4, hx4, lx4, _⟩ := fd2.ext (Same.refl _)
        refine ⟨_, rfl, .inl ⟨rfl, _, SqL.of hx4⟩, _, rfl, pg, rfl, ⟨_, SqL.of (fd2.bt _ _ hpg7 npg)⟩, fun D4 hD4 => ?_⟩
        have nlB := nlf fd2
        refine lc_mk (K := K) (fun v H => DdV K d v H) (fun _ _ _ k h => h.nl k) (SqL.of (fd2.bt _ _ hpg7 npg)) (by omega) hD4 (fun m x H' N Y hm e hN hY => ?_) (fun HC z2 eC hz2 lz2 rz2 => ?_)
        · obtain ⟨p, hp1, hp2⟩ := ((rg7 x (List.mem_of_getElem? hm)).nl nlB).nl (nl_same e)
          refine ⟨_, rfl, _, rfl, (by show 2 ≤ sizeLine; decide), fun t ht => ?_⟩
          have ft := same_upd (o := HO.tup [V.str ("box" : Str), .int (j : Nat)]) ht
          refine ⟨itP p, itP (.box, j), Dp.same ft _ _ hp1, .tup (SqT.of upd_same) (.cons (.str _) (.cons (.int _) .nil)), shaped_it _, shaped_it _, _, rfl, ite_b _ (fun _ => ?_) (fun _ => hN _ ft)⟩
          refine ⟨_, rfl, _, rfl, _, rfl, (by show 4 ≤ sizeLine; decide), fun t2 ht2 => hY _ _ (ft.trans (same_upd ht2)) ⟨.put i p j, .tup (SqT.of upd_same) (.cons (.str _) (.cons (.int _) (.cons (Dp.same (ft.trans (same_upd ht2)) _ _ hp1) (.cons (.int _) .nil)))), ⟨?_, hj'⟩, (⟨by omega, by have := rl4 p.1; omega, by omega⟩ : i ≤ 1000 ∧ p.2 ≤ 1000 ∧ j ≤ 1000)⟩⟩
          unfold whereD
          rw [List.getElem?_eq_getElem hp2]
          rfl
        obtain ⟨x5, hx5, lx5, gx5⟩ := fd2.ext eC
        refine ⟨L, D4, x5, z2, rfl, rfl, hx5, hz2, by rw [sizeLine_eq]; omega, ?_⟩
        have fd3 := gx5 z2 7 (by omega) rz2
        generalize L2.upd HC L (.lst (x5 ++ z2)) = HE at *
        -- take
        obtain ⟨x6, hx6, lx6, _⟩ := fd3.ext (Same.refl _)
        refine ⟨_, rfl, .inl ⟨rfl, _, SqL.of hx6⟩, _, rfl, pg, rfl, ⟨_, SqL.of (fd3.bt _ _ hpg7 npg)⟩, fun D5 hD5 => ?_⟩
        have nlE := nlf fd3
        refine lc_mk (K := K) (fun v H => DdV K d v H) (fun _ _ _ k h => h.nl k) (SqL.of (fd3.bt _ _ hpg7 npg)) (by omega) hD5 (fun m x H' N Y hm e hN hY => ?_) (fun HF z3 eF hz3 lz3 rz3 => ?_)
        · obtain ⟨p, hp1, hp2⟩ := ((rg7 x (List.mem_of_getElem? hm)).nl nlE).nl (nl_same e)
          refine ⟨_, rfl, _, rfl, (by show 2 ≤ sizeLine; decide), fun t ht => ?_⟩
          have ft := same_upd (o := HO.tup [V.str ("box" : Str), .int (j : Nat)]) ht
          refine ⟨itP p, itP (.box, j), Dp.same ft _ _ hp1, .tup (SqT.of upd_same) (.cons (.str _) (.cons (.int _) .nil)), shaped_it _, shaped_it _, _, rfl, ite_b _ (fun _ => ?_) (fun _ => hN _ ft)⟩
          refine ⟨_, rfl, _, rfl, _, rfl, (by show 4 ≤ sizeLine; decide), fun t2 ht2 => hY _ _ (ft.trans (same_upd ht2)) ⟨.take i p j, .tup (SqT.of upd_same) (.cons (.str _) (.cons (.int _) (.cons (Dp.same (ft.trans (same_upd ht2)) _ _ hp1) (.cons (.int _) .nil)))), ⟨?_, hj'⟩, (⟨by omega, by have := rl4 p.1; omega, by omega⟩ : i ≤ 1000 ∧ p.2 ≤ 1000 ∧ j ≤ 1000)⟩⟩
          unfold whereD
          rw [List.getElem?_eq_getElem hp2]
          rfl
        obtain ⟨x7, hx7', lx7, gx7⟩ := fd3.ext eF
        refine ⟨L, D5, x7, z3, rfl, rfl, hx7', hz3, by rw [sizeLine_eq]; omega, ?_⟩
        have fd4 := gx7 z3 7 (by omega) rz3
        exact ⟨_, _, rfl, fd4.more (by omega)⟩
      rintro σ H8 ⟨vb, vi, rfl, fd⟩
      rw [rg_len] at fd
      -- what is given
      refine ⟨_, rfl, _, rfl, as, rfl, ⟨_, SqL.of (fd.bt _ _ has7 nas)⟩, fun D6 hD6 => ?_⟩
      refine lc_mk (K := K) (fun v H => ItV K d v H) (fun _ _ _ k h => h.nl k) (SqL.of (fd.bt _ _ has7 nas)) (by rw [rg_len]; omega) hD6 (fun m x H' N Y hm e hN hY => ?_) (fun HA z1 eA hz1 lz1 rz1 => ?_)
      · obtain ⟨hm', rfl⟩ := rg_get hm
        exact yes_lc ⟨_, rfl, (by show 2 ≤ sizeLine; decide), fun t ht => hY _ _ (same_upd ht) ⟨(.sl, m), .tup (SqT.of upd_same) (.cons (.str _) (.cons (.int _) .nil)), hm'⟩⟩
      rw [rg_len] at lz1
      have hpgA := eA _ _ (fd.bt _ _ hpg7 npg)
      refine ⟨pg, D6, gs, z1, rfl, rfl, hpgA, hz1, by rw [sizeLine_eq]; omega, fun pj hpj => ?_⟩
      have fj := eA.trans (same_upd (o := HO.lst (gs ++ z1)) hpj)
      obtain ⟨x8, hx8, lx8, gx8⟩ := fd.ext fj
      have npj : pj ≠ L := (ne_of_none (eA _ _ (fd.ext (Same.refl _)).choose_spec.1) hpj).symm
      have hpj0 : (L2.upd HA pj (.lst (gs ++ z1))) pj = some (.lst (gs ++ z1)) := upd_same
      have nl8 := nlf fd
      have rj : ∀ v ∈ gs ++ z1, ItV K d v (L2.upd HA pj (.lst (gs ++ z1))) := fun v hv => by
        rcases List.mem_append.mp hv with hv | hv
        · exact ((rg7 v hv).nl nl8).nl (nl_same fj)
        · exact (rz1 v hv).nl (nl_same (same_upd hpj))
      have lj : (gs ++ z1).length ≤ 10 := by rw [List.length_append]; omega
      have btj : But L H0 (L2.upd HA pj (.lst (gs ++ z1))) := fd.bt.trans (But.same fj)
      have fdj : Fd K d L H0 (L2.upd HA pj (.lst (gs ++ z1))) (i * 100 + d.bs.length * 20) := by
        obtain ⟨xs, a1, a2, a3⟩ := fd.ex
        exact ⟨btj, xs, fj _ _ a1, a2, fun v hv => (a3 v hv).nl (nl_same fj)⟩
      generalize L2.upd HA pj (.lst (gs ++ z1)) = HJ at *
      generalize gs ++ z1 = js at *
      refine ⟨pj, rfl, ⟨_, SqL.of hpj0⟩, ?_⟩
      refine for_list (K := K) (a := pj) (xs := js) (fun j σ H' => ∃ vi : Option V, σ = [some (.ref a), some (.ref hp), some (.ref ab), some (.ref at'), some (.ref as), some (.ref pg), some (.ref L), some (.int (i : Nat)), vb, vi, none, none, none, none, none] ∧ Fd K d L H0 H' (i * 100 + d.bs.length * 20 + j * 4) ∧ But L HJ H')
        ⟨vi, rfl, fdj.more (by omega), But.refl _ _⟩ (fun j σ H' _ ⟨_, _, _, bj⟩ => SqL.of (bj _ _ hpj0 npj)) ?_ ?_
      · rintro j y σ HK hj ⟨vi, rfl, fdk, bj⟩
        obtain ⟨xL, hxL, _, _⟩ := fdj.ex
        have nlJ : Nl HJ HK := bj.nl hxL
        obtain ⟨x2, hx2, lx2, _⟩ := fdk.ext (Same.refl _)
        refine ⟨_, rfl, .inl ⟨rfl, _, SqL.of hx2⟩, _, rfl, hp, rfl, ⟨_, SqL.of (fdk.bt _ _ hhp7 nhp)⟩, fun D7 hD7 => ?_⟩
        refine lc_mk (K := K) (fun v H => DdV K d v H) (fun _ _ _ k h => h.nl k) (SqL.of (fdk.bt _ _ hhp7 nhp)) (by rw [rg_len]; omega) hD7 (fun m x H' N Y hm e hN hY => ?_) (fun HA2 z2 eA2 hz2 lz2 rz2 => ?_)
        · obtain ⟨hm', rfl⟩ := rg_get hm
          obtain ⟨p, hp1, hp2⟩ := ((rj y (List.mem_of_getElem? hj)).nl nlJ).nl (nl_same e)
          refine ⟨_, rfl, _, rfl, rfl, _, rfl, ite_b _ (fun _ => ?_) (fun _ => hN _ (Same.refl _))⟩
          refine ⟨_, rfl, _, rfl, _, rfl, (by show 4 ≤ sizeLine; decide), fun t2 ht2 => hY _ _ (same_upd ht2) ⟨.give i p m, .tup (SqT.of upd_same) (.cons (.str _) (.cons (.int _) (.cons (Dp.same (same_upd ht2) _ _ hp1) (.cons (.int _) .nil)))), ?_, (⟨by omega, by have := rl4 p.1; omega, by omega⟩ : i ≤ 1000 ∧ p.2 ≤ 1000 ∧ m ≤ 1000)⟩⟩
          show (whereD d p).isSome = true
          unfold whereD
          rw [List.getElem?_eq_getElem hp2]
          rfl
        rw [rg_len] at lz2
        obtain ⟨x3, hx3, lx3, gx3⟩ := fdk.ext eA2
        have j1 := (List.getElem?_eq_some_iff.mp hj).1
        refine ⟨L, D7, x3, z2, rfl, rfl, hx3, hz2, by rw [sizeLine_eq]; omega, ?_⟩
        have fd2 := gx3 z2 4 (by omega) rz2
        refine ⟨_, rfl, fd2.more (by omega), fun b o hb nb => ?_⟩
        rw [upd_ne nb]
        exact eA2 _ _ (bj b o hb nb)
      · rintro σ HK ⟨vi, rfl, fdk, bj⟩
        exact ⟨_, _, _, rfl, fdk.more (by omega)⟩
    -- those that can be done, in order
    rintro σ H7 ⟨vh, vb, vi, rfl, fd⟩
    rw [rg_len] at fd
    obtain ⟨x8, hx8, lx8, rx8⟩ := fd.ex
    have e8 : Same H H7 := fun b o h => fd.bt b o (eH b o h) (noldL b o h)
    refine ⟨_, rfl, L, rfl, ⟨_, SqL.of hx8⟩, fun D9 hD9 => ?_⟩
    refine lc_mk (K := K) (fun v H => DdV K d v H) (fun _ _ _ k h => h.nl k) (SqL.of hx8) (by omega) hD9 (fun m x H' N Y hm e hN hY => ?_) (fun H9 z9 e9 hz9 lz9 rz9 => ?_)
    · obtain ⟨ed, he1, he2⟩ := (rx8 x (List.mem_of_getElem? hm)).nl (nl_same e)
      refine ⟨_, rfl, _, rfl, _, _, d, ed, rfl, Dp.same (e8.trans e) _ _ hx, he1, he2.1, fun H'' e'' => ⟨rfl, _, rfl, ite_b _ (fun _ => ⟨_, rfl, hY _ _ e'' ⟨ed, Dp.same e'' _ _ he1, he2⟩⟩) (fun _ => hN _ e'')⟩⟩
    obtain ⟨es, hes⟩ := dds_all rz9
    refine ⟨D9, z9, es.map ddD, rfl, SqL.of hz9, hes, fun q hq => ?_, fun q hq q' hq' => ?_, fun ys p hperm hp9 => ?_⟩
    · obtain ⟨e', _, rfl⟩ := List.mem_map.mp hq
      exact sd_dd e'
    · obtain ⟨e', _, rfl⟩ := List.mem_map.mp hq
      obtain ⟨f', _, rfl⟩ := List.mem_map.mp hq'
      exact tc_dd e' f'
    · have eL := e8.trans e9
      refine k p ys _ (eL.trans (same_upd hp9)) ?_ upd_same (by rw [hperm.length_eq]; omega) (fun v hv => (rz9 v (hperm.mem_iff.mp hv)).nl (nl_same (same_upd hp9)))
      cases hq : H p with
      | none => rfl
      | some o =>
        have := eL _ _ hq
        rw [hp9] at this
        cases this
end
end Kw

set_option Elab.async false
set_option linter.all false
set_option maxRecDepth 100000
set_option maxHeartbeats 4000000
namespace Kw
open PySem PySem.Spec PyProof.Rows L2
abbrev sDrawn : Stmt := top 63
abbrev sUnk : Stmt := top 64
section
variable {P : Program} {w : World} {K : PySem.W.Frag} {mg : Str → Option Value} {base : Heap}
/-! ### _law_drawn -/
def words8 : List V := [.str ("break" : Str), .str ("give" : Str), .str ("give" : Str), .str ("put" : Str), .str ("put" : Str), .str ("seal" : Str), .str ("take" : Str), .str ("take" : Str)]
def kinds3 : List V := [.str ("box" : Str), .str ("seal" : Str), .str ("thing" : Str)]
inductive W5 where
  | brk | give | put | lock | take
def W5.str : W5 → Str
  | .brk => "break"
  | .give => "give"
  | .put => "put"
  | .lock => "seal"
  | .take => "take"
theorem at_words {r : Int} (h0 : 0 ≤ r) (h1 : r < 8) : ∃ w : W5, atI words8 r = some (.str w.str) := by
  have : r = 0 ∨ r = 1 ∨ r = 2 ∨ r = 3 ∨ r = 4 ∨ r = 5 ∨ r = 6 ∨ r = 7 := by omega
  rcases this with rfl | rfl | rfl | rfl | rfl | rfl | rfl | rfl
  · exact ⟨.brk, rfl⟩
  · exact ⟨.give, rfl⟩
  · exact ⟨.give, rfl⟩
  · exact ⟨.put, rfl⟩
  · exact ⟨.put, rfl⟩
  · exact ⟨.lock, rfl⟩
  · exact ⟨.take, rfl⟩
  · exact ⟨.take, rfl⟩
theorem at_kinds3 {r : Int} (h0 : 0 ≤ r) (h1 : r < 3) : ∃ k : Kd, atI kinds3 r = some (.str k.str) := by
  have : r = 0 ∨ r = 1 ∨ r = 2 := by omega
  rcases this with rfl | rfl | rfl
  · exact ⟨.box, rfl⟩
  · exact ⟨.sl, rfl⟩
  · exact ⟨.thing, rfl⟩
theorem merge3 {a b c : Key} {x y z : V} (h1 : ¬ a = b) (h2 : ¬ a = c) (h3 : ¬ b = c) : mergeK [] [(a, x), (b, y), (c, z)] = [(a, x), (b, y), (c, z)] := by
  simp [mergeK, putK, h1, h2, h3]
def cntsK (d : Hs) : List (Key × V) := [(.inr "box", .int (d.bs.length : Nat)), (.inr "seal", .int (d.ss.length : Nat)), (.inr "thing", .int (d.ts.length : Nat))]
theorem merge_cnts (d : Hs) : mergeK [] (cntsK d) = cntsK d := merge3 (by decide +kernel) (by decide +kernel) (by decide +kernel)
theorem val3 {a b c : Key} {x y z : V} (h2 : ¬ a = c) (h3 : ¬ b = c) : valV [(a, x), (b, y), (c, z)] c = some z := by
  simp [valV, List.find?_cons, h2, h3]
theorem val2 {a b c : Key} {x y z : V} (h1 : ¬ a = b) : valV [(a, x), (b, y), (c, z)] b = some y := by
  simp [valV, List.find?_cons, h1]
theorem val_cnts (d : Hs) (k : Kd) : valV (cntsK d) (.inr k.str) = some (.int ((rowOf d k).length : Nat)) := by
  cases k
  · exact valV_pos rfl
  · exact val3 (by decide +kernel) (by decide +kernel)
  · exact val2 (by decide +kernel)
theorem nat_of {r : Int} (h : 0 ≤ r) : ∃ n : Nat, r = (n : Int) := ⟨r.toNat, by omega⟩
structure DrawnPre (d : Hs) : Prop where
  h1 : 1 ≤ d.hands
  h2 : d.hands ≤ 100
  b1 : 1 ≤ d.bs.length
  b2 : d.bs.length ≤ 100
  t2 : d.ts.length ≤ 100
  s2 : d.ss.length ≤ 100
def spDrawn (K : PySem.W.Frag) (C : Addr) : Sp := fun vs H Q _ => ∃ (b l h : Addr) (d : Hs), vs = [.ref b, .ref h] ∧ BoxAt H b l ∧ HouseAt K C H h d ∧ DrawnPre d ∧ ∀ v e H', BoxAt H' b l → Kb b l H H' → Dp K H' v (ddD e) → Sm e → Q v H'
theorem scDrawn : FnScope ["_law_box", "_law_house_here", "_law_word", "_law_hand", "_law_number", "_law_kind", "_law_counts", "_law_item", "_law_count"] ["_law_box", "_law_house_here"] (defScope sDrawn) := ⟨rfl, rfl, rfl, by decide +kernel, rfl, by decide +kernel, by decide +kernel⟩
theorem add_bl {i : Int} (k : Bool) (h1 : 1 ≤ i) (h2 : i ≤ 100) : 0 < i + (if k then 1 else 0) ∧ i + (if k then 1 else 0) ≤ 1000 := by
  cases k <;> simp <;> omega
theorem max_bl {n : Int} (h2 : n ≤ 100) : 0 < (if n > 1 then n else 1) ∧ (if n > 1 then n else 1) ≤ 1000 := by
  by_cases h : n > 1
  · rw [if_pos h]; omega
  · rw [if_neg h]; omega
theorem ok_drawn {f gT C : Addr} {fd fdT : FuncData} (F : Fun K "_law_drawn" "_law_drawn" sDrawn f fd) (B : Bt mg) (mX : mg "max" = none) (T : HouseC K C)
    (GT : FnOk P w K mg base CX0 1 gT fdT ["_law_box", "_law_many"] spTake) (mT : mg "_law_take" = some (.ref gT)) (kT : PySem.W.keepIn K (.ref gT) = true) (bT : Binds K fdT ["_law_box", "_law_many"] []) :
    FnOk P w K mg base CX0 2 f fd ["_law_box", "_law_house_here"] (spDrawn K C) := by
  refine F.ok scDrawn (fun vs H Q E h => ?_) (fun cdv A outer s H vs Q E hr h => ?_)
  · obtain ⟨b, l, h, d, rfl, _⟩ := h
    rfl
  · obtain ⟨b, l, h, d, rfl, hB, hh, pre, k⟩ := h
    have hu1 : (cxOf CX0 P w K mg base ["_law_box", "_law_house_here", "_law_word", "_law_hand", "_law_number", "_law_kind", "_law_counts", "_law_item", "_law_count"] "_law_drawn" (defScope sDrawn) f cdv A outer s H E).nox.A.units + 1 < cLine := by have := hr.un; show (A.deeper _).units + 1 < cLine; omega
    refine ⟨_, (pss_cons (ps_set (i := 2) scDrawn.nd rfl (.inl rfl) (pe_ix ix_list (pe_lst (pa_cons pe_str (pa_cons pe_str (pa_cons pe_str (pa_cons pe_str (pa_cons pe_str (pa_cons pe_str (pa_cons pe_str (pa_cons pe_str pa_nil))))))))) (pe_call GT hr rfl mT kT bT .nil pass0 (pa_cons (pv 0) (pa_cons pe_int pa_nil))) (fun _ _ => rfl)))
      (pss_cons (ps_asg (pe_lc (own := [("_law_count", 8)]) (g := gName 8) (tt := tYes) (te := tCall spTake [] E0 (tCons (tVar 0) (tCons (tOp (rI0 fun i j => .int (i + j)) (tVar 8) (tCB (fun xs H Q => (∃ i, xs = [V.int i] ∧ Q (.int i) H) ∨ ∃ k, xs = [V.bl k] ∧ Q (.int (if k then 1 else 0)) H) (tCons (tOp rEq (tCall spTake [] E0 (tCons (tVar 0) (tCons (tC (.int 12)) tNil))) (tC (.int 0))) tNil))) tNil)))
          rfl scDrawn.nd (pi_tup (pe_tup (pa_cons (pe_fld (pv 1) rfl) (pa_cons (pe_callB call_len_seq (by rfl) B.len PySem.boot_len (pa_cons (pe_fld (pv 1) rfl) pa_nil)) pa_nil)))) (blkOk_by (own := [("_law_count", 8)]) (N := ["_law_box", "_law_house_here", "_law_word", "_law_hand", "_law_number", "_law_kind", "_law_counts", "_law_item", "_law_count"]) (sc := defScope sDrawn) (by decide +kernel)) (fun _ _ _ _ _ => pg_name (i := 8) scDrawn.nd rfl (.inl rfl)) (fun _ _ _ _ _ => pts_nil) (fun _ _ _ _ _ => (pe_call GT hr rfl mT kT bT .nil pass0 (pa_cons (pv 0) (pa_cons (pe_op op_add (pv 8) (pe_callTy call_int1 (by rfl) B.int (by decide +kernel) (pa_cons (pe_cmpR op_eq (pe_call GT hr rfl mT kT bT .nil pass0 (pa_cons (pv 0) (pa_cons pe_int pa_nil))) pe_int (nomark _)) pa_nil))) pa_nil))))) (pg_lst rfl (pgs_cons (pg_name (i := 3) scDrawn.nd rfl (.inl rfl)) (pgs_cons (pg_name (i := 4) scDrawn.nd rfl (.inl rfl)) pgs_nil))))
      (pss_cons (ps_set (i := 5) scDrawn.nd rfl (.inl rfl) (pe_ix ix_list (pe_lst (pa_cons pe_str (pa_cons pe_str (pa_cons pe_str pa_nil)))) (pe_call GT hr rfl mT kT bT .nil pass0 (pa_cons (pv 0) (pa_cons pe_int pa_nil))) (fun _ _ => rfl)))
      (pss_cons (ps_set (i := 6) scDrawn.nd rfl (.inl rfl) (pe_disp (pps_cons pe_str (pe_callB call_len_seq (by rfl) B.len PySem.boot_len (pa_cons (pe_fld (pv 1) rfl) pa_nil)) (pps_cons pe_str (pe_callB call_len_seq (by rfl) B.len PySem.boot_len (pa_cons (pe_fld (pv 1) rfl) pa_nil)) (pps_cons pe_str (pe_callB call_len_seq (by rfl) B.len PySem.boot_len (pa_cons (pe_fld (pv 1) rfl) pa_nil)) pps_nil))) (by rfl) (by rfl) (fun z => by cases z) (by decide)))
      (pss_cons (ps_set (i := 7) scDrawn.nd rfl (.inl rfl) (pe_tup (pa_cons (pv 5) (pa_cons (pe_call GT hr rfl mT kT bT .nil pass0 (pa_cons (pv 0) (pa_cons (pe_callB (call_max2 rfl) (by rfl) mX (by decide +kernel) (pa_cons pe_int (pa_cons (pe_dget hu1 (pv 6) (pv 5) (fun _ _ => rfl)) pa_nil))) pa_nil))) pa_nil))))
      (pss_cons (ps_if (pt_cmpR op_eq (pv 2) pe_str (nomark _)) (pss_one (ps_ret (pe_tup (pa_cons (pv 2) (pa_cons (pv 3) (pa_cons (pv 4) pa_nil)))))) pss_nil)
      (pss_cons (ps_if (pt_cmpR op_eq (pv 2) pe_str (nomark _)) (pss_one (ps_ret (pe_tup (pa_cons (pv 2) (pa_cons (pv 3) (pa_cons (pv 7) (pa_cons (pe_call GT hr rfl mT kT bT .nil pass0 (pa_cons (pv 0) (pa_cons (pe_op op_add (pe_fld (pv 1) rfl) (pe_callTy call_int1 (by rfl) B.int (by decide +kernel) (pa_cons (pe_cmpR op_eq (pe_call GT hr rfl mT kT bT .nil pass0 (pa_cons (pv 0) (pa_cons pe_int pa_nil))) pe_int (nomark _)) pa_nil))) pa_nil))) pa_nil))))))) pss_nil)
      (pss_one (ps_ret (pe_ifExp (pt_cmpR op_eq (pv 2) pe_str (nomark _)) (pe_tup (pa_cons (pv 2) (pa_cons (pv 3) (pa_cons (pv 4) (pa_cons (pe_call GT hr rfl mT kT bT .nil pass0 (pa_cons (pv 0) (pa_cons pe_int pa_nil))) pa_nil))))) (pe_tup (pa_cons (pv 2) (pa_cons (pv 3) (pa_cons (pv 7) (pa_cons (pv 4) pa_nil))))))))))))))), ?_⟩
    have fld : ∀ H', Kb b l H H' → HouseAt K C H' h d := fun H' k' => hh.nl k'.nl
    -- the word
    refine ⟨(by show 8 ≤ sizeLine; decide), fun L1 hL1 => ?_⟩
    have hB1 := hB.upd (o := HO.lst words8) hL1
    have n1 := hB.neL hL1
    refine ⟨_, rfl, b, l, 8, rfl, by omega, by omega, hB1, fun r1 H1 r10 r11 hB1 k1 => ?_⟩
    obtain ⟨w5, hw5⟩ := at_words r10 r11
    refine ⟨L1, words8, r1, .str w5.str, rfl, rfl, SqL.of (k1.kp.ls _ _ upd_same n1.1 n1.2), hw5, ?_⟩
    have k1 : Kb b l H H1 := (Kb.same (same_upd hL1)).trans k1
    -- the hand and the box
    obtain ⟨dx, vb, vt, vs, vst, g0, g1, g2, g3, g4⟩ := (fld _ k1).ex
    obtain ⟨ab, xb, rfl, qb, db, lb⟩ := pls_at g1
    refine ⟨_, rfl, h, C, dx, _, _, rfl, g0, T.cl, T.nH, fs_hands _ _ _ _ _, _, rfl, h, C, dx, _, _, rfl, g0, T.cl, T.nB, fs_boxes _ _ _ _ _, ab, xb, rfl, .inr qb, (by show 2 ≤ sizeLine; decide), fun t ht => ⟨t, rfl, ⟨_, SqT.of upd_same⟩, fun D hD => ?_⟩⟩
    have hBt := hB1.upd (o := HO.tup [.int d.hands, .int (xb.length : Nat)]) ht
    have nD := hBt.neL hD
    have cnt : ∀ (i : Nat) (x : V), [V.int d.hands, .int (xb.length : Nat)][i]? = some x → ∃ m : Int, x = .int m ∧ 1 ≤ m ∧ m ≤ 100 := fun i x e => by
      have p1 := pre.h1
      have p2 := pre.h2
      have p3 := pre.b1
      have p4 := pre.b2
      match i, e with
      | 0, e => cases e; exact ⟨_, rfl, p1, p2⟩
      | 1, e => cases e; exact ⟨_, rfl, by omega, by omega⟩
      | i + 2, e => simp at e
    have kt : Kb b l H (L2.upd H1 t (.tup [.int d.hands, .int (xb.length : Nat)])) := k1.trans (Kb.same (same_upd ht))
    have hT : (L2.upd H1 t (.tup [.int d.hands, .int (xb.length : Nat)])) t = some (.tup [.int d.hands, .int (xb.length : Nat)]) := upd_same
    generalize L2.upd H1 t (.tup [.int d.hands, .int (xb.length : Nat)]) = Ht at *
    refine lc_tup (K := K) (a := t) (xs := [.int d.hands, .int (xb.length : Nat)]) (fun i H' => BoxAt H' b l ∧ Kb b l Ht H' ∧ ∃ ns : List Nat, H' D = some (.lst (ns.map fun n => V.int (n : Nat))) ∧ ns.length = i ∧ ∀ n ∈ ns, n ≤ 1000)
      ⟨hBt.upd hD, Kb.same (same_upd hD), [], upd_same, rfl, fun n z => nomatch z⟩ (fun i H' _ ⟨_, e, _⟩ => SqT.nl e.nl (SqT.of hT)) ?_ ?_
    · rintro i x H' hi ⟨hB2, k2, ns, hns, ln, sn⟩
      obtain ⟨m, rfl, m1, m2⟩ := cnt i x hi
      have i2 := (List.getElem?_eq_some_iff.mp hi).1
      have i2 : i < 2 := i2
      refine ⟨wipe_one _ 8 _, yes_lc ?_⟩
      refine ⟨_, rfl, _, rfl, _, rfl, b, l, 12, rfl, by omega, by omega, hB2, fun r2 H2 r20 r21 hB3 k3 => ⟨rfl, .inr ⟨_, rfl, _, _, rfl, rfl, b, l, _, rfl, (add_bl _ m1 m2).1, (add_bl _ m1 m2).2, hB3, fun r3 H3 r30 r31 hB4 k4 => ?_⟩⟩⟩
      obtain ⟨n3, rfl⟩ := nat_of r30
      have hD3 := (k3.trans k4).kp.ls _ _ hns nD.1 nD.2
      refine ⟨_, hD3, by rw [sizeLine_eq, List.length_map]; omega, hB4.updD nD.1 nD.2, ((k2.trans k3).trans k4).updD hD, ns ++ [n3], ?_, by rw [List.length_append, ln]; rfl, fun z hz => ?_⟩
      · rw [List.map_append]
        exact upd_same
      · rcases List.mem_append.mp hz with hz | hz
        · exact sn z hz
        · have ez : z = n3 := by simpa using hz
          subst ez
          have a1 := (add_bl (decide (V.int r2 = V.int 0)) m1 m2).2
          have r31' : ((z : Nat) : Int) < m + (if decide (V.int r2 = V.int 0) = true then 1 else 0) := r31
          omega
    rintro H4 ⟨hB4, k4, ns, hns, ln, sn⟩
    obtain ⟨nh, nb, rfl⟩ : ∃ x y, ns = [x, y] := by
      have ln : ns.length = 2 := ln
      match ns, ln with
      | [x, y], _ => exact ⟨x, y, rfl⟩
    have snh : nh ≤ 1000 := sn nh (by simp)
    have snb : nb ≤ 1000 := sn nb (by simp)
    have k4 := kt.trans k4
    refine ⟨D, _, rfl, SqL.of hns, rfl, _, _, rfl, _, _, rfl, rfl, ?_⟩
    -- the kind
    refine ⟨(by show 3 ≤ sizeLine; decide), fun Lk hLk => ?_⟩
    have n2 := hB4.neL hLk
    have hB5 := hB4.upd (o := HO.lst kinds3) hLk
    refine ⟨_, rfl, b, l, 3, rfl, by omega, by omega, hB5, fun r5 H5 r50 r51 hB5 k5 => ?_⟩
    obtain ⟨kd, hkd⟩ := at_kinds3 r50 r51
    refine ⟨Lk, kinds3, r5, .str kd.str, rfl, rfl, SqL.of (k5.kp.ls _ _ upd_same n2.1 n2.2), hkd, ?_⟩
    have k5 : Kb b l H H5 := (k4.trans (Kb.same (same_upd hLk))).trans k5
    -- the counts
    intro pc hpc
    have hB6 := hB5.upd (o := HO.dK []) hpc
    have k6 : Kb b l H (L2.upd H5 pc (.dK [])) := k5.trans (Kb.same (same_upd hpc))
    obtain ⟨dx, vb, vt, vs, vst, g0, g1, g2, g3, g4⟩ := (fld _ k6).ex
    obtain ⟨ab, xb, rfl, qb, db, lb⟩ := pls_at g1
    obtain ⟨at', xt, rfl, qt, dt, lt⟩ := pls_at g2
    obtain ⟨as, xs, rfl, qs, ds, ls⟩ := pls_at g3
    refine ⟨_, rfl, h, C, dx, _, _, rfl, g0, T.cl, T.nB, fs_boxes _ _ _ _ _, ab, xb, rfl, .inr qb, _, rfl, h, C, dx, _, _, rfl, g0, T.cl, T.nS, fs_seals _ _ _ _ _, as, xs, rfl, .inr qs, _, rfl, h, C, dx, _, _, rfl, g0, T.cl, T.nT, fs_things _ _ _ _ _, at', xt, rfl, .inr qt, upd_same, cntsK d, ?_, (by show 3 ≤ 15; decide), ?_⟩
    · rw [lb, ls, lt]
      rfl
    rw [merge_cnts, upd_upd]
    have hpcH : H5 pc = none := hpc
    have e7 := same_upd (o := HO.dK (cntsK d)) hpcH
    have hB7 := hB5.upd (o := HO.dK (cntsK d)) hpcH
    have k7 := k5.trans (Kb.same e7)
    have hpc7 : (L2.upd H5 pc (.dK (cntsK d))) pc = some (.dK (cntsK d)) := upd_same
    generalize L2.upd H5 pc (.dK (cntsK d)) = H7 at *
    -- the item
    have rl : ((rowOf d kd).length : Int) ≤ 100 := by
      have p1 := pre.b2
      have p2 := pre.t2
      have p3 := pre.s2
      cases kd
      · show ((d.bs.length : Nat) : Int) ≤ 100; omega
      · show ((d.ts.length : Nat) : Int) ≤ 100; omega
      · show ((d.ss.length : Nat) : Int) ≤ 100; omega
    refine ⟨_, rfl, _, rfl, _, rfl, _, rfl, pc, _, rfl, DGet.k (k := Sum.inr kd.str) hpc7 |> (fun g => by rw [val_cnts] at g; exact g), 1, _, rfl, b, l, _, rfl, (max_bl rl).1, (max_bl rl).2, hB7, fun r8 H8 r80 r81 hB8 k8 => ?_⟩
    obtain ⟨ni, rfl⟩ := nat_of r80
    have sni : ni ≤ 1000 := by have a1 := (max_bl rl).2; omega
    refine ⟨(by show 2 ≤ sizeLine; decide), fun ti hti => ?_⟩
    have hB9 := hB8.upd (o := HO.tup [.str kd.str, .int (ni : Nat)]) hti
    have k9 := (k7.trans k8).trans (Kb.same (same_upd (o := HO.tup [.str kd.str, .int (ni : Nat)]) hti))
    have di : Dp K (L2.upd H8 ti (.tup [.str kd.str, .int (ni : Nat)])) (.ref ti) (itP (kd, ni)) := .tup (SqT.of upd_same) (.cons (.str _) (.cons (.int _) .nil))
    generalize L2.upd H8 ti (.tup [.str kd.str, .int (ni : Nat)]) = H9 at *
    have fin : ∀ (e : Dd) (v : V) (H' : Hp), BoxAt H' b l → Kb b l H9 H' → Dp K H' v (ddD e) → Sm e → Q v H' := fun e v H' h1 h2 h3 h4 => k v e H' h1 (k9.trans h2) h3 h4
    -- the deed
    cases w5 with
    | brk =>
      dsimp only [W5.str] at *
      refine ⟨_, rfl, rfl, _, rfl, iteTe (by decide +kernel) ⟨_, rfl, _, rfl, _, rfl, (by show 3 ≤ sizeLine; decide), fun t ht => ?_⟩⟩
      exact fin (.brk nh nb) _ _ (hB9.upd ht) (Kb.same (same_upd ht)) (.tup (SqT.of upd_same) (.cons (.str _) (.cons (.int _) (.cons (.int _) .nil)))) ⟨snh, snb⟩
    | give =>
      dsimp only [W5.str] at *
      refine ⟨_, rfl, rfl, _, rfl, iteFe (by decide +kernel) ⟨_, rfl, rfl, _, rfl, iteTe (by decide +kernel) ?_⟩⟩
      obtain ⟨dx, vb, vt, vs, vst, g0, _⟩ := (fld _ k9).ex
      refine ⟨_, rfl, _, rfl, _, rfl, _, rfl, _, rfl, h, C, dx, _, _, rfl, g0, T.cl, T.nH, fs_hands _ _ _ _ _, _, rfl, b, l, 12, rfl, by omega, by omega, hB9, fun r2 H2 r20 r21 hB3 k3 => ⟨rfl, .inr ⟨_, rfl, _, _, rfl, rfl, b, l, _, rfl, (add_bl _ pre.h1 pre.h2).1, (add_bl _ pre.h1 pre.h2).2, hB3, fun r3 H3 r30 r31 hB4 k4 => ?_⟩⟩⟩
      obtain ⟨n3, rfl⟩ := nat_of r30
      refine ⟨(by show 4 ≤ sizeLine; decide), fun t ht => ?_⟩
      have k34 := (k3.trans k4).trans (Kb.same (same_upd (o := HO.tup [.str ("give" : Str), .int (nh : Nat), .ref ti, .int (n3 : Nat)]) ht))
      exact fin (.give nh (kd, ni) n3) _ _ (hB4.upd ht) k34 (.tup (SqT.of upd_same) (.cons (.str _) (.cons (.int _) (.cons (Dp.nl k34.nl _ _ rfl di) (.cons (.int _) .nil))))) ⟨snh, sni, by have a1 := (add_bl (decide (V.int r2 = V.int 0)) pre.h1 pre.h2).2; have r31' : ((n3 : Nat) : Int) < d.hands + (if decide (V.int r2 = V.int 0) = true then 1 else 0) := r31; omega⟩
    | put =>
      dsimp only [W5.str] at *
      refine ⟨_, rfl, rfl, _, rfl, iteFe (by decide +kernel) ⟨_, rfl, rfl, _, rfl, iteFe (by decide +kernel) ⟨_, rfl, rfl, _, rfl, iteFe (by decide +kernel) ⟨_, rfl, _, rfl, _, rfl, _, rfl, (by show 4 ≤ sizeLine; decide), fun t ht => ?_⟩⟩⟩⟩
      exact fin (.put nh (kd, ni) nb) _ _ (hB9.upd ht) (Kb.same (same_upd ht)) (.tup (SqT.of upd_same) (.cons (.str _) (.cons (.int _) (.cons (Dp.same (same_upd ht) _ _ di) (.cons (.int _) .nil))))) ⟨snh, sni, snb⟩
    | lock =>
      dsimp only [W5.str] at *
      refine ⟨_, rfl, rfl, _, rfl, iteFe (by decide +kernel) ⟨_, rfl, rfl, _, rfl, iteFe (by decide +kernel) ⟨_, rfl, rfl, _, rfl, iteTe (by decide +kernel) ⟨_, rfl, _, rfl, _, rfl, _, rfl, b, l, 3, rfl, by omega, by omega, hB9, fun r3 H3 r30 r31 hB4 k4 => ?_⟩⟩⟩⟩
      obtain ⟨n3, rfl⟩ := nat_of r30
      refine ⟨(by show 4 ≤ sizeLine; decide), fun t ht => ?_⟩
      have k34 := k4.trans (Kb.same (same_upd (o := HO.tup [.str ("seal" : Str), .int (nh : Nat), .int (nb : Nat), .int (n3 : Nat)]) ht))
      exact fin (.lock nh nb n3) _ _ (hB4.upd ht) k34 (.tup (SqT.of upd_same) (.cons (.str _) (.cons (.int _) (.cons (.int _) (.cons (.int _) .nil))))) ⟨snh, snb, by omega⟩
    | take =>
      dsimp only [W5.str] at *
      refine ⟨_, rfl, rfl, _, rfl, iteFe (by decide +kernel) ⟨_, rfl, rfl, _, rfl, iteFe (by decide +kernel) ⟨_, rfl, rfl, _, rfl, iteFe (by decide +kernel) ⟨_, rfl, _, rfl, _, rfl, _, rfl, (by show 4 ≤ sizeLine; decide), fun t ht => ?_⟩⟩⟩⟩
      exact fin (.take nh (kd, ni) nb) _ _ (hB9.upd ht) (Kb.same (same_upd ht)) (.tup (SqT.of upd_same) (.cons (.str _) (.cons (.int _) (.cons (Dp.same (same_upd ht) _ _ di) (.cons (.int _) .nil))))) ⟨snh, sni, snb⟩
end
end Kw

set_option Elab.async false
set_option linter.all false
set_option maxRecDepth 100000
set_option maxHeartbeats 4000000
namespace Kw
open PySem PySem.Spec PyProof.Rows L2
/-! ### _law_unknown -/
def inH (d : Hs) (p : It) : Prop := p.2 < (rowOf d p.1).length
instance (d : Hs) (p : It) : Decidable (inH d p) := by unfold inH; infer_instance
def unkOf (d : Hs) (e : Dd) : Str :=
  if d.hands ≤ (e.hand : Nat) then "UnknownHand" else match e with
  | .give h p o => if ¬ inH d p then "UnknownItem" else if d.hands ≤ (o : Nat) ∨ o = h then "UnknownHand" else ""
  | .put _ p b => if ¬ inH d p ∨ p.1 = .sl then "UnknownItem" else if d.bs.length ≤ b then "UnknownBox" else if p = (.box, b) then "InsideItself" else ""
  | .take _ p b => if ¬ inH d p ∨ p.1 = .sl then "UnknownItem" else if d.bs.length ≤ b then "UnknownBox" else if p = (.box, b) then "InsideItself" else ""
  | .lock _ b s => if d.bs.length ≤ b then "UnknownBox" else if d.ss.length ≤ s then "UnknownSeal" else ""
  | .brk _ b => if d.bs.length ≤ b then "UnknownBox" else ""
theorem inH_where {d : Hs} {p : It} (h : inH d p) : (whereD d p).isSome := by
  unfold whereD
  rw [List.getElem?_eq_getElem h]
  rfl
theorem ne_e1 : ¬ (("UnknownHand" : Str) = "") := by decide +kernel
theorem ne_e2 : ¬ (("UnknownItem" : Str) = "") := by decide +kernel
theorem ne_e3 : ¬ (("UnknownBox" : Str) = "") := by decide +kernel
theorem ne_e4 : ¬ (("InsideItself" : Str) = "") := by decide +kernel
theorem ne_e5 : ¬ (("UnknownSeal" : Str) = "") := by decide +kernel
theorem unk_kn {d : Hs} {e : Dd} (h : unkOf d e = "") : Kn d e := by
  unfold unkOf at h
  by_cases c0 : d.hands ≤ (e.hand : Nat)
  · rw [if_pos c0] at h; exact absurd h ne_e1
  rw [if_neg c0] at h
  cases e with
  | give hd p o =>
    dsimp only at h
    by_cases c1 : ¬ inH d p
    · rw [if_pos c1] at h; exact absurd h ne_e2
    exact inH_where (Classical.not_not.mp c1)
  | put hd p b =>
    dsimp only at h
    by_cases c1 : ¬ inH d p ∨ p.1 = .sl
    · rw [if_pos c1] at h; exact absurd h ne_e2
    rw [if_neg c1] at h
    by_cases c2 : d.bs.length ≤ b
    · rw [if_pos c2] at h; exact absurd h ne_e3
    exact ⟨inH_where (Classical.byContradiction fun z => c1 (.inl z)), by omega⟩
  | take hd p b =>
    dsimp only at h
    by_cases c1 : ¬ inH d p ∨ p.1 = .sl
    · rw [if_pos c1] at h; exact absurd h ne_e2
    rw [if_neg c1] at h
    by_cases c2 : d.bs.length ≤ b
    · rw [if_pos c2] at h; exact absurd h ne_e3
    exact ⟨inH_where (Classical.byContradiction fun z => c1 (.inl z)), by omega⟩
  | lock hd b s =>
    dsimp only at h
    by_cases c2 : d.bs.length ≤ b
    · rw [if_pos c2] at h; exact absurd h ne_e3
    rw [if_neg c2] at h
    by_cases c3 : d.ss.length ≤ s
    · rw [if_pos c3] at h; exact absurd h ne_e5
    exact ⟨by omega, by omega⟩
  | brk hd b =>
    dsimp only at h
    by_cases c2 : d.bs.length ≤ b
    · rw [if_pos c2] at h; exact absurd h ne_e3
    show b < d.bs.length
    omega
theorem many_kd (d : Hs) (k : Kd) : manyOf d k.str = (rowOf d k).length := by
  have e1 : ¬ ("seal" : Str) = ("box" : Str) := by decide +kernel
  have e2 : ¬ ("thing" : Str) = ("box" : Str) := by decide +kernel
  have e3 : ¬ ("thing" : Str) = ("seal" : Str) := by decide +kernel
  cases k
  · exact if_pos rfl
  · show manyOf d "thing" = _
    unfold manyOf
    rw [if_neg e2, if_neg e3, if_pos rfl]
    rfl
  · show manyOf d "seal" = _
    unfold manyOf
    rw [if_neg e1, if_pos rfl]
    rfl
theorem has_it (d : Hs) (p : It) : numOk ((p.2 : Nat) : Int) ((manyOf d p.1.str : Nat) : Int) = decide (inH d p) := by
  rw [many_kd]
  unfold numOk inH
  by_cases c : p.2 < (rowOf d p.1).length
  · rw [decide_eq_true c, decide_eq_true (by omega), decide_eq_true (by omega)]
    rfl
  · rw [decide_eq_false c, decide_eq_false (show ¬ (((p.2 : Nat) : Int) < ((rowOf d p.1).length : Nat)) by omega), Bool.and_false]
section
variable {P : Program} {w : World} {K : PySem.W.Frag} {mg : Str → Option Value} {base : Heap}
def spUnk (K : PySem.W.Frag) (C : Addr) : Sp := fun vs H Q _ => ∃ (h : Addr) (y : V) (d : Hs) (e : Dd), vs = [.ref h, y] ∧ HouseAt K C H h d ∧ Dp K H y (ddD e) ∧ ∀ H', Same H H' → Q (.str (unkOf d e)) H'
theorem scUnk : FnScope ["_law_house_here", "_law_deed", "_law_word", "_law_hand"] ["_law_house_here", "_law_deed"] (defScope sUnk) := ⟨rfl, rfl, rfl, by decide +kernel, rfl, by decide +kernel, by decide +kernel⟩
theorem geT {i j : Int} {T : Bool → Prop} (h : T (decide (j ≤ i))) : T (decide (j ≤ i)) := h
theorem ok_unk {f gH C : Addr} {fd fdH : FuncData} (F : Fun K "_law_unknown" "_law_unknown" sUnk f fd) (B : Bt mg) (T : HouseC K C)
    (FH : FnOk P w K mg base CX0 2 gH fdH ["self", "item"] (spHas K C)) (fH : PySem.W.findIn K (.ref C) "__contains__" = some (some (.ref gH))) (iH : PySem.W.isFn K (.ref gH) = true) (bH : Binds K fdH ["self", "item"] []) :
    FnOk P w K mg base CX0 3 f fd ["_law_house_here", "_law_deed"] (spUnk K C) := by
  refine F.ok scUnk (fun vs H Q E h => ?_) (fun cdv A outer s H vs Q E hr h => ?_)
  · obtain ⟨h, y, d, e, rfl, _⟩ := h
    rfl
  · obtain ⟨h, y, d, e, rfl, hh, hy, k⟩ := h
    have hr2 : Room 2 _ := hr
    have hu : (cxOf CX0 P w K mg base ["_law_house_here", "_law_deed", "_law_word", "_law_hand"] "_law_unknown" (defScope sUnk) f cdv A outer s H E).nox.A.units + 64 < cLine := by have := hr.un; show (A.deeper _).units + 64 < cLine; omega
    refine ⟨_, (pss_cons (ps_asg (pe_slice sl_tupA (pv 1) po_none (po_some pe_int)) (pg_tup (by rfl) (pgs_cons (pg_name (i := 2) scUnk.nd rfl (.inl rfl)) (pgs_cons (pg_name (i := 3) scUnk.nd rfl (.inl rfl)) pgs_nil))))
      (pss_cons (ps_if (pt_cmpR op_ge (pv 3) (pe_fld (pv 0) rfl) (nomark _)) (pss_one (ps_ret pe_str)) pss_nil)
      (pss_cons (ps_if (pt_cmpR op_eq (pv 2) pe_str (nomark _)) (pss_cons (ps_if (pt_cmpR (op_notInOwn FH fH iH hr2 bH pass0) (pe_ix ix_tup (pv 1) pe_int (fun _ _ => rfl)) (pv 0) (by rfl)) (pss_one (ps_ret pe_str)) pss_nil)
      (pss_one (ps_ret (pe_ifExp (PW.pt (pw_or (pt_cmpR op_ge (pe_ix ix_tup (pv 1) pe_int (fun _ _ => rfl)) (pe_fld (pv 0) rfl) (nomark _)) (pw_or1 (pt_cmpR op_eq (pe_ix ix_tup (pv 1) pe_int (fun _ _ => rfl)) (pv 3) (nomark _))))) pe_str pe_str)))) pss_nil)
      (pss_cons (ps_if (pt_cmpR op_in_seq (pv 2) (pe_tup (pa_cons pe_str (pa_cons pe_str pa_nil))) (by rfl)) (pss_cons (ps_if (PW.pt (pw_or (pt_cmpR (op_notInOwn FH fH iH hr2 bH pass0) (pe_ix ix_tup (pv 1) pe_int (fun _ _ => rfl)) (pv 0) (by rfl)) (pw_or1 (pt_cmpR op_eq (pe_ix ix_tup (pe_ix ix_tup (pv 1) pe_int (fun _ _ => rfl)) pe_int (fun _ _ => rfl)) pe_str (nomark _))))) (pss_one (ps_ret pe_str)) pss_nil)
      (pss_cons (ps_if (pt_cmpR op_ge (pe_ix ix_tup (pv 1) pe_int (fun _ _ => rfl)) (pe_callB call_len_seq (by rfl) B.len PySem.boot_len (pa_cons (pe_fld (pv 0) rfl) pa_nil)) (nomark _)) (pss_one (ps_ret pe_str)) pss_nil)
      (pss_one (ps_ret (pe_ifExp (pt_cmpR (op_eqD hu) (pe_ix ix_tup (pv 1) pe_int (fun _ _ => rfl)) (pe_tup (pa_cons pe_str (pa_cons (pe_ix ix_tup (pv 1) pe_int (fun _ _ => rfl)) pa_nil))) (nomark _)) pe_str pe_str))))) pss_nil)
      (pss_cons (ps_if (pt_cmpR op_ge (pe_ix ix_tup (pv 1) pe_int (fun _ _ => rfl)) (pe_callB call_len_seq (by rfl) B.len PySem.boot_len (pa_cons (pe_fld (pv 0) rfl) pa_nil)) (nomark _)) (pss_one (ps_ret pe_str)) pss_nil)
      (pss_one (ps_ret (pe_ifExp (PW.pt (pw_and (pt_cmpR op_eq (pv 2) pe_str (nomark _)) (pw_and1 (pt_cmpR op_ge (pe_ix ix_tup (pv 1) pe_int (fun _ _ => rfl)) (pe_callB call_len_seq (by rfl) B.len PySem.boot_len (pa_cons (pe_fld (pv 0) rfl) pa_nil)) (nomark _))))) pe_str pe_str)))))))), ?_⟩
    obtain ⟨dx, vb, vt, vs, vst, g0, g1, g2, g3, g4⟩ := hh.ex
    obtain ⟨ab, xb, rfl, qb, db, lb⟩ := pls_at g1
    obtain ⟨as, xs, rfl, qs, ds, ls⟩ := pls_at g3
    obtain ⟨yd, ws, rfl, sy, dws⟩ := dd_at hy
    have lws : 1 ≤ ws.length := by
      rw [DpAll.len dws]
      cases e <;> exact Nat.succ_le_succ (Nat.zero_le _)
    refine ⟨_, rfl, _, rfl, yd, _, rfl, sy, fun hw => ?_, fun _ t0 ht0 => ?_⟩
    · exfalso
      have h1 := hw.2
      rw [show (some (2 : Int)) = some ((2 : Nat) : Int) from rfl, HT.sIx_nat] at h1
      simp only [List.length_cons] at h1
      omega
    have ecut : cutV (V.str e.word :: .int (e.hand : Nat) :: ws) none (some 2) = [V.str e.word, .int (e.hand : Nat)] := by
      unfold cutV
      rw [HT.sIx_none, show (some (2 : Int)) = some ((2 : Nat) : Int) from rfl, HT.sIx_nat, List.drop_zero, Nat.sub_zero]
      rw [Nat.min_eq_left (by simp only [List.length_cons]; omega)]
      rfl
    rw [ecut]
    have f1 := same_upd (o := HO.tup [V.str e.word, .int (e.hand : Nat)]) ht0
    refine ⟨t0, _, rfl, SqT.of upd_same, rfl, _, _, rfl, _, _, rfl, rfl, ?_⟩
    generalize L2.upd H t0 (HO.tup [V.str e.word, .int (e.hand : Nat)]) = H1 at *
    have kk := fun H' (e' : Same H1 H') => k H' (f1.trans e')
    have fldH : ∀ H', Same H1 H' → H' h = some (.ins C dx (hsFs d.hands (.ref ab) vt (.ref as) vst)) := fun H' e' => e' _ _ (f1 _ _ g0)
    have z1 : Same H1 H1 := Same.refl _
    have sy1 := SqT.same f1 sy
    refine ⟨_, rfl, _, rfl, h, C, dx, _, _, rfl, fldH _ z1, T.cl, T.nH, fs_hands _ _ _ _ _, _, _, rfl, rfl, _, rfl, ?_⟩
    unfold unkOf at kk
    by_cases c0 : d.hands ≤ ((e.hand : Nat) : Int)
    · rw [decide_eq_true c0]
      simp only [if_pos c0] at kk
      exact iteT (kk _ z1)
    rw [decide_eq_false c0]
    simp only [if_neg c0] at kk
    refine iteF ?_
    have hs : ∀ H', Same H1 H' → HouseAt K C H' h d := fun H' e' => hh.nl (nl_same (f1.trans e'))
    cases e with
    | give hd p o =>
      cases dws with
      | cons dp r =>
      cases r with
      | cons do_ r =>
      cases r
      cases do_
      dsimp only [Dd.word, Dd.hand] at *
      obtain ⟨ip, rfl, sp⟩ := it_at dp
      refine ⟨_, rfl, rfl, _, rfl, iteTe (by decide +kernel) ?_⟩
      refine ⟨_, rfl, yd, _, 2, _, rfl, rfl, sy1, rfl, _, rfl, h, dx, _, rfl, fldH _ z1, h, ip, d, p.1.str, (p.2 : Nat), rfl, hs _ z1, SqT.same f1 sp, _, rfl, _, rfl, ?_⟩
      rw [has_it]
      by_cases c1 : ¬ inH d p
      · rw [decide_eq_false c1]
        simp only [if_pos c1] at kk
        exact iteT (kk _ z1)
      rw [decide_eq_true (Classical.not_not.mp c1)]
      simp only [if_neg c1] at kk
      refine iteF ?_
      refine ⟨_, rfl, yd, _, 3, _, rfl, rfl, sy1, rfl, _, rfl, h, C, dx, _, _, rfl, fldH _ z1, T.cl, T.nH, fs_hands _ _ _ _ _, _, _, rfl, rfl, _, rfl, ?_⟩
      by_cases c2 : d.hands ≤ ((o : Nat) : Int)
      · rw [decide_eq_true c2]
        simp only [if_pos (Or.inl c2 : d.hands ≤ ((o : Nat) : Int) ∨ o = hd)] at kk
        exact iteT (iteT (kk _ z1))
      rw [decide_eq_false c2]
      refine iteF ⟨_, rfl, yd, _, 3, _, rfl, rfl, sy1, rfl, _, rfl, rfl, _, rfl, ?_⟩
      rw [decZ]
      by_cases c3 : ((o : Nat) : Int) = ((hd : Nat) : Int)
      · rw [decide_eq_true c3]
        simp only [if_pos (Or.inr (by omega) : d.hands ≤ ((o : Nat) : Int) ∨ o = hd)] at kk
        exact iteT (kk _ z1)
      · rw [decide_eq_false c3]
        simp only [if_neg (fun z => z.elim c2 (fun q => c3 (by omega)) : ¬ (d.hands ≤ ((o : Nat) : Int) ∨ o = hd))] at kk
        exact iteF (kk _ z1)
    | put hd p b =>
      cases dws with
      | cons dp r =>
      cases r with
      | cons do_ r =>
      cases r
      cases do_
      dsimp only [Dd.word, Dd.hand] at *
      obtain ⟨ip, rfl, sp⟩ := it_at dp
      refine ⟨_, rfl, rfl, _, rfl, iteFe (by decide +kernel) ⟨_, rfl, (by show 2 ≤ sizeLine; decide), fun w2 hw2 => ?_⟩⟩
      have f2 := same_upd (o := HO.tup [V.str ("put" : Str), .str ("take" : Str)]) hw2
      refine ⟨w2, [.str ("put" : Str), .str ("take" : Str)], rfl, .inr (SqT.of upd_same), rfl, rfl, _, rfl, iteTe (by decide +kernel) ?_⟩
      generalize L2.upd H1 w2 (HO.tup [V.str ("put" : Str), .str ("take" : Str)]) = H2 at *
      have sy2 := SqT.same f2 sy1
      refine ⟨_, rfl, yd, _, 2, _, rfl, rfl, sy2, rfl, _, rfl, h, dx, _, rfl, fldH _ f2, h, ip, d, p.1.str, (p.2 : Nat), rfl, hs _ f2, SqT.same (f1.trans f2) sp, _, rfl, _, rfl, ?_⟩
      rw [has_it]
      by_cases c1 : ¬ inH d p
      · rw [decide_eq_false c1]
        simp only [if_pos (Or.inl c1 : ¬ inH d p ∨ p.1 = .sl)] at kk
        exact iteT (iteT (kk _ f2))
      rw [decide_eq_true (Classical.not_not.mp c1)]
      refine iteF ⟨_, rfl, yd, _, 2, _, rfl, rfl, sy2, rfl, ip, _, 0, _, rfl, rfl, SqT.same (f1.trans f2) sp, rfl, rfl, _, rfl, ?_⟩
      rw [decS]
      by_cases c2 : p.1 = .sl
      · rw [decide_eq_true (show p.1.str = ("seal" : Str) by rw [c2]; rfl)]
        simp only [if_pos (Or.inr c2 : ¬ inH d p ∨ p.1 = .sl)] at kk
        exact iteT (kk _ f2)
      rw [decide_eq_false (show ¬ p.1.str = ("seal" : Str) from fun z => c2 (kd_inj (l := .sl) z))]
      simp only [if_neg (fun z => z.elim c1 c2 : ¬ (¬ inH d p ∨ p.1 = .sl))] at kk
      refine iteF ⟨_, rfl, yd, _, 3, _, rfl, rfl, sy2, rfl, _, rfl, h, C, dx, _, _, rfl, fldH _ f2, T.cl, T.nB, fs_boxes _ _ _ _ _, ab, xb, rfl, .inr (SqT.same (f1.trans f2) qb), _, _, rfl, rfl, _, rfl, ?_⟩
      rw [lb]
      by_cases c3 : d.bs.length ≤ b
      · rw [decide_eq_true (show ((d.bs.length : Nat) : Int) ≤ ((b : Nat) : Int) by omega)]
        simp only [if_pos c3] at kk
        exact iteT (kk _ f2)
      rw [decide_eq_false (show ¬ ((d.bs.length : Nat) : Int) ≤ ((b : Nat) : Int) by omega)]
      simp only [if_neg c3] at kk
      refine iteF ⟨_, rfl, yd, _, 2, _, rfl, rfl, sy2, rfl, _, rfl, yd, _, 3, _, rfl, rfl, sy2, rfl, (by show 2 ≤ sizeLine; decide), fun t ht => ?_⟩
      have f3 := f2.trans (same_upd (o := HO.tup [V.str ("box" : Str), .int (b : Nat)]) ht)
      refine ⟨itP p, itP (.box, b), Dp.same (f1.trans f3) _ _ dp, .tup (SqT.of upd_same) (.cons (.str _) (.cons (.int _) .nil)), shaped_it _, shaped_it _, _, rfl, ?_⟩
      rw [eqv_it]
      by_cases c4 : p = (.box, b)
      · rw [decide_eq_true c4]
        simp only [if_pos c4] at kk
        exact iteT (kk _ f3)
      · rw [decide_eq_false c4]
        simp only [if_neg c4] at kk
        exact iteF (kk _ f3)
    | take hd p b =>
      cases dws with
      | cons dp r =>
      cases r with
      | cons do_ r =>
      cases r
      cases do_
      dsimp only [Dd.word, Dd.hand] at *
      obtain ⟨ip, rfl, sp⟩ := it_at dp
      refine ⟨_, rfl, rfl, _, rfl, iteFe (by decide +kernel) ⟨_, rfl, (by show 2 ≤ sizeLine; decide), fun w2 hw2 => ?_⟩⟩
      have f2 := same_upd (o := HO.tup [V.str ("put" : Str), .str ("take" : Str)]) hw2
      refine ⟨w2, [.str ("put" : Str), .str ("take" : Str)], rfl, .inr (SqT.of upd_same), rfl, rfl, _, rfl, iteTe (by decide +kernel) ?_⟩
      generalize L2.upd H1 w2 (HO.tup [V.str ("put" : Str), .str ("take" : Str)]) = H2 at *
      have sy2 := SqT.same f2 sy1
      refine ⟨_, rfl, yd, _, 2, _, rfl, rfl, sy2, rfl, _, rfl, h, dx, _, rfl, fldH _ f2, h, ip, d, p.1.str, (p.2 : Nat), rfl, hs _ f2, SqT.same (f1.trans f2) sp, _, rfl, _, rfl, ?_⟩
      rw [has_it]
      by_cases c1 : ¬ inH d p
      · rw [decide_eq_false c1]
        simp only [if_pos (Or.inl c1 : ¬ inH d p ∨ p.1 = .sl)] at kk
        exact iteT (iteT (kk _ f2))
      rw [decide_eq_true (Classical.not_not.mp c1)]
      refine iteF ⟨_, rfl, yd, _, 2, _, rfl, rfl, sy2, rfl, ip, _, 0, _, rfl, rfl, SqT.same (f1.trans f2) sp, rfl, rfl, _, rfl, ?_⟩
      rw [decS]
      by_cases c2 : p.1 = .sl
      · rw [decide_eq_true (show p.1.str = ("seal" : Str) by rw [c2]; rfl)]
        simp only [if_pos (Or.inr c2 : ¬ inH d p ∨ p.1 = .sl)] at kk
        exact iteT (kk _ f2)
      rw [decide_eq_false (show ¬ p.1.str = ("seal" : Str) from fun z => c2 (kd_inj (l := .sl) z))]
      simp only [if_neg (fun z => z.elim c1 c2 : ¬ (¬ inH d p ∨ p.1 = .sl))] at kk
      refine iteF ⟨_, rfl, yd, _, 3, _, rfl, rfl, sy2, rfl, _, rfl, h, C, dx, _, _, rfl, fldH _ f2, T.cl, T.nB, fs_boxes _ _ _ _ _, ab, xb, rfl, .inr (SqT.same (f1.trans f2) qb), _, _, rfl, rfl, _, rfl, ?_⟩
      rw [lb]
      by_cases c3 : d.bs.length ≤ b
      · rw [decide_eq_true (show ((d.bs.length : Nat) : Int) ≤ ((b : Nat) : Int) by omega)]
        simp only [if_pos c3] at kk
        exact iteT (kk _ f2)
      rw [decide_eq_false (show ¬ ((d.bs.length : Nat) : Int) ≤ ((b : Nat) : Int) by omega)]
      simp only [if_neg c3] at kk
      refine iteF ⟨_, rfl, yd, _, 2, _, rfl, rfl, sy2, rfl, _, rfl, yd, _, 3, _, rfl, rfl, sy2, rfl, (by show 2 ≤ sizeLine; decide), fun t ht => ?_⟩
      have f3 := f2.trans (same_upd (o := HO.tup [V.str ("box" : Str), .int (b : Nat)]) ht)
      refine ⟨itP p, itP (.box, b), Dp.same (f1.trans f3) _ _ dp, .tup (SqT.of upd_same) (.cons (.str _) (.cons (.int _) .nil)), shaped_it _, shaped_it _, _, rfl, ?_⟩
      rw [eqv_it]
      by_cases c4 : p = (.box, b)
      · rw [decide_eq_true c4]
        simp only [if_pos c4] at kk
        exact iteT (kk _ f3)
      · rw [decide_eq_false c4]
        simp only [if_neg c4] at kk
        exact iteF (kk _ f3)
    | lock hd b s =>
      cases dws with
      | cons dp r =>
      cases r with
      | cons do_ r =>
      cases r
      cases do_
      cases dp
      dsimp only [Dd.word, Dd.hand] at *
      refine ⟨_, rfl, rfl, _, rfl, iteFe (by decide +kernel) ⟨_, rfl, (by show 2 ≤ sizeLine; decide), fun w2 hw2 => ?_⟩⟩
      have f2 := same_upd (o := HO.tup [V.str ("put" : Str), .str ("take" : Str)]) hw2
      refine ⟨w2, [.str ("put" : Str), .str ("take" : Str)], rfl, .inr (SqT.of upd_same), rfl, rfl, _, rfl, iteFe (by decide +kernel) ?_⟩
      generalize L2.upd H1 w2 (HO.tup [V.str ("put" : Str), .str ("take" : Str)]) = H2 at *
      have sy2 := SqT.same f2 sy1
      refine ⟨_, rfl, yd, _, 2, _, rfl, rfl, sy2, rfl, _, rfl, h, C, dx, _, _, rfl, fldH _ f2, T.cl, T.nB, fs_boxes _ _ _ _ _, ab, xb, rfl, .inr (SqT.same (f1.trans f2) qb), _, _, rfl, rfl, _, rfl, ?_⟩
      rw [lb]
      by_cases c1 : d.bs.length ≤ b
      · rw [decide_eq_true (show ((d.bs.length : Nat) : Int) ≤ ((b : Nat) : Int) by omega)]
        simp only [if_pos c1] at kk
        exact iteT (kk _ f2)
      rw [decide_eq_false (show ¬ ((d.bs.length : Nat) : Int) ≤ ((b : Nat) : Int) by omega)]
      simp only [if_neg c1] at kk
      refine iteF ⟨_, rfl, rfl, _, rfl, iteTe (by decide +kernel) ?_⟩
      refine ⟨_, rfl, yd, _, 3, _, rfl, rfl, sy2, rfl, _, rfl, h, C, dx, _, _, rfl, fldH _ f2, T.cl, T.nS, fs_seals _ _ _ _ _, as, xs, rfl, .inr (SqT.same (f1.trans f2) qs), _, _, rfl, rfl, _, rfl, ?_⟩
      rw [ls]
      by_cases c2 : d.ss.length ≤ s
      · rw [decide_eq_true (show ((d.ss.length : Nat) : Int) ≤ ((s : Nat) : Int) by omega)]
        simp only [if_pos c2] at kk
        exact iteT (kk _ f2)
      · rw [decide_eq_false (show ¬ ((d.ss.length : Nat) : Int) ≤ ((s : Nat) : Int) by omega)]
        simp only [if_neg c2] at kk
        exact iteF (kk _ f2)
    | brk hd b =>
      cases dws with
      | cons dp r =>
      cases r
      cases dp
      dsimp only [Dd.word, Dd.hand] at *
      refine ⟨_, rfl, rfl, _, rfl, iteFe (by decide +kernel) ⟨_, rfl, (by show 2 ≤ sizeLine; decide), fun w2 hw2 => ?_⟩⟩
      have f2 := same_upd (o := HO.tup [V.str ("put" : Str), .str ("take" : Str)]) hw2
      refine ⟨w2, [.str ("put" : Str), .str ("take" : Str)], rfl, .inr (SqT.of upd_same), rfl, rfl, _, rfl, iteFe (by decide +kernel) ?_⟩
      generalize L2.upd H1 w2 (HO.tup [V.str ("put" : Str), .str ("take" : Str)]) = H2 at *
      have sy2 := SqT.same f2 sy1
      refine ⟨_, rfl, yd, _, 2, _, rfl, rfl, sy2, rfl, _, rfl, h, C, dx, _, _, rfl, fldH _ f2, T.cl, T.nB, fs_boxes _ _ _ _ _, ab, xb, rfl, .inr (SqT.same (f1.trans f2) qb), _, _, rfl, rfl, _, rfl, ?_⟩
      rw [lb]
      by_cases c1 : d.bs.length ≤ b
      · rw [decide_eq_true (show ((d.bs.length : Nat) : Int) ≤ ((b : Nat) : Int) by omega)]
        simp only [if_pos c1] at kk
        exact iteT (kk _ f2)
      rw [decide_eq_false (show ¬ ((d.bs.length : Nat) : Int) ≤ ((b : Nat) : Int) by omega)]
      simp only [if_neg c1] at kk
      exact iteF ⟨_, rfl, rfl, _, rfl, iteFe (by decide +kernel) (iteF (kk _ f2))⟩
end
end Kw

set_option Elab.async false
set_option linter.all false
set_option maxRecDepth 100000
set_option maxHeartbeats 4000000
namespace Kw
open PySem PySem.Spec PyProof.Rows L2
abbrev sNHand : Stmt := top 21
abbrev sNItem : Stmt := top 22
abbrev sNLoad : Stmt := top 23
abbrev sNBox : Stmt := top 24
abbrev sNSeal : Stmt := top 25
abbrev sPlace : Stmt := top 28
abbrev sWith : Stmt := top 29
abbrev sOn : Stmt := top 30
abbrev sNDeed : Stmt := top 34
abbrev sNMove : Stmt := top 35
abbrev sBehind : Stmt := top 36
abbrev sBreak : Stmt := top 37
abbrev sHeld : Stmt := top 38
abbrev sBare : Stmt := top 39
/-- a plain error of the program: the class's facts -/
structure PErr (K : PySem.W.Frag) (mg : Str → Option Value) (x : Str) (C : Addr) : Prop where
  ex : PySem.W.excIn K C [.type "ValueError", .type "Exception", .type "BaseException", .type "object"] "ValueError.__new__" = true
  mg : mg x = some (.ref C)
  kp : PySem.W.keepIn K (.ref C) = true
  sb : PySem.W.subIn K (.ref C) (.type "BaseException") = some true
  ty : PySem.W.typeIn K (.ref C) = some (.type "type")
def Rp (C : Addr) (H : Hp) (E : XK) : Prop := ∀ H', Same H H' → E (.ref C) none H'
theorem Rp.same {C : Addr} {H H' : Hp} {E : XK} (e : Same H H') (r : Rp C H E) : Rp C H' E := fun H2 e2 => r H2 (e.trans e2)
theorem str_app (a b : Str) : (a ++ b).length = a.length + b.length := Str.length_append a b
theorem kd_len (k : Kd) : k.str.length ≤ 20 ∧ ∀ c ∈ k.str.cps.toList, c < 16 ^ 8 := by
  cases k <;> exact ⟨by decide +kernel, by decide +kernel⟩
section
variable {P : Program} {w : World} {K : PySem.W.Frag} {mg : Str → Option Value} {base : Heap}
/-- is_number and the house's __contains__, as the needs use them -/
structure NumF (P : Program) (w : World) (K : PySem.W.Frag) (mg : Str → Option Value) (base : Heap) (g : Addr) (fd : FuncData) : Prop where
  G : FnOk P w K mg base CX0 1 g fd ["value", "limit"] spNum
  m : mg "is_number" = some (.ref g)
  k : PySem.W.keepIn K (.ref g) = true
  b : Binds K fd ["value", "limit"] []
structure HasF (P : Program) (w : World) (K : PySem.W.Frag) (mg : Str → Option Value) (base : Heap) (C g : Addr) (fd : FuncData) : Prop where
  G : FnOk P w K mg base CX0 2 g fd ["self", "item"] (spHas K C)
  f : PySem.W.findIn K (.ref C) "__contains__" = some (some (.ref g))
  i : PySem.W.isFn K (.ref g) = true
  b : Binds K fd ["self", "item"] []
theorem num_lt {n l : Int} (h0 : 0 ≤ n) : numOk n l = decide (n < l) := by
  unfold numOk
  rw [decide_eq_true h0, Bool.true_and]
/-! ### need_hand -/
def spNHand (K : PySem.W.Frag) (C X : Addr) : Sp := fun vs H Q E => ∃ (h : Addr) (n : Int) (d : Hs), vs = [.ref h, .int n] ∧ HouseAt K C H h d ∧ 0 ≤ n ∧ n ≤ 1000 ∧ (d.hands ≤ n → Rp X H E) ∧ (n < d.hands → Q .non H)
theorem scNHand : FnScope ["house", "hand"] ["house", "hand"] (defScope sNHand) := ⟨rfl, rfl, rfl, by decide +kernel, rfl, by decide +kernel, by decide +kernel⟩
theorem ok_nhand {f g C X : Addr} {fd fdg : FuncData} (F : Fun K "need_hand" "need_hand" sNHand f fd) (T : HouseC K C) (N : NumF P w K mg base g fdg) (X1 : PErr K mg "UnknownHand" X) :
    FnOk P w K mg base (L2.CX P w) 2 f fd ["house", "hand"] (spNHand K C X) := by
  refine F.okX scNHand (fun vs H Q E h => ?_) (fun cdv A outer s H vs Q E hr h => ?_)
  · obtain ⟨h, n, d, rfl, _⟩ := h
    rfl
  · obtain ⟨h, n, d, rfl, hh, h0, h1, kE, kQ⟩ := h
    have tk : Takes (cxOf (L2.CX P w) P w K mg base ["house", "hand"] "need_hand" (defScope sNHand) f cdv A outer s H E) (fun cls d _ H => E cls d H) := takes_of rfl rfl rfl rfl
    refine ⟨_, pss_one (ps_if (pt_not (pt_val (pe_call N.G hr rfl N.m N.k N.b .nil pass0 (pa_cons (pv 1) (pa_cons (pe_fld (pv 0) rfl) pa_nil)))))
      (pss_one (ps_raise rfl tk (SkE.pmk_own1 PySem.F.excBase_ValueError X1.ex X1.mg X1.kp (raises_own X1.sb X1.ty) rfl (pe_joined (.cons pe_str (.cons (pe_fmt (pv 1)) .nil)))))) pss_nil), ?_⟩
    obtain ⟨dx, vb, vt, vs, vst, g0, _⟩ := hh.ex
    refine ⟨_, rfl, _, rfl, h, C, dx, _, _, rfl, g0, T.cl, T.nH, fs_hands _ _ _ _ _, n, d.hands, rfl, _, rfl, ?_⟩
    rw [num_lt h0]
    by_cases c : n < d.hands
    · rw [decide_eq_true c]
      exact iteF (kQ c)
    · rw [decide_eq_false c]
      have l5 := sizeLine_eq
      have l1 : (Str.empty : Str).length = 0 := rfl
      have l2 : ("there is no hand " : Str).length = 17 := by decide +kernel
      have l3 := digits_small h0 h1
      exact iteT ⟨_, rfl, by rw [str_app]; omega, _, rfl, .inr ⟨n, rfl, log2_small h0 h1, _, rfl, by rw [str_app, str_app]; omega, kE (by omega) _ (Same.refl _)⟩⟩
/-! ### need_item, need_load -/
def spNItem (K : PySem.W.Frag) (C X : Addr) : Sp := fun vs H Q E => ∃ (h : Addr) (y : V) (p : It) (d : Hs), vs = [.ref h, y] ∧ HouseAt K C H h d ∧ Dp K H y (itP p) ∧ p.2 ≤ 1000 ∧ (¬ inH d p → Rp X H E) ∧ (inH d p → Q .non H)
theorem scNItem : FnScope ["house", "item"] ["house", "item"] (defScope sNItem) := ⟨rfl, rfl, rfl, by decide +kernel, rfl, by decide +kernel, by decide +kernel⟩
theorem ok_nitem {f g C X : Addr} {fd fdg : FuncData} (F : Fun K "need_item" "need_item" sNItem f fd) (N : HasF P w K mg base C g fdg) (X1 : PErr K mg "UnknownItem" X) :
    FnOk P w K mg base (L2.CX P w) 3 f fd ["house", "item"] (spNItem K C X) := by
  refine F.okX scNItem (fun vs H Q E h => ?_) (fun cdv A outer s H vs Q E hr h => ?_)
  · obtain ⟨h, y, p, d, rfl, _⟩ := h
    rfl
  · obtain ⟨h, y, p, d, rfl, hh, hy, h1, kE, kQ⟩ := h
    have hr2 : Room 2 _ := hr
    have tk : Takes (cxOf (L2.CX P w) P w K mg base ["house", "item"] "need_item" (defScope sNItem) f cdv A outer s H E) (fun cls d _ H => E cls d H) := takes_of rfl rfl rfl rfl
    refine ⟨_, pss_one (ps_if (pt_cmpR (op_notInOwn N.G N.f N.i hr2 N.b pass0) (pv 1) (pv 0) (by rfl))
      (pss_one (ps_raise rfl tk (SkE.pmk_own1 PySem.F.excBase_ValueError X1.ex X1.mg X1.kp (raises_own X1.sb X1.ty) rfl (pe_joined (.cons pe_str (.cons (pe_fmtI hr2 (pv 1)) .nil)))))) pss_nil), ?_⟩
    obtain ⟨dx, vb, vt, vs, vst, g0, _⟩ := hh.ex
    obtain ⟨ip, rfl, sp⟩ := it_at hy
    refine ⟨_, rfl, _, rfl, h, dx, _, rfl, g0, h, ip, d, p.1.str, (p.2 : Nat), rfl, hh, sp, _, rfl, _, rfl, ?_⟩
    rw [has_it]
    by_cases c : inH d p
    · rw [decide_eq_true c]
      exact iteF (kQ c)
    · rw [decide_eq_false c]
      have l5 := sizeLine_eq
      have l1 : (Str.empty : Str).length = 0 := rfl
      have l2 : ("there is no item " : Str).length = 17 := by decide +kernel
      exact iteT ⟨_, rfl, by rw [str_app]; omega, _, rfl, ip, _, _, rfl, sp, (kd_len _).1, (kd_len _).2, by omega, by omega, fun m hm => ⟨_, rfl, by rw [str_app, str_app]; omega, kE c _ (Same.refl _)⟩⟩
def spNLoad (K : PySem.W.Frag) (C X : Addr) : Sp := fun vs H Q E => ∃ (h : Addr) (y : V) (p : It) (d : Hs), vs = [.ref h, y] ∧ HouseAt K C H h d ∧ Dp K H y (itP p) ∧ p.2 ≤ 1000 ∧ (¬ inH d p ∨ p.1 = .sl → Rp X H E) ∧ (¬ (¬ inH d p ∨ p.1 = .sl) → Q .non H)
theorem scNLoad : FnScope ["house", "item"] ["house", "item"] (defScope sNLoad) := ⟨rfl, rfl, rfl, by decide +kernel, rfl, by decide +kernel, by decide +kernel⟩
theorem ok_nload {f g C X : Addr} {fd fdg : FuncData} (F : Fun K "need_load" "need_load" sNLoad f fd) (N : HasF P w K mg base C g fdg) (X1 : PErr K mg "UnknownItem" X) :
    FnOk P w K mg base (L2.CX P w) 3 f fd ["house", "item"] (spNLoad K C X) := by
  refine F.okX scNLoad (fun vs H Q E h => ?_) (fun cdv A outer s H vs Q E hr h => ?_)
  · obtain ⟨h, y, p, d, rfl, _⟩ := h
    rfl
  · obtain ⟨h, y, p, d, rfl, hh, hy, h1, kE, kQ⟩ := h
    have hr2 : Room 2 _ := hr
    have tk : Takes (cxOf (L2.CX P w) P w K mg base ["house", "item"] "need_load" (defScope sNLoad) f cdv A outer s H E) (fun cls d _ H => E cls d H) := takes_of rfl rfl rfl rfl
    refine ⟨_, pss_one (ps_if (PW.pt (pw_or (pt_cmpR (op_notInOwn N.G N.f N.i hr2 N.b pass0) (pv 1) (pv 0) (by rfl)) (pw_or1 (pt_cmpR op_eq (pe_ix ix_tup (pv 1) pe_int (fun _ _ => rfl)) pe_str (nomark _)))))
      (pss_one (ps_raise rfl tk (SkE.pmk_own1 PySem.F.excBase_ValueError X1.ex X1.mg X1.kp (raises_own X1.sb X1.ty) rfl (pe_joined (.cons pe_str (.cons (pe_fmtI hr2 (pv 1)) .nil)))))) pss_nil), ?_⟩
    obtain ⟨dx, vb, vt, vs, vst, g0, _⟩ := hh.ex
    obtain ⟨ip, rfl, sp⟩ := it_at hy
    have l5 := sizeLine_eq
    have l1 : (Str.empty : Str).length = 0 := rfl
    have l2 : ("there is no box or thing " : Str).length = 25 := by decide +kernel
    refine ⟨_, rfl, _, rfl, h, dx, _, rfl, g0, h, ip, d, p.1.str, (p.2 : Nat), rfl, hh, sp, _, rfl, _, rfl, ?_⟩
    rw [has_it]
    by_cases c : inH d p
    · rw [decide_eq_true c]
      refine iteF ⟨_, rfl, ip, _, 0, _, rfl, rfl, sp, rfl, rfl, _, rfl, ?_⟩
      rw [decS]
      by_cases c2 : p.1 = .sl
      · rw [decide_eq_true (show p.1.str = ("seal" : Str) by rw [c2]; rfl)]
        exact iteT ⟨_, rfl, by rw [str_app]; omega, _, rfl, ip, _, _, rfl, sp, (kd_len _).1, (kd_len _).2, by omega, by omega, fun m hm => ⟨_, rfl, by rw [str_app, str_app]; omega, kE (.inr c2) _ (Same.refl _)⟩⟩
      · rw [decide_eq_false (show ¬ p.1.str = ("seal" : Str) from fun z => c2 (kd_inj (l := .sl) z))]
        exact iteF (kQ fun z => z.elim (fun q => q c) c2)
    · rw [decide_eq_false c]
      exact iteT (iteT ⟨_, rfl, by rw [str_app]; omega, _, rfl, ip, _, _, rfl, sp, (kd_len _).1, (kd_len _).2, by omega, by omega, fun m hm => ⟨_, rfl, by rw [str_app, str_app]; omega, kE (.inl c) _ (Same.refl _)⟩⟩)
/-! ### need_box, need_seal -/
def spNBox (K : PySem.W.Frag) (C X : Addr) : Sp := fun vs H Q E => ∃ (h : Addr) (n : Nat) (d : Hs), vs = [.ref h, .int (n : Nat)] ∧ HouseAt K C H h d ∧ n ≤ 1000 ∧ (d.bs.length ≤ n → Rp X H E) ∧ (n < d.bs.length → Q .non H)
def spNSeal (K : PySem.W.Frag) (C X : Addr) : Sp := fun vs H Q E => ∃ (h : Addr) (n : Nat) (d : Hs), vs = [.ref h, .int (n : Nat)] ∧ HouseAt K C H h d ∧ n ≤ 1000 ∧ (d.ss.length ≤ n → Rp X H E) ∧ (n < d.ss.length → Q .non H)
theorem scNBox : FnScope ["house", "box"] ["house", "box"] (defScope sNBox) := ⟨rfl, rfl, rfl, by decide +kernel, rfl, by decide +kernel, by decide +kernel⟩
theorem scNSeal : FnScope ["house", "seal"] ["house", "seal"] (defScope sNSeal) := ⟨rfl, rfl, rfl, by decide +kernel, rfl, by decide +kernel, by decide +kernel⟩
theorem ok_nbox {f g C X : Addr} {fd fdg : FuncData} (F : Fun K "need_box" "need_box" sNBox f fd) (B : Bt mg) (T : HouseC K C) (N : NumF P w K mg base g fdg) (X1 : PErr K mg "UnknownBox" X) :
    FnOk P w K mg base (L2.CX P w) 2 f fd ["house", "box"] (spNBox K C X) := by
  refine F.okX scNBox (fun vs H Q E h => ?_) (fun cdv A outer s H vs Q E hr h => ?_)
  · obtain ⟨h, n, d, rfl, _⟩ := h
    rfl
  · obtain ⟨h, n, d, rfl, hh, h1, kE, kQ⟩ := h
    have tk : Takes (cxOf (L2.CX P w) P w K mg base ["house", "box"] "need_box" (defScope sNBox) f cdv A outer s H E) (fun cls d _ H => E cls d H) := takes_of rfl rfl rfl rfl
    refine ⟨_, pss_one (ps_if (pt_not (pt_val (pe_call N.G hr rfl N.m N.k N.b .nil pass0 (pa_cons (pv 1) (pa_cons (pe_callB call_len_seq (by rfl) B.len PySem.boot_len (pa_cons (pe_fld (pv 0) rfl) pa_nil)) pa_nil)))))
      (pss_one (ps_raise rfl tk (SkE.pmk_own1 PySem.F.excBase_ValueError X1.ex X1.mg X1.kp (raises_own X1.sb X1.ty) rfl (pe_joined (.cons pe_str (.cons (pe_fmt (pv 1)) .nil)))))) pss_nil), ?_⟩
    obtain ⟨dx, vb, vt, vs, vst, g0, g1, g2, g3, g4⟩ := hh.ex
    obtain ⟨ab, xb, rfl, qb, db, lb⟩ := pls_at g1
    refine ⟨_, rfl, _, rfl, h, C, dx, _, _, rfl, g0, T.cl, T.nB, fs_boxes _ _ _ _ _, ab, xb, rfl, .inr qb, (n : Nat), (xb.length : Nat), rfl, _, rfl, ?_⟩
    rw [num_lt (by omega)]
    by_cases c : n < d.bs.length
    · rw [decide_eq_true (show ((n : Nat) : Int) < (xb.length : Nat) by omega)]
      exact iteF (kQ c)
    · rw [decide_eq_false (show ¬ ((n : Nat) : Int) < (xb.length : Nat) by omega)]
      have l5 := sizeLine_eq
      have l1 : (Str.empty : Str).length = 0 := rfl
      have l2 : ("there is no box " : Str).length = 16 := by decide +kernel
      have l3 := digits_small (i := (n : Nat)) (by omega) (by omega)
      exact iteT ⟨_, rfl, by rw [str_app]; omega, _, rfl, .inr ⟨_, rfl, log2_small (by omega) (by omega), _, rfl, by rw [str_app, str_app]; omega, kE (by omega) _ (Same.refl _)⟩⟩
theorem ok_nseal {f g C X : Addr} {fd fdg : FuncData} (F : Fun K "need_seal" "need_seal" sNSeal f fd) (B : Bt mg) (T : HouseC K C) (N : NumF P w K mg base g fdg) (X1 : PErr K mg "UnknownSeal" X) :
    FnOk P w K mg base (L2.CX P w) 2 f fd ["house", "seal"] (spNSeal K C X) := by
  refine F.okX scNSeal (fun vs H Q E h => ?_) (fun cdv A outer s H vs Q E hr h => ?_)
  · obtain ⟨h, n, d, rfl, _⟩ := h
    rfl
  · obtain ⟨h, n, d, rfl, hh, h1, kE, kQ⟩ := h
    have tk : Takes (cxOf (L2.CX P w) P w K mg base ["house", "seal"] "need_seal" (defScope sNSeal) f cdv A outer s H E) (fun cls d _ H => E cls d H) := takes_of rfl rfl rfl rfl
    refine ⟨_, pss_one (ps_if (pt_not (pt_val (pe_call N.G hr rfl N.m N.k N.b .nil pass0 (pa_cons (pv 1) (pa_cons (pe_callB call_len_seq (by rfl) B.len PySem.boot_len (pa_cons (pe_fld (pv 0) rfl) pa_nil)) pa_nil)))))
      (pss_one (ps_raise rfl tk (SkE.pmk_own1 PySem.F.excBase_ValueError X1.ex X1.mg X1.kp (raises_own X1.sb X1.ty) rfl (pe_joined (.cons pe_str (.cons (pe_fmt (pv 1)) .nil)))))) pss_nil), ?_⟩
    obtain ⟨dx, vb, vt, vs, vst, g0, g1, g2, g3, g4⟩ := hh.ex
    obtain ⟨as, xs, rfl, qs, ds, ls⟩ := pls_at g3
    refine ⟨_, rfl, _, rfl, h, C, dx, _, _, rfl, g0, T.cl, T.nS, fs_seals _ _ _ _ _, as, xs, rfl, .inr qs, (n : Nat), (xs.length : Nat), rfl, _, rfl, ?_⟩
    rw [num_lt (by omega)]
    by_cases c : n < d.ss.length
    · rw [decide_eq_true (show ((n : Nat) : Int) < (xs.length : Nat) by omega)]
      exact iteF (kQ c)
    · rw [decide_eq_false (show ¬ ((n : Nat) : Int) < (xs.length : Nat) by omega)]
      have l5 := sizeLine_eq
      have l1 : (Str.empty : Str).length = 0 := rfl
      have l2 : ("there is no seal " : Str).length = 17 := by decide +kernel
      have l3 := digits_small (i := (n : Nat)) (by omega) (by omega)
      exact iteT ⟨_, rfl, by rw [str_app]; omega, _, rfl, .inr ⟨_, rfl, log2_small (by omega) (by omega), _, rfl, by rw [str_app, str_app]; omega, kE (by omega) _ (Same.refl _)⟩⟩
end
end Kw

set_option Elab.async false
set_option linter.all false
set_option maxRecDepth 100000
set_option maxHeartbeats 4000000
namespace Kw
open PySem PySem.Spec PyProof.Rows L2
theorem slA_by {K : PySem.W.Frag} {H : Hp} {a : Addr} {xs : List V} {lo hi : Option Int} {Q : VK} (h : SqT K H a xs) (k : ∀ c H', Same H H' → SqT K H' c (cutV xs lo hi) → Q (.ref c) H') : rSlA K (.ref a) lo hi H Q := by
  refine ⟨a, xs, rfl, h, fun hw => ?_, fun _ p hp => k p _ (same_upd hp) (SqT.of upd_same)⟩
  have e : cutV xs lo hi = xs := by
    unfold cutV
    rw [hw.1, hw.2]
    simp
  exact k a H (Same.refl _) (by rw [e]; exact h)
theorem catA_by {K : PySem.W.Frag} {H : Hp} {a b : Addr} {xs ys : List V} {Q : VK} (ha : SqT K H a xs) (hb : SqT K H b ys) (hz : xs.length + ys.length ≤ sizeLine) (k : ∀ c H', Same H H' → SqT K H' c (xs ++ ys) → Q (.ref c) H') : rCatA K (.ref a) (.ref b) H Q := by
  refine ⟨a, b, xs, ys, rfl, rfl, ha, hb, hz, fun e => ?_, fun _ e => ?_, fun _ _ p hp => k p _ (same_upd hp) (SqT.of upd_same)⟩
  · subst e
    exact k b H (Same.refl _) hb
  · subst e
    exact k a H (Same.refl _) (by rw [List.append_nil]; exact ha)
theorem cut_to {xs : List V} {n : Nat} (h : n ≤ xs.length) : cutV xs none (some (n : Int)) = xs.take n := by
  unfold cutV
  rw [HT.sIx_none, HT.sIx_nat, Nat.min_eq_left h]
  simp
theorem cut_from {xs : List V} {n : Nat} (h : n < xs.length) : cutV xs (some ((n : Int) + 1)) none = xs.drop (n + 1) := by
  unfold cutV
  rw [HT.sIx_none, show ((n : Int) + 1) = ((n + 1 : Nat) : Int) by omega, HT.sIx_nat, Nat.min_eq_left (by omega)]
  rw [List.take_of_length_le]
  rw [List.length_drop]
  exact Nat.le_refl _
theorem set_cut {α : Type} (l : List α) (n : Nat) (a : α) (h : n < l.length) : l.take n ++ [a] ++ l.drop (n + 1) = l.set n a := by
  rw [List.set_eq_take_append_cons_drop, if_pos h]
  simp
/-- the table of the words of items -/
structure PartsF (K : PySem.W.Frag) (w : World) (mg : Str → Option Value) (aP : Addr) : Prop where
  d : ∀ k : Kd, KDct K w aP k.str (.int (k.ix : Nat))
  m : mg "PARTS" = some (.ref aP)
structure Ls (d : Hs) : Prop where
  b : d.bs.length ≤ 100
  t : d.ts.length ≤ 100
  s : d.ss.length ≤ 100
theorem Ls.row {d : Hs} (h : Ls d) (k : Kd) : (rowOf d k).length ≤ 100 := by
  cases k
  · exact h.b
  · exact h.t
  · exact h.s
section
variable {P : Program} {w : World} {K : PySem.W.Frag} {mg : Str → Option Value} {base : Heap}
/-! ### place_in -/
theorem scPlace : FnScope ["state", "item", "word", "number"] ["state", "item"] (defScope sPlace) := ⟨rfl, rfl, rfl, by decide +kernel, rfl, by decide +kernel, by decide +kernel⟩
theorem ok_place {f aP : Addr} {fd : FuncData} (F : Fun K "place_in" "place_in" sPlace f fd) (T : PartsF K w mg aP) : FnOk P w K mg base CX0 1 f fd ["state", "item"] (spWhere K) := by
  refine F.ok scPlace (fun vs H Q E h => ?_) (fun cdv A outer s H vs Q E hr h => ?_)
  · obtain ⟨x, y, d, p, q, rfl, _⟩ := h
    rfl
  · obtain ⟨x, y, d, p, q, rfl, hx, hy, hw, k⟩ := h
    obtain ⟨a, v1, v2, v3, rfl, sa, d1, d2, d3⟩ := st_at hx
    obtain ⟨b, rfl, sb⟩ := it_at hy
    obtain ⟨vr, hr1, dr⟩ := row_at d1 d2 d3 p.1
    obtain ⟨ar, xr, rfl, sr, dlr, lr⟩ := pls_at dr
    obtain ⟨vq, hq1, hq2⟩ := DpAll.at2 dlr (i := p.2) (d := plD q) (by rw [List.getElem?_map]; unfold whereD at hw; rw [hw]; rfl)
    refine ⟨_, pss_cons (ps_asg (pv 1) (pg_tup (by rfl) (pgs_cons (pg_name (i := 2) scPlace.nd rfl (.inl rfl)) (pgs_cons (pg_name (i := 3) scPlace.nd rfl (.inl rfl)) pgs_nil))))
      (pss_one (ps_ret (pe_ix ix_tup (pe_ix ix_tup (pv 0) (pe_ix ix_kdict (pe_glob (v := .ref aP) rfl T.m rfl) (pv 2) (fun _ _ => rfl)) (fun _ _ => rfl)) (pv 3) (fun _ _ => rfl)))), ?_⟩
    refine ⟨_, rfl, b, _, rfl, sb, rfl, _, _, rfl, _, _, rfl, rfl, ?_⟩
    refine ⟨_, rfl, _, rfl, aP, p.1.str, .int (p.1.ix : Nat), rfl, rfl, T.d p.1, a, _, _, _, rfl, rfl, sa, hr1, _, rfl, ar, xr, _, vq, rfl, rfl, sr, atI_nat hq1, ?_⟩
    exact k _ _ (Same.refl _) hq2
/-! ### with_place -/
def spWith (K : PySem.W.Frag) : Sp := fun vs H Q _ => ∃ (x y z : V) (d : Hs) (p : It) (q : Pl), vs = [x, y, z] ∧ Dp K H x (stD d) ∧ Dp K H y (itP p) ∧ Dp K H z (plD q) ∧ p.2 < (rowOf d p.1).length ∧ Ls d ∧ ∀ v H', Same H H' → Dp K H' v (stD (setD d p q)) → Q v H'
theorem scWith : FnScope ["state", "item", "place", "word", "number", "part", "places"] ["state", "item", "place"] (defScope sWith) := ⟨rfl, rfl, rfl, by decide +kernel, rfl, by decide +kernel, by decide +kernel⟩
theorem ok_with {f aP : Addr} {fd : FuncData} (F : Fun K "with_place" "with_place" sWith f fd) (T : PartsF K w mg aP) : FnOk P w K mg base CX0 1 f fd ["state", "item", "place"] (spWith K) := by
  refine F.ok scWith (fun vs H Q E h => ?_) (fun cdv A outer s H vs Q E hr h => ?_)
  · obtain ⟨x, y, z, d, p, q, rfl, _⟩ := h
    rfl
  · obtain ⟨x, y, z, d, p, q, rfl, hx, hy, hz, hp, hL, k⟩ := h
    obtain ⟨a, v1, v2, v3, rfl, sa, d1, d2, d3⟩ := st_at hx
    obtain ⟨b, rfl, sb⟩ := it_at hy
    obtain ⟨vr, hr1, dr⟩ := row_at d1 d2 d3 p.1
    obtain ⟨ar, xr, rfl, sr, dlr, lr⟩ := pls_at dr
    have hL1 := hL.row p.1
    have l5 := sizeLine_eq
    have ix3 : p.1.ix < 3 := by cases p.1 <;> decide
    refine ⟨_, pss_cons (ps_asg (pv 1) (pg_tup (by rfl) (pgs_cons (pg_name (i := 3) scWith.nd rfl (.inl rfl)) (pgs_cons (pg_name (i := 4) scWith.nd rfl (.inl rfl)) pgs_nil))))
      (pss_cons (ps_set (i := 5) scWith.nd rfl (.inl rfl) (pe_ix ix_kdict (pe_glob (v := .ref aP) rfl T.m rfl) (pv 3) (fun _ _ => rfl)))
      (pss_cons (ps_set (i := 6) scWith.nd rfl (.inl rfl) (pe_ix ix_tup (pv 0) (pv 5) (fun _ _ => rfl)))
      (pss_cons (ps_set (i := 6) scWith.nd rfl (.inl rfl) (pe_op op_catA (pe_op op_catA (pe_slice sl_tupA (pv 6) po_none (po_some (pv 4))) (pe_tup (pa_cons (pv 2) pa_nil))) (pe_slice sl_tupA (pv 6) (po_some (pe_op op_add (pv 4) pe_int)) po_none)))
      (pss_one (ps_ret (pe_op op_catA (pe_op op_catA (pe_slice sl_tupA (pv 0) po_none (po_some (pv 5))) (pe_tup (pa_cons (pv 6) pa_nil))) (pe_slice sl_tupA (pv 0) (po_some (pe_op op_add (pv 5) pe_int)) po_none))))))), ?_⟩
    refine ⟨_, rfl, b, _, rfl, sb, rfl, _, _, rfl, _, _, rfl, rfl, ?_⟩
    refine ⟨_, rfl, aP, p.1.str, .int (p.1.ix : Nat), rfl, rfl, T.d p.1, ?_⟩
    refine ⟨_, rfl, _, rfl, a, _, _, _, rfl, rfl, sa, hr1, ?_⟩
    -- the row
    refine ⟨_, rfl, _, rfl, _, rfl, slA_by sr fun c1 H1 e1 s1 => ?_⟩
    rw [cut_to (by omega)] at s1
    refine ⟨_, rfl, (by show 1 ≤ sizeLine; decide), fun t1 ht1 => ?_⟩
    have f1 := same_upd (o := HO.tup [z]) ht1
    refine catA_by (SqT.same f1 s1) (SqT.of upd_same) (by rw [List.length_take]; simp; omega) fun c2 H2 e2 s2 => ?_
    have e12 := (e1.trans f1).trans e2
    refine ⟨_, rfl, _, rfl, _, _, rfl, rfl, _, rfl, ?_⟩
    dsimp only [tNoPart]
    refine slA_by (SqT.same e12 sr) fun c3 H3 e3 s3 => ?_
    rw [cut_from (by omega)] at s3
    refine catA_by (SqT.same e3 s2) s3 (by rw [List.length_append, List.length_take, List.length_drop]; simp; omega) fun c4 H4 e4 s4 => ?_
    rw [set_cut _ _ _ (by omega)] at s4
    have e14 := (e12.trans e3).trans e4
    have dn : Dp K H4 (.ref c4) (plsD ((rowOf d p.1).set p.2 q)) := .tup s4 (by rw [List.map_set]; exact DpAll.set (Dp.sames e14 _ _ dlr) (Dp.same e14 _ _ hz))
    -- the state
    refine ⟨_, rfl, _, rfl, _, rfl, slA_by (SqT.same e14 sa) fun c5 H5 e5 s5 => ?_⟩
    rw [cut_to (by show p.1.ix ≤ 3; omega)] at s5
    refine ⟨_, rfl, (by show 1 ≤ sizeLine; decide), fun t2 ht2 => ?_⟩
    have f2 := same_upd (o := HO.tup [V.ref c4]) ht2
    refine catA_by (SqT.same f2 s5) (SqT.of upd_same) (by rw [List.length_take]; simp; omega) fun c6 H6 e6 s6 => ?_
    have e56 := (e5.trans f2).trans e6
    refine ⟨_, rfl, _, rfl, _, _, rfl, rfl, _, rfl, ?_⟩
    dsimp only [tNoPart]
    refine slA_by (SqT.same (e14.trans e56) sa) fun c7 H7 e7 s7 => ?_
    rw [cut_from (by show p.1.ix < 3; exact ix3)] at s7
    refine catA_by (SqT.same e7 s6) s7 (by rw [List.length_append, List.length_take, List.length_drop]; simp; omega) fun c8 H8 e8 s8 => ?_
    rw [set_cut _ _ _ (by show p.1.ix < 3; exact ix3)] at s8
    have e58 := (e56.trans e7).trans e8
    have e18 := e14.trans e58
    refine k _ _ e18 ?_
    have dn' := Dp.same e58 _ _ dn
    have x1 := Dp.same e18 _ _ d1
    have x2 := Dp.same e18 _ _ d2
    have x3 := Dp.same e18 _ _ d3
    obtain ⟨kd, n⟩ := p
    cases kd
    · exact .tup s8 (.cons dn' (.cons x2 (.cons x3 .nil)))
    · exact .tup s8 (.cons x1 (.cons dn' (.cons x3 .nil)))
    · exact .tup s8 (.cons x1 (.cons x2 (.cons dn' .nil)))
/-! ### seal_on -/
def spOn (K : PySem.W.Frag) : Sp := fun vs H Q _ => ∃ (x : V) (b : Nat) (d : Hs), vs = [x, .int (b : Nat)] ∧ Dp K H x (stD d) ∧ ((Wd.box, (b : Int)) ∈ d.ss → ∀ H', Same H H' → Q (.int (onIx d b : Nat)) H') ∧ ((Wd.box, (b : Int)) ∉ d.ss → ∀ H', Same H H' → Q .non H')
theorem scOn : FnScope ["state", "box", "number", "place"] ["state", "box"] (defScope sOn) := ⟨rfl, rfl, rfl, by decide +kernel, rfl, by decide +kernel, by decide +kernel⟩
theorem on_eq {d : Hs} {b i : Nat} (h : d.ss[i]? = some (Wd.box, (b : Int))) (hn : ∀ (m : Nat) z, m < i → d.ss[m]? = some z → z ≠ (Wd.box, (b : Int))) : onIx d b = i := by
  unfold onIx
  obtain ⟨hi, he⟩ := List.getElem?_eq_some_iff.mp h
  have : d.ss.findIdx? (fun q => decide (q = (Wd.box, (b : Int)))) = some i := by
    rw [List.findIdx?_eq_some_iff_getElem]
    refine ⟨hi, by rw [he]; exact decide_eq_true rfl, fun j hj => ?_⟩
    have := hn j (d.ss[j]) hj (List.getElem?_eq_getElem (by omega))
    simpa using this
  rw [this]
  rfl
theorem ok_on {f : Addr} {fd : FuncData} (F : Fun K "seal_on" "seal_on" sOn f fd) (B : Bt mg) : FnOk P w K mg base CX0 1 f fd ["state", "box"] (spOn K) := by
  refine F.ok scOn (fun vs H Q E h => ?_) (fun cdv A outer s H vs Q E hr h => ?_)
  · obtain ⟨x, b, d, rfl, _⟩ := h
    rfl
  · obtain ⟨x, b, d, rfl, hx, k1, k2⟩ := h
    have hu : (cxOf CX0 P w K mg base ["state", "box", "number", "place"] "seal_on" (defScope sOn) f cdv A outer s H E).nox.A.units + 64 < cLine := by have := hr.un; show (A.deeper _).units + 64 < cLine; omega
    obtain ⟨a, v1, v2, v3, rfl, sa, d1, d2, d3⟩ := st_at hx
    obtain ⟨as, xs, rfl, ss, ds, ls⟩ := pls_at d3
    refine ⟨_, pss_cons (ps_for PassesOwn.never rfl (pi_enumT (by rfl) B.enu (pa_cons (pe_ix ix_tup (pv 0) pe_int (fun _ _ => rfl)) pa_nil)) (pg_tup (by rfl) (pgs_cons (pg_name (i := 2) scOn.nd rfl (.inl rfl)) (pgs_cons (pg_name (i := 3) scOn.nd rfl (.inl rfl)) pgs_nil)))
        (pss_one (ps_if (pt_cmpR (op_eqD hu) (pv 3) (pe_tup (pa_cons pe_str (pa_cons (pv 1) pa_nil))) (nomark _)) (pss_one (ps_ret (pv 2))) pss_nil)))
      (pss_one (ps_ret pe_non)), ?_⟩
    refine ⟨_, rfl, a, _, 2, _, rfl, rfl, sa, rfl, as, xs, rfl, ss, for_enumT (K := K) (a := as) (xs := xs) (fun i σ H2 => ∃ u1 u2 : Option V, σ = [some (.ref a), some (.int (b : Nat)), u1, u2] ∧ Same H H2 ∧ ∀ (m : Nat) z, m < i → d.ss[m]? = some z → z ≠ (Wd.box, (b : Int)))
      ⟨none, none, rfl, Same.refl H, fun m z h _ => absurd h (by omega)⟩ (fun i σ H2 _ ⟨_, _, _, e, _⟩ => SqT.same e ss) ?_ ?_⟩
    · rintro i y σ H2 T' hi ⟨u1, u2, rfl, e, hb⟩ hT
      obtain ⟨q, hq, hy⟩ := pls_get ds hi
      have f1 := same_upd (o := HO.tup [.int (i : Nat), y]) hT
      refine ⟨T', _, rfl, SqT.of upd_same, rfl, _, _, rfl, _, _, rfl, rfl, ?_⟩
      refine ⟨_, rfl, _, rfl, (by show 2 ≤ sizeLine; decide), fun t ht => ?_⟩
      have f2 := f1.trans (same_upd (o := HO.tup [.str ("box" : Str), .int (b : Nat)]) ht)
      refine ⟨plD q, plD (.box, (b : Int)), Dp.same (e.trans f2) _ _ hy, .tup (SqT.of upd_same) (.cons (.str _) (.cons (.int _) .nil)), shaped_pl _, shaped_pl _, _, rfl, ?_⟩
      rw [eqv_pl]
      by_cases c : q = (.box, (b : Int))
      · subst c
        rw [decide_eq_true rfl]
        refine iteT ⟨_, rfl, ?_⟩
        have := k1 (List.mem_of_getElem? hq) _ (e.trans f2)
        rw [on_eq hq hb] at this
        exact this
      · rw [decide_eq_false c]
        refine iteF ⟨_, _, rfl, e.trans f2, fun m z hm hz => ?_⟩
        by_cases cm : m = i
        · subst cm
          rw [hq] at hz
          cases hz
          exact c
        · exact hb m z (by omega) hz
    · rintro σ H2 ⟨u1, u2, rfl, e, hb⟩
      refine k2 (fun z => ?_) _ e
      obtain ⟨i, hi⟩ := mem_get z
      exact hb i _ (by have := (List.getElem?_eq_some_iff.mp hi).1; omega) hi rfl
end
end Kw

set_option Elab.async false
set_option linter.all false
set_option maxRecDepth 100000
set_option maxHeartbeats 4000000
namespace Kw
open PySem PySem.Spec PyProof.Rows L2
section
variable {P : Program} {w : World} {K : PySem.W.Frag} {mg : Str → Option Value} {base : Heap}
/-! ### need_held -/
def spHeld (K : PySem.W.Frag) (X : Addr) : Sp := fun vs H Q E => ∃ (x y : V) (h : Nat) (d : Hs) (p : It) (q : Pl), vs = [x, .int (h : Nat), y] ∧ Dp K H x (stD d) ∧ Dp K H y (itP p) ∧ whereD d p = some q ∧ h ≤ 1000 ∧ p.2 ≤ 1000 ∧
  (q ≠ (.hand, (h : Int)) → Rp X H E) ∧ (q = (.hand, (h : Int)) → ∀ H', Same H H' → Q .non H')
theorem scHeld : FnScope ["state", "hand", "item"] ["state", "hand", "item"] (defScope sHeld) := ⟨rfl, rfl, rfl, by decide +kernel, rfl, by decide +kernel, by decide +kernel⟩
structure PlF (P : Program) (w : World) (K : PySem.W.Frag) (mg : Str → Option Value) (base : Heap) (g : Addr) (fd : FuncData) : Prop where
  G : FnOk P w K mg base CX0 1 g fd ["state", "item"] (spWhere K)
  m : mg "place_in" = some (.ref g)
  k : PySem.W.keepIn K (.ref g) = true
  b : Binds K fd ["state", "item"] []
theorem ok_held {f g X : Addr} {fd fdg : FuncData} (F : Fun K "need_held" "need_held" sHeld f fd) (N : PlF P w K mg base g fdg) (X1 : PErr K mg "NotHeld" X) :
    FnOk P w K mg base (L2.CX P w) 2 f fd ["state", "hand", "item"] (spHeld K X) := by
  refine F.okX scHeld (fun vs H Q E h => ?_) (fun cdv A outer s H vs Q E hr h => ?_)
  · obtain ⟨x, y, h, d, p, q, rfl, _⟩ := h
    rfl
  · obtain ⟨x, y, h, d, p, q, rfl, hx, hy, hw, h1, h2, kE, kQ⟩ := h
    have hr1 : Room 1 _ := hr
    have tk : Takes (cxOf (L2.CX P w) P w K mg base ["state", "hand", "item"] "need_held" (defScope sHeld) f cdv A outer s H E) (fun cls d _ H => E cls d H) := takes_of rfl rfl rfl rfl
    have hu : (cxOf (L2.CX P w) P w K mg base ["state", "hand", "item"] "need_held" (defScope sHeld) f cdv A outer s H E).A.units + 64 < cLine := by have := hr.un; show (A.deeper _).units + 64 < cLine; omega
    refine ⟨_, pss_one (ps_if (pt_cmpR (op_neD hu) (pe_call N.G hr rfl N.m N.k N.b .nil pass0 (pa_cons (pv 0) (pa_cons (pv 2) pa_nil))) (pe_tup (pa_cons pe_str (pa_cons (pv 1) pa_nil))) (nomark _))
      (pss_one (ps_raise rfl tk (SkE.pmk_own1 PySem.F.excBase_ValueError X1.ex X1.mg X1.kp (raises_own X1.sb X1.ty) rfl (pe_joined (.cons pe_str (.cons (pe_fmt (pv 1)) (.cons pe_str (.cons (pe_fmtI hr1 (pv 2)) .nil)))))))) pss_nil), ?_⟩
    obtain ⟨ip, rfl, sp⟩ := it_at hy
    refine ⟨_, rfl, _, rfl, x, _, d, p, q, rfl, hx, hy, hw, fun v H1 e1 dv => ?_⟩
    refine ⟨_, rfl, (by show 2 ≤ sizeLine; decide), fun t ht => ?_⟩
    have f1 := same_upd (o := HO.tup [.str ("hand" : Str), .int (h : Nat)]) ht
    refine ⟨plD q, plD (.hand, (h : Int)), Dp.same f1 _ _ dv, .tup (SqT.of upd_same) (.cons (.str _) (.cons (.int _) .nil)), shaped_pl _, shaped_pl _, _, rfl, ?_⟩
    rw [eqv_pl]
    have e2 := e1.trans f1
    by_cases c : q = (.hand, (h : Int))
    · rw [decide_eq_true c]
      exact iteF (kQ c _ e2)
    · rw [decide_eq_false c]
      have l5 := sizeLine_eq
      have l1 : (Str.empty : Str).length = 0 := rfl
      have l2 : ("hand " : Str).length = 5 := by decide +kernel
      have l4 : (" does not hold " : Str).length = 15 := by decide +kernel
      have l3 := digits_small (i := (h : Nat)) (by omega) (by omega)
      exact iteT ⟨_, rfl, by rw [str_app]; omega, _, rfl, .inr ⟨_, rfl, log2_small (by omega) (by omega), _, rfl, by rw [str_app, str_app]; omega, _, rfl, by rw [str_app, str_app, str_app]; omega, _, rfl, ip, _, _, rfl, SqT.same e2 sp, (kd_len _).1, (kd_len _).2, by omega, by omega, fun m hm => ⟨_, rfl, by rw [str_app, str_app, str_app, str_app]; omega, kE c _ e2⟩⟩⟩
structure HeldF (P : Program) (w : World) (K : PySem.W.Frag) (mg : Str → Option Value) (base : Heap) (X g : Addr) (fd : FuncData) : Prop where
  G : FnOk P w K mg base (L2.CX P w) 2 g fd ["state", "hand", "item"] (spHeld K X)
  m : mg "need_held" = some (.ref g)
  k : PySem.W.keepIn K (.ref g) = true
  b : Binds K fd ["state", "hand", "item"] []
structure OnF (P : Program) (w : World) (K : PySem.W.Frag) (mg : Str → Option Value) (base : Heap) (g : Addr) (fd : FuncData) : Prop where
  G : FnOk P w K mg base CX0 1 g fd ["state", "box"] (spOn K)
  m : mg "seal_on" = some (.ref g)
  k : PySem.W.keepIn K (.ref g) = true
  b : Binds K fd ["state", "box"] []
structure WithF (P : Program) (w : World) (K : PySem.W.Frag) (mg : Str → Option Value) (base : Heap) (g : Addr) (fd : FuncData) : Prop where
  G : FnOk P w K mg base CX0 1 g fd ["state", "item", "place"] (spWith K)
  m : mg "with_place" = some (.ref g)
  k : PySem.W.keepIn K (.ref g) = true
  b : Binds K fd ["state", "item", "place"] []
/-! ### need_bare -/
def spBare (K : PySem.W.Frag) (XH XS : Addr) : Sp := fun vs H Q E => ∃ (x : V) (h b : Nat) (d : Hs), vs = [x, .int (h : Nat), .int (b : Nat)] ∧ Dp K H x (stD d) ∧ b < d.bs.length ∧ h ≤ 1000 ∧ b ≤ 1000 ∧
  (whereD d (.box, b) ≠ some (.hand, (h : Int)) → Rp XH H E) ∧ (whereD d (.box, b) = some (.hand, (h : Int)) → (Wd.box, (b : Int)) ∈ d.ss → Rp XS H E) ∧ (whereD d (.box, b) = some (.hand, (h : Int)) → (Wd.box, (b : Int)) ∉ d.ss → ∀ H', Same H H' → Q .non H')
theorem scBare : FnScope ["state", "hand", "box"] ["state", "hand", "box"] (defScope sBare) := ⟨rfl, rfl, rfl, by decide +kernel, rfl, by decide +kernel, by decide +kernel⟩
theorem ok_bare {f g g2 XH XS : Addr} {fd fdg fdg2 : FuncData} (F : Fun K "need_bare" "need_bare" sBare f fd) (N : HeldF P w K mg base XH g fdg) (O : OnF P w K mg base g2 fdg2) (X1 : PErr K mg "IsSealed" XS) :
    FnOk P w K mg base (L2.CX P w) 3 f fd ["state", "hand", "box"] (spBare K XH XS) := by
  refine F.okX scBare (fun vs H Q E h => ?_) (fun cdv A outer s H vs Q E hr h => ?_)
  · obtain ⟨x, h, b, d, rfl, _⟩ := h
    rfl
  · obtain ⟨x, h, b, d, rfl, hx, hb, h1, h2, kH, kS, kQ⟩ := h
    have hr1 : Room 1 _ := hr.mono (by decide)
    have tk : Takes (cxOf (L2.CX P w) P w K mg base ["state", "hand", "box"] "need_bare" (defScope sBare) f cdv A outer s H E) (fun cls d _ H => E cls d H) := takes_of rfl rfl rfl rfl
    refine ⟨_, pss_cons (ps_expr (pe_call N.G hr rfl N.m N.k N.b .nil (passes_call tk (fun _ _ _ _ h => h)) (pa_cons (pv 0) (pa_cons (pv 1) (pa_cons (pe_tup (pa_cons pe_str (pa_cons (pv 2) pa_nil))) pa_nil)))))
      (pss_one (ps_if (pt_cmp (pc_notN (pe_call O.G hr1 rfl O.m O.k O.b .nil pass0 (pa_cons (pv 0) (pa_cons (pv 2) pa_nil)))))
      (pss_one (ps_raise rfl tk (SkE.pmk_own1 PySem.F.excBase_ValueError X1.ex X1.mg X1.kp (raises_own X1.sb X1.ty) rfl (pe_joined (.cons pe_str (.cons (pe_fmt (pv 2)) (.cons pe_str .nil))))))) pss_nil)), ?_⟩
    obtain ⟨q, hq⟩ := where_box hb
    refine ⟨_, rfl, _, rfl, _, rfl, (by show 2 ≤ sizeLine; decide), fun t ht => ?_⟩
    have f1 := same_upd (o := HO.tup [.str ("box" : Str), .int (b : Nat)]) ht
    have dt : Dp K (L2.upd H t (.tup [.str ("box" : Str), .int (b : Nat)])) (.ref t) (itP (.box, b)) := .tup (SqT.of upd_same) (.cons (.str _) (.cons (.int _) .nil))
    generalize L2.upd H t (.tup [.str ("box" : Str), .int (b : Nat)]) = H1 at *
    refine ⟨x, .ref t, h, d, (.box, b), q, rfl, Dp.same f1 _ _ hx, dt, hq, h1, h2, fun c => (kH (by rw [hq]; exact fun z => c (Option.some.inj z))).same f1, fun c H2 e2 => ?_⟩
    have hq' : whereD d (.box, b) = some (.hand, (h : Int)) := by rw [hq, c]
    have e12 := f1.trans e2
    have l5 := sizeLine_eq
    have l1 : (Str.empty : Str).length = 0 := rfl
    have l2 : ("box " : Str).length = 4 := by decide +kernel
    have l4 : (" has a seal" : Str).length = 11 := by decide +kernel
    have l3 := digits_small (i := (b : Nat)) (by omega) (by omega)
    refine ⟨_, rfl, _, rfl, x, b, d, rfl, Dp.same e12 _ _ hx, fun hin H3 e3 => ?_, fun hno H3 e3 => ?_⟩
    · exact ⟨_, rfl, iteT ⟨_, rfl, by rw [str_app]; omega, _, rfl, .inr ⟨_, rfl, log2_small (by omega) (by omega), _, rfl, by rw [str_app, str_app]; omega, _, rfl, by rw [str_app, str_app, str_app]; omega, kS hq' hin _ (e12.trans e3)⟩⟩⟩
    · exact ⟨_, rfl, iteF (kQ hq' hno _ (e12.trans e3))⟩
structure BareF (P : Program) (w : World) (K : PySem.W.Frag) (mg : Str → Option Value) (base : Heap) (XH XS g : Addr) (fd : FuncData) : Prop where
  G : FnOk P w K mg base (L2.CX P w) 3 g fd ["state", "hand", "box"] (spBare K XH XS)
  m : mg "need_bare" = some (.ref g)
  k : PySem.W.keepIn K (.ref g) = true
  b : Binds K fd ["state", "hand", "box"] []
/-! ### state_behind_break -/
def spBreak (K : PySem.W.Frag) (XH XN : Addr) : Sp := fun vs H Q E => ∃ (x : V) (h b : Nat) (d : Hs), vs = [x, .int (h : Nat), .int (b : Nat)] ∧ Dp K H x (stD d) ∧ b < d.bs.length ∧ Ls d ∧ h ≤ 1000 ∧ b ≤ 1000 ∧
  (whereD d (.box, b) ≠ some (.hand, (h : Int)) → Rp XH H E) ∧ (whereD d (.box, b) = some (.hand, (h : Int)) → (Wd.box, (b : Int)) ∉ d.ss → Rp XN H E) ∧ (whereD d (.box, b) = some (.hand, (h : Int)) → (Wd.box, (b : Int)) ∈ d.ss → ∀ v H', Same H H' → Dp K H' v (stD (setD d (.sl, onIx d b) (.gone, 0))) → Q v H')
theorem scBreak : FnScope ["state", "hand", "box", "seal"] ["state", "hand", "box"] (defScope sBreak) := ⟨rfl, rfl, rfl, by decide +kernel, rfl, by decide +kernel, by decide +kernel⟩
theorem ok_break {f g g2 g3 XH XN : Addr} {fd fdg fdg2 fdg3 : FuncData} (F : Fun K "state_behind_break" "state_behind_break" sBreak f fd) (N : HeldF P w K mg base XH g fdg) (O : OnF P w K mg base g2 fdg2) (W : WithF P w K mg base g3 fdg3) (X1 : PErr K mg "NotSealed" XN) :
    FnOk P w K mg base (L2.CX P w) 3 f fd ["state", "hand", "box"] (spBreak K XH XN) := by
  refine F.okX scBreak (fun vs H Q E h => ?_) (fun cdv A outer s H vs Q E hr h => ?_)
  · obtain ⟨x, h, b, d, rfl, _⟩ := h
    rfl
  · obtain ⟨x, h, b, d, rfl, hx, hb, hL, h1, h2, kH, kS, kQ⟩ := h
    have hr1 : Room 1 _ := hr.mono (by decide)
    have tk : Takes (cxOf (L2.CX P w) P w K mg base ["state", "hand", "box", "seal"] "state_behind_break" (defScope sBreak) f cdv A outer s H E) (fun cls d _ H => E cls d H) := takes_of rfl rfl rfl rfl
    refine ⟨_, pss_cons (ps_expr (pe_call N.G hr rfl N.m N.k N.b .nil (passes_call tk (fun _ _ _ _ h => h)) (pa_cons (pv 0) (pa_cons (pv 1) (pa_cons (pe_tup (pa_cons pe_str (pa_cons (pv 2) pa_nil))) pa_nil)))))
      (pss_cons (ps_set (i := 3) scBreak.nd rfl (.inl rfl) (pe_call O.G hr1 rfl O.m O.k O.b .nil pass0 (pa_cons (pv 0) (pa_cons (pv 2) pa_nil))))
      (pss_cons (ps_if (pt_cmp (pc_isN (pv 3)))
      (pss_one (ps_raise rfl tk (SkE.pmk_own1 PySem.F.excBase_ValueError X1.ex X1.mg X1.kp (raises_own X1.sb X1.ty) rfl (pe_joined (.cons pe_str (.cons (pe_fmt (pv 2)) (.cons pe_str .nil))))))) pss_nil)
      (pss_one (ps_ret (pe_call W.G hr1 rfl W.m W.k W.b .nil pass0 (pa_cons (pv 0) (pa_cons (pe_tup (pa_cons pe_str (pa_cons (pv 3) pa_nil))) (pa_cons (pe_tup (pa_cons pe_str (pa_cons pe_int pa_nil))) pa_nil)))))))), ?_⟩
    obtain ⟨q, hq⟩ := where_box hb
    refine ⟨_, rfl, _, rfl, _, rfl, (by show 2 ≤ sizeLine; decide), fun t ht => ?_⟩
    have f1 := same_upd (o := HO.tup [.str ("box" : Str), .int (b : Nat)]) ht
    have dt : Dp K (L2.upd H t (.tup [.str ("box" : Str), .int (b : Nat)])) (.ref t) (itP (.box, b)) := .tup (SqT.of upd_same) (.cons (.str _) (.cons (.int _) .nil))
    generalize L2.upd H t (.tup [.str ("box" : Str), .int (b : Nat)]) = H1 at *
    refine ⟨x, .ref t, h, d, (.box, b), q, rfl, Dp.same f1 _ _ hx, dt, hq, h1, h2, fun c => (kH (by rw [hq]; exact fun z => c (Option.some.inj z))).same f1, fun c H2 e2 => ?_⟩
    have hq' : whereD d (.box, b) = some (.hand, (h : Int)) := by rw [hq, c]
    have e12 := f1.trans e2
    have l5 := sizeLine_eq
    have l1 : (Str.empty : Str).length = 0 := rfl
    have l2 : ("box " : Str).length = 4 := by decide +kernel
    have l4 : (" has no seal" : Str).length = 12 := by decide +kernel
    have l3 := digits_small (i := (b : Nat)) (by omega) (by omega)
    refine ⟨_, rfl, _, rfl, x, b, d, rfl, Dp.same e12 _ _ hx, fun hin H3 e3 => ?_, fun hno H3 e3 => ?_⟩
    · obtain ⟨⟨z, hz1, hz2⟩, _⟩ := on_some hin
      have e13 := e12.trans e3
      refine ⟨_, rfl, _, rfl, iteF ⟨_, rfl, _, rfl, (by show 2 ≤ sizeLine; decide), fun t1 ht1 => ⟨(by show 2 ≤ sizeLine; decide), fun t2 ht2 => ?_⟩⟩⟩
      have f2 := same_upd (o := HO.tup [.str ("seal" : Str), .int (onIx d b : Nat)]) ht1
      have f3 := same_upd (o := HO.tup [.str ("gone" : Str), .int 0]) ht2
      have e15 := (e13.trans f2).trans f3
      exact ⟨x, .ref t1, .ref t2, d, (.sl, onIx d b), (.gone, 0), rfl, Dp.same e15 _ _ hx, .tup (SqT.of (f3 _ _ upd_same)) (.cons (.str _) (.cons (.int _) .nil)), .tup (SqT.of upd_same) (.cons (.str _) (.cons (.int _) .nil)), where_lt (q := z) hz1, hL, fun v H' e dv => kQ hq' hin v H' (e15.trans e) dv⟩
    · exact ⟨_, rfl, _, rfl, iteT ⟨_, rfl, by rw [str_app]; omega, _, rfl, .inr ⟨_, rfl, log2_small (by omega) (by omega), _, rfl, by rw [str_app, str_app]; omega, _, rfl, by rw [str_app, str_app, str_app]; omega, kS hq' hno _ (e12.trans e3)⟩⟩⟩
structure BreakF (P : Program) (w : World) (K : PySem.W.Frag) (mg : Str → Option Value) (base : Heap) (XH XN g : Addr) (fd : FuncData) : Prop where
  G : FnOk P w K mg base (L2.CX P w) 3 g fd ["state", "hand", "box"] (spBreak K XH XN)
  m : mg "state_behind_break" = some (.ref g)
  k : PySem.W.keepIn K (.ref g) = true
  b : Binds K fd ["state", "hand", "box"] []
end
end Kw

set_option Elab.async false
set_option linter.all false
set_option maxRecDepth 100000
set_option maxHeartbeats 4000000
namespace Kw
open PySem PySem.Spec PyProof.Rows L2
theorem mGo_hit {w0 : Str} {rest : List V} {D : Ends} {σ : L2.St} {H : Hp} {c : MCase} {cs : List MCase} (h1 : c.slots.length = rest.length) (h2 : c.word = w0) (h : c.body D (setAll c.slots rest σ) H) : mGo w0 rest D σ H (c :: cs) := by
  show (if c.slots.length = rest.length ∧ c.word = w0 then _ else _)
  rw [if_pos ⟨h1, h2⟩]
  exact h
theorem mGo_miss {w0 : Str} {rest : List V} {D : Ends} {σ : L2.St} {H : Hp} {c : MCase} {cs : List MCase} (h2 : ¬ c.word = w0) (h : mGo w0 rest D σ H cs) : mGo w0 rest D σ H (c :: cs) := by
  show (if c.slots.length = rest.length ∧ c.word = w0 then _ else _)
  rw [if_neg (fun z => h2 z.2)]
  exact h
section
variable {P : Program} {w : World} {K : PySem.W.Frag} {mg : Str → Option Value} {base : Heap}
/-! ### state_behind -/
/-- the errors by their names -/
def spBehind (K : PySem.W.Frag) (ce : Str → Addr) : Sp := fun vs H Q E => ∃ (x y : V) (d : Hs) (e : Dd), vs = [x, y] ∧ Dp K H x (stD d) ∧ Dp K H y (ddD e) ∧ Kn d e ∧ Sm e ∧ Ls d ∧
  (∀ z, barOf d e = z → z ≠ "" → Rp (ce z) H E) ∧ (barOf d e = "" → ∀ v H', Same H H' → Dp K H' v (stD (nextOf d e)) → Q v H')
theorem scBehind : FnScope ["state", "deed", "hand", "item", "other", "box", "seal"] ["state", "deed"] (defScope sBehind) := ⟨rfl, rfl, rfl, by decide +kernel, rfl, by decide +kernel, by decide +kernel⟩
theorem nb1 : ("NotHeld" : Str) ≠ "" := by decide +kernel
theorem nb2 : ("IsSealed" : Str) ≠ "" := by decide +kernel
theorem nb3 : ("NotInside" : Str) ≠ "" := by decide +kernel
theorem nb4 : ("NotSealed" : Str) ≠ "" := by decide +kernel
theorem ok_behind {f gH gR gW gL gZ : Addr} {fd fdH fdR fdW fdL fdZ : FuncData} {ce : Str → Addr} (F : Fun K "state_behind" "state_behind" sBehind f fd) (N : HeldF P w K mg base (ce "NotHeld") gH fdH) (R : BareF P w K mg base (ce "NotHeld") (ce "IsSealed") gR fdR) (W : WithF P w K mg base gW fdW) (L : PlF P w K mg base gL fdL)
    (Z : BreakF P w K mg base (ce "NotHeld") (ce "NotSealed") gZ fdZ) (X1 : PErr K mg "NotInside" (ce "NotInside")) :
    FnOk P w K mg base (L2.CX P w) 4 f fd ["state", "deed"] (spBehind K ce) := by
  refine F.okX scBehind (fun vs H Q E h => ?_) (fun cdv A outer s H vs Q E hr h => ?_)
  · obtain ⟨x, y, d, e, rfl, _⟩ := h
    rfl
  · obtain ⟨x, y, d, e, rfl, hx, hy, hk, hm, hL, kE, kQ⟩ := h
    have hr1 : Room 1 _ := hr.mono (by decide)
    have hr2 : Room 2 _ := hr.mono (by decide)
    have hr3 : Room 3 _ := hr
    have tk : Takes (cxOf (L2.CX P w) P w K mg base ["state", "deed", "hand", "item", "other", "box", "seal"] "state_behind" (defScope sBehind) f cdv A outer s H E) (fun cls d _ H => E cls d H) := takes_of rfl rfl rfl rfl
    have hu : (cxOf (L2.CX P w) P w K mg base ["state", "deed", "hand", "item", "other", "box", "seal"] "state_behind" (defScope sBehind) f cdv A outer s H E).A.units + 64 < cLine := by have := hr.un; show (A.deeper _).units + 64 < cLine; omega
    refine ⟨_, (pss_cons (ps_match rfl scBehind.nd (pv 1) (.cons (.name (i := 2) rfl rfl (.name (i := 3) rfl rfl (.name (i := 4) rfl rfl .nil))) (pss_cons (ps_expr (pe_call N.G hr2 rfl N.m N.k N.b .nil (passes_call tk (fun _ _ _ _ h => h)) (pa_cons (pv 0) (pa_cons (pv 2) (pa_cons (pv 3) pa_nil)))))
        (pss_one (ps_ret (pe_call W.G hr1 rfl W.m W.k W.b .nil pass0 (pa_cons (pv 0) (pa_cons (pv 3) (pa_cons (pe_tup (pa_cons pe_str (pa_cons (pv 4) pa_nil))) pa_nil)))))))
      (.cons (.name (i := 2) rfl rfl (.name (i := 3) rfl rfl (.name (i := 5) rfl rfl .nil))) (pss_cons (ps_expr (pe_call N.G hr2 rfl N.m N.k N.b .nil (passes_call tk (fun _ _ _ _ h => h)) (pa_cons (pv 0) (pa_cons (pv 2) (pa_cons (pv 3) pa_nil)))))
        (pss_cons (ps_expr (pe_call R.G hr3 rfl R.m R.k R.b .nil (passes_call tk (fun _ _ _ _ h => h)) (pa_cons (pv 0) (pa_cons (pv 2) (pa_cons (pv 5) pa_nil)))))
        (pss_one (ps_ret (pe_call W.G hr1 rfl W.m W.k W.b .nil pass0 (pa_cons (pv 0) (pa_cons (pv 3) (pa_cons (pe_tup (pa_cons pe_str (pa_cons (pv 5) pa_nil))) pa_nil))))))))
      (.cons (.name (i := 2) rfl rfl (.name (i := 3) rfl rfl (.name (i := 5) rfl rfl .nil))) (pss_cons (ps_expr (pe_call R.G hr3 rfl R.m R.k R.b .nil (passes_call tk (fun _ _ _ _ h => h)) (pa_cons (pv 0) (pa_cons (pv 2) (pa_cons (pv 5) pa_nil)))))
        (pss_cons (ps_if (pt_cmpR (op_neD hu) (pe_call L.G hr1 rfl L.m L.k L.b .nil pass0 (pa_cons (pv 0) (pa_cons (pv 3) pa_nil))) (pe_tup (pa_cons pe_str (pa_cons (pv 5) pa_nil))) (nomark _)) (pss_one (ps_raise rfl tk (SkE.pmk_own1 PySem.F.excBase_ValueError X1.ex X1.mg X1.kp (raises_own X1.sb X1.ty) rfl (pe_joined (.cons (pe_fmtI hr1 (pv 3)) (.cons pe_str (.cons (pe_fmt (pv 5)) .nil))))))) pss_nil)
        (pss_one (ps_ret (pe_call W.G hr1 rfl W.m W.k W.b .nil pass0 (pa_cons (pv 0) (pa_cons (pv 3) (pa_cons (pe_tup (pa_cons pe_str (pa_cons (pv 2) pa_nil))) pa_nil))))))))
      (.cons (.name (i := 2) rfl rfl (.name (i := 5) rfl rfl (.name (i := 6) rfl rfl .nil))) (pss_cons (ps_expr (pe_call N.G hr2 rfl N.m N.k N.b .nil (passes_call tk (fun _ _ _ _ h => h)) (pa_cons (pv 0) (pa_cons (pv 2) (pa_cons (pe_tup (pa_cons pe_str (pa_cons (pv 6) pa_nil))) pa_nil)))))
        (pss_cons (ps_expr (pe_call R.G hr3 rfl R.m R.k R.b .nil (passes_call tk (fun _ _ _ _ h => h)) (pa_cons (pv 0) (pa_cons (pv 2) (pa_cons (pv 5) pa_nil)))))
        (pss_one (ps_ret (pe_call W.G hr1 rfl W.m W.k W.b .nil pass0 (pa_cons (pv 0) (pa_cons (pe_tup (pa_cons pe_str (pa_cons (pv 6) pa_nil))) (pa_cons (pe_tup (pa_cons pe_str (pa_cons (pv 5) pa_nil))) pa_nil))))))))
      .nil)))))
      (pss_one (ps_ret (pe_call Z.G hr3 rfl Z.m Z.k Z.b .nil (passes_call tk (fun _ _ _ _ h => h)) (pa_cons (pv 0) (pa_cons (pe_ix ix_tup (pv 1) pe_int (fun _ _ => rfl)) (pa_cons (pe_ix ix_tup (pv 1) pe_int (fun _ _ => rfl)) pa_nil))))))), ?_⟩
    obtain ⟨yd, vs, rfl, sy, dvs⟩ := dd_at hy
    have kH : ∀ z, barOf d e = z → z ≠ "" → Rp (ce z) H E := kE
    have tl : ∀ (H1 : Hp) (t : Addr) (wd : Wd) (n : Nat), H1 t = none → Dp K (L2.upd H1 t (.tup [.str wd.str, .int (n : Nat)])) (.ref t) (plD (wd, (n : Int))) := fun H1 t wd n h => .tup (SqT.of upd_same) (.cons (.str _) (.cons (.int _) .nil))
    refine ⟨_, rfl, yd, e.word, _, rfl, sy, ?_⟩
    cases e with
    | give h p o =>
      obtain ⟨m1, m2, m3⟩ := hm
      cases dvs with
      | cons dp r =>
      cases r with
      | cons do_ r =>
      cases r
      cases do_
      obtain ⟨q, hq⟩ := Option.isSome_iff_exists.mp (show (whereD d p).isSome from hk)
      have eb : barOf d (.give h p o) = if q = (.hand, (h : Int)) then ("" : Str) else ("NotHeld" : Str) := by
        simp only [barOf, hq, Option.some.injEq]
      dsimp only [Dd.word, Dd.hand] at *
      refine mGo_hit rfl rfl ?_
      refine ⟨_, rfl, _, rfl, _, rfl, x, _, h, d, p, q, rfl, hx, dp, hq, m1, m2, fun c => kE _ (by rw [eb, if_neg c]) nb1, fun c H1 e1 => ?_⟩
      refine ⟨_, rfl, _, rfl, _, rfl, (by show 2 ≤ sizeLine; decide), fun t ht => ?_⟩
      have f1 := same_upd (o := HO.tup [.str ("hand" : Str), .int (o : Nat)]) ht
      have e2 := e1.trans f1
      exact ⟨x, _, .ref t, d, p, (.hand, (o : Int)), rfl, Dp.same e2 _ _ hx, Dp.same e2 _ _ dp, tl _ t .hand o ht, where_lt hq, hL, fun v H' e dv => kQ (by rw [eb, if_pos c]) v H' (e2.trans e) dv⟩
    | put h p b =>
      obtain ⟨m1, m2, m3⟩ := hm
      obtain ⟨hk1, hb⟩ := hk
      cases dvs with
      | cons dp r =>
      cases r with
      | cons do_ r =>
      cases r
      cases do_
      obtain ⟨q, hq⟩ := Option.isSome_iff_exists.mp hk1
      dsimp only [Dd.word, Dd.hand] at *
      refine mGo_miss (by dsimp only; decide +kernel) (mGo_hit rfl rfl ?_)
      by_cases c0 : ¬ q = (.hand, (h : Int))
      · -- the item is not held: what comes first does not matter
        refine ⟨_, rfl, _, rfl, _, rfl, x, _, h, d, p, q, rfl, hx, dp, hq, m1, m2, fun c => kE _ ?_ nb1, fun c => absurd c c0⟩
        simp only [barOf, hq, Option.some.injEq, if_neg c0]
        split <;> rfl
      have c0 := Classical.not_not.mp c0
      refine ⟨_, rfl, _, rfl, _, rfl, x, _, h, d, p, q, rfl, hx, dp, hq, m1, m2, fun c => absurd c0 c, fun c H1 e1 => ?_⟩
      refine ⟨_, rfl, _, rfl, _, rfl, x, h, b, d, rfl, Dp.same e1 _ _ hx, hb, m1, m3, fun z => (kE _ ?_ nb1).same e1, fun z1 z2 => (kE _ ?_ nb2).same e1, fun z1 z2 H2 e2 => ?_⟩
      · simp only [barOf, if_neg z]
      · simp only [barOf, if_pos z1, hq, Option.some.injEq, if_pos c0, if_pos z2]
      have e12 := e1.trans e2
      refine ⟨_, rfl, _, rfl, _, rfl, (by show 2 ≤ sizeLine; decide), fun t ht => ?_⟩
      have f1 := same_upd (o := HO.tup [.str ("box" : Str), .int (b : Nat)]) ht
      have e3 := e12.trans f1
      refine ⟨x, _, .ref t, d, p, (.box, (b : Int)), rfl, Dp.same e3 _ _ hx, Dp.same e3 _ _ dp, tl _ t .box b ht, where_lt hq, hL, fun v H' e dv => kQ ?_ v H' (e3.trans e) dv⟩
      simp only [barOf, if_pos z1, hq, Option.some.injEq, if_pos c0, if_neg z2]
    | take h p b =>
      obtain ⟨m1, m2, m3⟩ := hm
      obtain ⟨hk1, hb⟩ := hk
      cases dvs with
      | cons dp r =>
      cases r with
      | cons do_ r =>
      cases r
      cases do_
      obtain ⟨q, hq⟩ := Option.isSome_iff_exists.mp hk1
      obtain ⟨ip, rfl, sp⟩ := it_at dp
      dsimp only [Dd.word, Dd.hand] at *
      refine mGo_miss (by dsimp only; decide +kernel) (mGo_miss (by dsimp only; decide +kernel) (mGo_hit rfl rfl ?_))
      refine ⟨_, rfl, _, rfl, _, rfl, x, h, b, d, rfl, hx, hb, m1, m3, fun z => kE _ ?_ nb1, fun z1 z2 => kE _ ?_ nb2, fun z1 z2 H2 e2 => ?_⟩
      · simp only [barOf, if_neg z]
      · simp only [barOf, if_pos z1, if_pos z2]
      refine ⟨_, rfl, _, rfl, x, _, d, p, q, rfl, Dp.same e2 _ _ hx, Dp.same e2 _ _ dp, hq, fun v H3 e3 dv => ?_⟩
      refine ⟨_, rfl, (by show 2 ≤ sizeLine; decide), fun t ht => ?_⟩
      have f1 := same_upd (o := HO.tup [.str ("box" : Str), .int (b : Nat)]) ht
      refine ⟨plD q, plD (.box, (b : Int)), Dp.same f1 _ _ dv, tl _ t .box b ht, shaped_pl _, shaped_pl _, _, rfl, ?_⟩
      rw [eqv_pl]
      have e4 := (e2.trans e3).trans f1
      by_cases c : q = (.box, (b : Int))
      · rw [decide_eq_true c]
        refine iteF ⟨_, rfl, _, rfl, _, rfl, (by show 2 ≤ sizeLine; decide), fun t2 ht2 => ?_⟩
        have f2 := same_upd (o := HO.tup [.str ("hand" : Str), .int (h : Nat)]) ht2
        have e5 := e4.trans f2
        refine ⟨x, _, .ref t2, d, p, (.hand, (h : Int)), rfl, Dp.same e5 _ _ hx, Dp.same e5 _ _ dp, tl _ t2 .hand h ht2, where_lt hq, hL, fun v H' e dv => kQ ?_ v H' (e5.trans e) dv⟩
        simp only [barOf, if_pos z1, if_neg z2, hq, Option.some.injEq, if_pos c]
      · rw [decide_eq_false c]
        have l5 := sizeLine_eq
        have l1 : (Str.empty : Str).length = 0 := rfl
        have l2 : (" is not straight in box " : Str).length = 24 := by decide +kernel
        have l3 := digits_small (i := (b : Nat)) (by omega) (by omega)
        refine iteT ⟨_, rfl, ip, _, _, rfl, SqT.same e4 sp, (kd_len _).1, (kd_len _).2, by omega, by omega, fun m hm => ⟨_, rfl, by rw [str_app]; omega, _, rfl, by rw [str_app, str_app]; omega, _, rfl, .inr ⟨_, rfl, log2_small (by omega) (by omega), _, rfl, by rw [str_app, str_app, str_app]; omega, kE _ ?_ nb3 _ e4⟩⟩⟩
        simp only [barOf, if_pos z1, if_neg z2, hq, Option.some.injEq, if_neg c]
    | lock h b s =>
      obtain ⟨m1, m2, m3⟩ := hm
      obtain ⟨hb, hsl⟩ := hk
      cases dvs with
      | cons dp r =>
      cases r with
      | cons do_ r =>
      cases r
      cases do_
      cases dp
      obtain ⟨q, hq⟩ : ∃ q, d.ss[s]? = some q := ⟨_, List.getElem?_eq_getElem hsl⟩
      have hq' : whereD d (.sl, s) = some q := hq
      dsimp only [Dd.word, Dd.hand] at *
      refine mGo_miss (by dsimp only; decide +kernel) (mGo_miss (by dsimp only; decide +kernel) (mGo_miss (by dsimp only; decide +kernel) (mGo_hit rfl rfl ?_)))
      refine ⟨_, rfl, _, rfl, _, rfl, (by show 2 ≤ sizeLine; decide), fun t1 ht1 => ?_⟩
      have f1 := same_upd (o := HO.tup [.str ("seal" : Str), .int (s : Nat)]) ht1
      have ds : Dp K (L2.upd H t1 (.tup [.str ("seal" : Str), .int (s : Nat)])) (.ref t1) (itP (.sl, s)) := .tup (SqT.of upd_same) (.cons (.str _) (.cons (.int _) .nil))
      by_cases c0 : ¬ q = (.hand, (h : Int))
      · refine ⟨x, .ref t1, h, d, (.sl, s), q, rfl, Dp.same f1 _ _ hx, ds, hq', m1, m3, fun c => (kE _ ?_ nb1).same f1, fun c => absurd c c0⟩
        simp only [barOf, hq, Option.some.injEq, if_neg c0]
        split <;> rfl
      have c0 := Classical.not_not.mp c0
      refine ⟨x, .ref t1, h, d, (.sl, s), q, rfl, Dp.same f1 _ _ hx, ds, hq', m1, m3, fun c => absurd c0 c, fun c H1 e1 => ?_⟩
      have e1 := f1.trans e1
      refine ⟨_, rfl, _, rfl, _, rfl, x, h, b, d, rfl, Dp.same e1 _ _ hx, hb, m1, m2, fun z => (kE _ ?_ nb1).same e1, fun z1 z2 => (kE _ ?_ nb2).same e1, fun z1 z2 H2 e2 => ?_⟩
      · simp only [barOf, if_neg z]
      · simp only [barOf, if_pos z1, hq, Option.some.injEq, if_pos c0, if_pos z2]
      have e12 := e1.trans e2
      refine ⟨_, rfl, _, rfl, (by show 2 ≤ sizeLine; decide), fun t2 ht2 => ?_⟩
      have f2 := same_upd (o := HO.tup [.str ("seal" : Str), .int (s : Nat)]) ht2
      have ds2 : Dp K (L2.upd H2 t2 (.tup [.str ("seal" : Str), .int (s : Nat)])) (.ref t2) (itP (.sl, s)) := .tup (SqT.of upd_same) (.cons (.str _) (.cons (.int _) .nil))
      refine ⟨_, rfl, (by show 2 ≤ sizeLine; decide), fun t ht => ?_⟩
      have f3 := same_upd (o := HO.tup [.str ("box" : Str), .int (b : Nat)]) ht
      have e3 := (e12.trans f2).trans f3
      refine ⟨x, .ref t2, .ref t, d, (.sl, s), (.box, (b : Int)), rfl, Dp.same e3 _ _ hx, Dp.same f3 _ _ ds2, tl _ t .box b ht, hsl, hL, fun v H' e dv => kQ ?_ v H' (e3.trans e) dv⟩
      simp only [barOf, if_pos z1, hq, Option.some.injEq, if_pos c0, if_neg z2]
    | brk h b =>
      obtain ⟨m1, m2⟩ := hm
      have hb : b < d.bs.length := hk
      cases dvs with
      | cons dp r =>
      cases r
      cases dp
      dsimp only [Dd.word, Dd.hand] at *
      refine mGo_miss (by dsimp only; decide +kernel) (mGo_miss (by dsimp only; decide +kernel) (mGo_miss (by dsimp only; decide +kernel) (mGo_miss (by dsimp only; decide +kernel) ?_)))
      refine ⟨_, rfl, _, rfl, yd, _, 1, _, rfl, rfl, sy, rfl, _, rfl, yd, _, 2, _, rfl, rfl, sy, rfl, x, h, b, d, rfl, hx, hb, hL, m1, m2, fun z => kE _ ?_ nb1, fun z1 z2 => kE _ ?_ nb4, fun z1 z2 v H' e dv => kQ ?_ v H' e dv⟩
      · simp only [barOf, if_neg z]
      · simp only [barOf, if_pos z1, if_neg z2]
      · simp only [barOf, if_pos z1, if_pos z2]
/-! ### need_move, need_deed -/
structure NLoadF (P : Program) (w : World) (K : PySem.W.Frag) (mg : Str → Option Value) (base : Heap) (C X g : Addr) (fd : FuncData) : Prop where
  G : FnOk P w K mg base (L2.CX P w) 3 g fd ["house", "item"] (spNLoad K C X)
  m : mg "need_load" = some (.ref g)
  k : PySem.W.keepIn K (.ref g) = true
  b : Binds K fd ["house", "item"] []
structure NItemF (P : Program) (w : World) (K : PySem.W.Frag) (mg : Str → Option Value) (base : Heap) (C X g : Addr) (fd : FuncData) : Prop where
  G : FnOk P w K mg base (L2.CX P w) 3 g fd ["house", "item"] (spNItem K C X)
  m : mg "need_item" = some (.ref g)
  k : PySem.W.keepIn K (.ref g) = true
  b : Binds K fd ["house", "item"] []
structure NHandF (P : Program) (w : World) (K : PySem.W.Frag) (mg : Str → Option Value) (base : Heap) (C X g : Addr) (fd : FuncData) : Prop where
  G : FnOk P w K mg base (L2.CX P w) 2 g fd ["house", "hand"] (spNHand K C X)
  m : mg "need_hand" = some (.ref g)
  k : PySem.W.keepIn K (.ref g) = true
  b : Binds K fd ["house", "hand"] []
structure NBoxF (P : Program) (w : World) (K : PySem.W.Frag) (mg : Str → Option Value) (base : Heap) (C X g : Addr) (fd : FuncData) : Prop where
  G : FnOk P w K mg base (L2.CX P w) 2 g fd ["house", "box"] (spNBox K C X)
  m : mg "need_box" = some (.ref g)
  k : PySem.W.keepIn K (.ref g) = true
  b : Binds K fd ["house", "box"] []
structure NSealF (P : Program) (w : World) (K : PySem.W.Frag) (mg : Str → Option Value) (base : Heap) (C X g : Addr) (fd : FuncData) : Prop where
  G : FnOk P w K mg base (L2.CX P w) 2 g fd ["house", "seal"] (spNSeal K C X)
  m : mg "need_seal" = some (.ref g)
  k : PySem.W.keepIn K (.ref g) = true
  b : Binds K fd ["house", "seal"] []
def mvOf (d : Hs) (p : It) (b : Nat) : Str := if ¬ inH d p ∨ p.1 = .sl then "UnknownItem" else if d.bs.length ≤ b then "UnknownBox" else if p = (.box, b) then "InsideItself" else ""
def spNMove (K : PySem.W.Frag) (C : Addr) (ce : Str → Addr) : Sp := fun vs H Q E => ∃ (h : Addr) (y : V) (p : It) (b : Nat) (d : Hs), vs = [.ref h, y, .int (b : Nat)] ∧ HouseAt K C H h d ∧ Dp K H y (itP p) ∧ p.2 ≤ 1000 ∧ b ≤ 1000 ∧
  (∀ z, mvOf d p b = z → z ≠ "" → Rp (ce z) H E) ∧ (mvOf d p b = "" → ∀ H', Same H H' → Q .non H')
theorem scNMove : FnScope ["house", "item", "box"] ["house", "item", "box"] (defScope sNMove) := ⟨rfl, rfl, rfl, by decide +kernel, rfl, by decide +kernel, by decide +kernel⟩
theorem ok_nmove {f g1 g2 C : Addr} {fd fd1 fd2 : FuncData} {ce : Str → Addr} (F : Fun K "need_move" "need_move" sNMove f fd) (NL : NLoadF P w K mg base C (ce "UnknownItem") g1 fd1) (NB : NBoxF P w K mg base C (ce "UnknownBox") g2 fd2) (X1 : PErr K mg "InsideItself" (ce "InsideItself")) :
    FnOk P w K mg base (L2.CX P w) 4 f fd ["house", "item", "box"] (spNMove K C ce) := by
  refine F.okX scNMove (fun vs H Q E h => ?_) (fun cdv A outer s H vs Q E hr h => ?_)
  · obtain ⟨h, y, p, b, d, rfl, _⟩ := h
    rfl
  · obtain ⟨h, y, p, b, d, rfl, hh, hy, m1, m2, kE, kQ⟩ := h
    have hr2 : Room 2 _ := hr.mono (by decide)
    have hr3 : Room 3 _ := hr
    have tk : Takes (cxOf (L2.CX P w) P w K mg base ["house", "item", "box"] "need_move" (defScope sNMove) f cdv A outer s H E) (fun cls d _ H => E cls d H) := takes_of rfl rfl rfl rfl
    have hu : (cxOf (L2.CX P w) P w K mg base ["house", "item", "box"] "need_move" (defScope sNMove) f cdv A outer s H E).A.units + 64 < cLine := by have := hr.un; show (A.deeper _).units + 64 < cLine; omega
    refine ⟨_, (pss_cons (ps_expr (pe_call NL.G hr3 rfl NL.m NL.k NL.b .nil (passes_call tk (fun _ _ _ _ h => h)) (pa_cons (pv 0) (pa_cons (pv 1) pa_nil))))
        (pss_cons (ps_expr (pe_call NB.G hr2 rfl NB.m NB.k NB.b .nil (passes_call tk (fun _ _ _ _ h => h)) (pa_cons (pv 0) (pa_cons (pv 2) pa_nil))))
        (pss_one (ps_if (pt_cmpR (op_eqD hu) (pv 1) (pe_tup (pa_cons pe_str (pa_cons (pv 2) pa_nil))) (nomark _)) (pss_one (ps_raise rfl tk (SkE.pmk_own1 PySem.F.excBase_ValueError X1.ex X1.mg X1.kp (raises_own X1.sb X1.ty) rfl (pe_joined (.cons pe_str (.cons (pe_fmt (pv 2)) (.cons pe_str .nil))))))) pss_nil)))), ?_⟩
    refine ⟨_, rfl, _, rfl, h, y, p, d, rfl, hh, hy, m1, fun z => kE _ (by unfold mvOf; rw [if_pos z]) ne_e2, fun z => ?_⟩
    refine ⟨_, rfl, _, rfl, h, b, d, rfl, hh, m2, fun z2 => kE _ (by unfold mvOf; rw [if_neg z, if_pos z2]) ne_e3, fun z2 => ?_⟩
    refine ⟨_, rfl, _, rfl, (by show 2 ≤ sizeLine; decide), fun t ht => ?_⟩
    have f1 := same_upd (o := HO.tup [.str ("box" : Str), .int (b : Nat)]) ht
    refine ⟨itP p, itP (.box, b), Dp.same f1 _ _ hy, .tup (SqT.of upd_same) (.cons (.str _) (.cons (.int _) .nil)), shaped_it _, shaped_it _, _, rfl, ?_⟩
    rw [eqv_it]
    have z3 : ¬ d.bs.length ≤ b := by omega
    by_cases c : p = (.box, b)
    · rw [decide_eq_true c]
      have l5 := sizeLine_eq
      have l1 : (Str.empty : Str).length = 0 := rfl
      have l2 : ("box " : Str).length = 4 := by decide +kernel
      have l4 : (" cannot be inside itself" : Str).length = 24 := by decide +kernel
      have l3 := digits_small (i := (b : Nat)) (by omega) (by omega)
      exact iteT ⟨_, rfl, by rw [str_app]; omega, _, rfl, .inr ⟨_, rfl, log2_small (by omega) (by omega), _, rfl, by rw [str_app, str_app]; omega, _, rfl, by rw [str_app, str_app, str_app]; omega, kE _ (by unfold mvOf; rw [if_neg z, if_neg z3, if_pos c]) ne_e4 _ f1⟩⟩
    · rw [decide_eq_false c]
      exact iteF (kQ (by unfold mvOf; rw [if_neg z, if_neg z3, if_neg c]) _ f1)
structure NMoveF (P : Program) (w : World) (K : PySem.W.Frag) (mg : Str → Option Value) (base : Heap) (C : Addr) (ce : Str → Addr) (g : Addr) (fd : FuncData) : Prop where
  G : FnOk P w K mg base (L2.CX P w) 4 g fd ["house", "item", "box"] (spNMove K C ce)
  m : mg "need_move" = some (.ref g)
  k : PySem.W.keepIn K (.ref g) = true
  b : Binds K fd ["house", "item", "box"] []
def spNDeed (K : PySem.W.Frag) (C : Addr) (ce : Str → Addr) : Sp := fun vs H Q E => ∃ (h : Addr) (y : V) (e : Dd) (d : Hs), vs = [.ref h, y] ∧ HouseAt K C H h d ∧ Dp K H y (ddD e) ∧ Sm e ∧
  (∀ z, unkOf d e = z → z ≠ "" → Rp (ce z) H E) ∧ (unkOf d e = "" → ∀ H', Same H H' → Q .non H')
theorem scNDeed : FnScope ["house", "deed", "hand", "item", "other", "box", "seal"] ["house", "deed"] (defScope sNDeed) := ⟨rfl, rfl, rfl, by decide +kernel, rfl, by decide +kernel, by decide +kernel⟩
theorem sm_hand {e : Dd} (h : Sm e) : e.hand ≤ 1000 := by cases e <;> exact h.1
theorem ok_ndeed {f gI gH gM gB gS C : Addr} {fd fdI fdH fdM fdB fdS : FuncData} {ce : Str → Addr} (F : Fun K "need_deed" "need_deed" sNDeed f fd) (NI : NItemF P w K mg base C (ce "UnknownItem") gI fdI) (NH : NHandF P w K mg base C (ce "UnknownHand") gH fdH) (NM : NMoveF P w K mg base C ce gM fdM)
    (NB : NBoxF P w K mg base C (ce "UnknownBox") gB fdB) (NS : NSealF P w K mg base C (ce "UnknownSeal") gS fdS) (X1 : PErr K mg "UnknownHand" (ce "UnknownHand")) :
    FnOk P w K mg base (L2.CX P w) 5 f fd ["house", "deed"] (spNDeed K C ce) := by
  refine F.okX scNDeed (fun vs H Q E h => ?_) (fun cdv A outer s H vs Q E hr h => ?_)
  · obtain ⟨h, y, e, d, rfl, _⟩ := h
    rfl
  · obtain ⟨h, y, e, d, rfl, hh, hy, hm, kE, kQ⟩ := h
    have hr2 : Room 2 _ := hr.mono (by decide)
    have hr3 : Room 3 _ := hr.mono (by decide)
    have hr4 : Room 4 _ := hr
    have tk : Takes (cxOf (L2.CX P w) P w K mg base ["house", "deed", "hand", "item", "other", "box", "seal"] "need_deed" (defScope sNDeed) f cdv A outer s H E) (fun cls d _ H => E cls d H) := takes_of rfl rfl rfl rfl
    refine ⟨_, (pss_cons (ps_expr (pe_call NH.G hr2 rfl NH.m NH.k NH.b .nil (passes_call tk (fun _ _ _ _ h => h)) (pa_cons (pv 0) (pa_cons (pe_ix ix_tup (pv 1) pe_int (fun _ _ => rfl)) pa_nil))))
      (pss_one (ps_match rfl scNDeed.nd (pv 1) (.cons (.name (i := 2) rfl rfl (.name (i := 3) rfl rfl (.name (i := 4) rfl rfl .nil))) (pss_cons (ps_expr (pe_call NI.G hr3 rfl NI.m NI.k NI.b .nil (passes_call tk (fun _ _ _ _ h => h)) (pa_cons (pv 0) (pa_cons (pv 3) pa_nil))))
        (pss_cons (ps_expr (pe_call NH.G hr2 rfl NH.m NH.k NH.b .nil (passes_call tk (fun _ _ _ _ h => h)) (pa_cons (pv 0) (pa_cons (pv 4) pa_nil))))
        (pss_one (ps_if (pt_cmpR op_eq (pv 2) (pv 4) (nomark _)) (pss_one (ps_raise rfl tk (SkE.pmk_own1 PySem.F.excBase_ValueError X1.ex X1.mg X1.kp (raises_own X1.sb X1.ty) rfl (pe_joined (.cons pe_str (.cons (pe_fmt (pv 2)) (.cons pe_str .nil))))))) pss_nil))))
      (.cons (.wild (.name (i := 3) rfl rfl (.name (i := 5) rfl rfl .nil))) (pss_one (ps_expr (pe_call NM.G hr4 rfl NM.m NM.k NM.b .nil (passes_call tk (fun _ _ _ _ h => h)) (pa_cons (pv 0) (pa_cons (pv 3) (pa_cons (pv 5) pa_nil))))))
      (.cons (.wild (.name (i := 3) rfl rfl (.name (i := 5) rfl rfl .nil))) (pss_one (ps_expr (pe_call NM.G hr4 rfl NM.m NM.k NM.b .nil (passes_call tk (fun _ _ _ _ h => h)) (pa_cons (pv 0) (pa_cons (pv 3) (pa_cons (pv 5) pa_nil))))))
      (.cons (.wild (.name (i := 5) rfl rfl (.name (i := 6) rfl rfl .nil))) (pss_cons (ps_expr (pe_call NB.G hr2 rfl NB.m NB.k NB.b .nil (passes_call tk (fun _ _ _ _ h => h)) (pa_cons (pv 0) (pa_cons (pv 5) pa_nil))))
        (pss_one (ps_expr (pe_call NS.G hr2 rfl NS.m NS.k NS.b .nil (passes_call tk (fun _ _ _ _ h => h)) (pa_cons (pv 0) (pa_cons (pv 6) pa_nil))))))
      (.cons (.wild (.name (i := 5) rfl rfl .nil)) (pss_one (ps_expr (pe_call NB.G hr2 rfl NB.m NB.k NB.b .nil (passes_call tk (fun _ _ _ _ h => h)) (pa_cons (pv 0) (pa_cons (pv 5) pa_nil)))))
      .nil)))))))), ?_⟩
    obtain ⟨yd, vs, rfl, sy, dvs⟩ := dd_at hy
    have sh := sm_hand hm
    have z1 := Same.refl H
    unfold unkOf at kE kQ
    refine ⟨_, rfl, _, rfl, yd, _, 1, _, rfl, rfl, sy, atI_nat (j := 1) rfl, h, (e.hand : Nat), d, rfl, hh, by omega, by omega, fun z => kE _ (if_pos z) ne_e1, fun z => ?_⟩
    have z' : ¬ d.hands ≤ ((e.hand : Nat) : Int) := by omega
    simp only [if_neg z'] at kE kQ
    refine ⟨_, rfl, yd, e.word, _, rfl, sy, ?_⟩
    cases e with
    | give hd p o =>
      obtain ⟨m1, m2, m3⟩ := hm
      cases dvs with
      | cons dp r =>
      cases r with
      | cons do_ r =>
      cases r
      cases do_
      dsimp only [Dd.word, Dd.hand] at *
      refine mGo_hit rfl rfl ?_
      refine ⟨_, rfl, _, rfl, h, _, p, d, rfl, hh, dp, m2, fun c => kE _ (if_pos c) ne_e2, fun c => ?_⟩
      have c' : ¬ ¬ inH d p := fun q => q c
      simp only [if_neg c'] at kE kQ
      refine ⟨_, rfl, _, rfl, h, (o : Nat), d, rfl, hh, by omega, by omega, fun c2 => kE _ (if_pos (.inl c2)) ne_e1, fun c2 => ?_⟩
      refine ⟨_, rfl, _, rfl, rfl, _, rfl, ?_⟩
      rw [decZ]
      by_cases c3 : ((hd : Nat) : Int) = ((o : Nat) : Int)
      · rw [decide_eq_true c3]
        have l5 := sizeLine_eq
        have l1 : (Str.empty : Str).length = 0 := rfl
        have l2 : ("hand " : Str).length = 5 := by decide +kernel
        have l4 : (" gives to itself" : Str).length = 16 := by decide +kernel
        have l3 := digits_small (i := (hd : Nat)) (by omega) (by omega)
        exact iteT ⟨_, rfl, by rw [str_app]; omega, _, rfl, .inr ⟨_, rfl, log2_small (by omega) (by omega), _, rfl, by rw [str_app, str_app]; omega, _, rfl, by rw [str_app, str_app, str_app]; omega, kE _ (if_pos (.inr (by omega))) ne_e1 _ z1⟩⟩
      · rw [decide_eq_false c3]
        exact iteF (kQ (if_neg fun q => q.elim (fun a => by omega) (fun a => c3 (by omega))) _ z1)
    | put hd p b =>
      obtain ⟨m1, m2, m3⟩ := hm
      cases dvs with
      | cons dp r =>
      cases r with
      | cons do_ r =>
      cases r
      cases do_
      dsimp only [Dd.word, Dd.hand] at *
      refine mGo_miss (by dsimp only; decide +kernel) (mGo_hit rfl rfl ?_)
      exact ⟨_, rfl, _, rfl, _, rfl, h, _, p, b, d, rfl, hh, dp, m2, m3, kE, kQ⟩
    | take hd p b =>
      obtain ⟨m1, m2, m3⟩ := hm
      cases dvs with
      | cons dp r =>
      cases r with
      | cons do_ r =>
      cases r
      cases do_
      dsimp only [Dd.word, Dd.hand] at *
      refine mGo_miss (by dsimp only; decide +kernel) (mGo_miss (by dsimp only; decide +kernel) (mGo_hit rfl rfl ?_))
      exact ⟨_, rfl, _, rfl, _, rfl, h, _, p, b, d, rfl, hh, dp, m2, m3, kE, kQ⟩
    | lock hd b s =>
      obtain ⟨m1, m2, m3⟩ := hm
      cases dvs with
      | cons dp r =>
      cases r with
      | cons do_ r =>
      cases r
      cases do_
      cases dp
      dsimp only [Dd.word, Dd.hand] at *
      refine mGo_miss (by dsimp only; decide +kernel) (mGo_miss (by dsimp only; decide +kernel) (mGo_miss (by dsimp only; decide +kernel) (mGo_hit rfl rfl ?_)))
      refine ⟨_, rfl, _, rfl, h, b, d, rfl, hh, m2, fun c => kE _ (if_pos c) ne_e3, fun c => ?_⟩
      have c' : ¬ d.bs.length ≤ b := by omega
      simp only [if_neg c'] at kE kQ
      exact ⟨_, rfl, _, rfl, h, s, d, rfl, hh, m3, fun c2 => kE _ (if_pos c2) ne_e5, fun c2 => kQ (if_neg (by omega)) _ z1⟩
    | brk hd b =>
      obtain ⟨m1, m2⟩ := hm
      cases dvs with
      | cons dp r =>
      cases r
      cases dp
      dsimp only [Dd.word, Dd.hand] at *
      refine mGo_miss (by dsimp only; decide +kernel) (mGo_miss (by dsimp only; decide +kernel) (mGo_miss (by dsimp only; decide +kernel) (mGo_miss (by dsimp only; decide +kernel) (mGo_hit rfl rfl ?_))))
      exact ⟨_, rfl, _, rfl, h, b, d, rfl, hh, m2, fun c => kE _ (if_pos c) ne_e3, fun c => kQ (if_neg (by omega)) _ z1⟩
end
end Kw

set_option Elab.async false
set_option linter.all false
set_option maxRecDepth 100000
set_option maxHeartbeats 4000000
namespace Kw
open PySem PySem.Spec PyProof.Rows L2
abbrev sWInit : Stmt := inClass (top 41) 0
abbrev sWCall : Stmt := inClass (top 41) 1
abbrev sWEq : Stmt := inClass (top 41) 2
abbrev sWCh : Stmt := inClass (top 41) 3
/-! ### _law_error, of any of the plain errors -/
def Known (K : PySem.W.Frag) (mg : Str → Option Value) (ce : Str → Addr) (CW : Addr) (z : Str) : Prop := ∃ j, ErrJ K mg (ce z) CW j ∧ j < 15 ∧ (j ≠ 2 ∧ j ≠ 3 ∧ j ≠ 4) ∧ nameJ j = z
def errOutG (K : PySem.W.Frag) (mg : Str → Option Value) (ce : Str → Addr) (CW : Addr) (Q : VK) : XK := fun cls d H' => ∃ z, cls = .ref (ce z) ∧ Known K mg ce CW z ∧ d = none ∧ ∀ H2, Same H' H2 → Q (.str z) H2
def TErrG (K : PySem.W.Frag) (mg : Str → Option Value) (ce : Str → Addr) (CW : Addr) : (XK → Hp → VK → Prop) → Hp → VK → Prop := fun tl H Q => tl (errOutG K mg ce CW Q) H (fun _ H' => Q (.str "") H')
theorem errG_gives {X : Cx} {g CW : Addr} {cdg : Value} {q : Str} {ce : Str → Addr} (hw : X.mg "WatchError" = some (.ref CW)) (B : Bt X.mg) : LamX.GivesTo X ["_law_work", "error", "_law_kinds", "_law_names", "_law_name"] "_law_error" (defScope sErr) g cdg (defBody sErr) "_law_work" q (TErrG X.K X.mg ce CW) := by
  intro f c' s H Q tl act hc h
  have hgl : Gl (cxOf C8.CX0 X.prog X.w X.K X.mg X.base ["_law_work", "error", "_law_kinds", "_law_names", "_law_name"] "_law_error" (defScope sErr) g cdg X.A X.stack s H C8.E0).nox "WatchError" := rfl
  refine ⟨_, pss_cons (ps_try_as (X := (cxOf C8.CX0 X.prog X.w X.K X.mg X.base ["_law_work", "error", "_law_kinds", "_law_names", "_law_name"] "_law_error" (defScope sErr) g cdg X.A X.stack s H C8.E0).nox) (c := .ref CW) (i := 1)
      (tb := fun W D σ H => ∃ Ech : XK, (∀ cls d σ' H', Ech cls d H' → W cls d σ' H') ∧ σ[0]? = some (some (.ref f)) ∧ H c' = some (LamX.CodeO c' q) ∧ tl Ech H (fun _ H' => D.nx σ H'))
      (ts := fun a cls d D σ H => ∃ z, cls = .ref (ce z) ∧ Known X.K X.mg ce CW z ∧ d = none ∧ ∃ (σ0 : L2.St), σ = σ0.set 1 (some (.ref a)) ∧ ∀ H2, Same H H2 → D.rt (.str z) H2)
      rfl rfl scErr.nd rfl rfl ⟨hgl, by decide, .inl hw⟩ LamX.takes0 (fun W pn xe tk _ => ?_) (fun a oe cls d pn hz hf => ?_)) (pss_one (ps_ret pe_str)), ?_⟩
  · refine ⟨fun pins s' σ H' D I h' => ?_⟩
    obtain ⟨Ech, hW, h1, h2, h3⟩ := h'
    exact (pss_one (ps_expr (act W pn xe Ech _ _ tk hW))).run pins s' σ H' D I ⟨h1, h2, h3⟩
  · refine ⟨fun pins s' σ H' D I h' => ?_⟩
    obtain ⟨z, rfl, ⟨j, T, hj, hn, ez⟩, rfl, σ0, hσ, k⟩ := h'
    have hl : σ0.length = 5 := by
      have q := I.len
      rw [hσ, List.length_set] at q
      exact q
    obtain ⟨v0, v1, v2, v3, v4, e5⟩ : ∃ v0 v1 v2 v3 v4, σ0 = [v0, v1, v2, v3, v4] := by
      match σ0, hl with
      | [v0, v1, v2, v3, v4], _ => exact ⟨v0, v1, v2, v3, v4, rfl⟩
    rw [e5] at hσ
    subst ez
    obtain ⟨t, ht, hq⟩ := err_suiteG (P := X.prog) (w := X.w) (K := X.K) (mg := X.mg) (base := X.base) (g := g) (cdg := cdg) (A := X.A) (outer := X.stack) (s0 := s) (H0 := H) T hj hn B hz hf D σ H' v0 v2 v3 v4 hσ (fun d e => by cases e) k
    exact ht.run pins s' σ H' D I hq
  · refine ⟨errOutG X.K X.mg ce CW Q, fun cls d σ' H' ⟨z, e1, kn, e2, k⟩ => ?_, rfl, hc, h⟩
    obtain ⟨j, T, hj, hn, ez⟩ := id kn
    exact ⟨true, by rw [e1]; exact T.exm, fun _ a ha => ⟨z, e1, kn, e2, σ', rfl, k⟩, fun z => by cases z⟩
/-! ### worlds -/
structure WorldC (K : PySem.W.Frag) (CW : Addr) : Prop where
  cl : Cls K CW
  nH : NoAttr K CW "house"
  nS : NoAttr K CW "state"
structure WorldAt (K : PySem.W.Frag) (CW : Addr) (H : Hp) (a h : Addr) (d : Hs) : Prop where
  ex : ∃ dx fs vst, H a = some (.ins CW dx fs) ∧ fs.lookup ("house" : Str) = some (.ref h) ∧ fs.lookup ("state" : Str) = some vst ∧ fs.lookup ("changed" : Str) = none ∧ fs.length ≤ 100 ∧ Dp K H vst (stD d)
theorem WorldAt.nl {K : PySem.W.Frag} {CW : Addr} {H H' : Hp} {a h : Addr} {d : Hs} (k : Nl H H') (x : WorldAt K CW H a h d) : WorldAt K CW H' a h d := by
  obtain ⟨dx, fs, vst, h0, h1, h2, h3, h4, h5⟩ := x.ex
  exact ⟨dx, fs, vst, k _ _ h0 (fun _ z => nomatch z) (fun _ z => nomatch z), h1, h2, h3, h4, Dp.nl k _ _ (noL_st _) h5⟩
theorem WorldAt.same {K : PySem.W.Frag} {CW : Addr} {H H' : Hp} {a h : Addr} {d : Hs} (k : Same H H') (x : WorldAt K CW H a h d) : WorldAt K CW H' a h d := x.nl (nl_same k)
section
variable {P : Program} {w : World} {K : PySem.W.Frag} {mg : Str → Option Value} {base : Heap}
def spWInit (K : PySem.W.Frag) (C CW : Addr) : Sp := fun vs H Q _ => ∃ (a dx h : Addr) (d : Hs), vs = [.ref a, .ref h] ∧ H a = some (.ins CW dx []) ∧ HouseAt K C H h d ∧ (∀ H', But a H H' → WorldAt K CW H' a h d → (∃ dy fs, H' a = some (.ins CW dy fs) ∧ fs.length ≤ 10) → Q .non H')
theorem scWInit : FnScope ["self", "house"] ["self", "house"] (defScope sWInit) := ⟨rfl, rfl, rfl, by decide +kernel, rfl, by decide +kernel, by decide +kernel⟩
theorem but_ins {a C dx : Addr} {fs : List (Str × V)} {H H' : Hp} (ha : H a = some (.ins C dx fs)) (b : But a H H') {v : V} {d : PyData} (hn : noL d = true) (h : Dp K H v d) : Dp K H' v d :=
  Dp.tp (fun c xs e => by
    rcases e with e | ⟨o, e⟩
    · exact .inl (b c _ e (ne_of e ha (by intro z; cases z)))
    · exact .inr ⟨o, b c _ e (ne_of e ha (by intro z; cases z))⟩) _ _ hn h
theorem ok_winit {f C CW : Addr} {fd : FuncData} (F : Fun K "__init__" "World.__init__" sWInit f fd) (T : HouseC K C) (W : WorldC K CW) : FnOk P w K mg base CX0 1 f fd ["self", "house"] (spWInit K C CW) := by
  refine F.ok scWInit (fun vs H Q E h => ?_) (fun cdv A outer s H vs Q E hr h => ?_)
  · obtain ⟨a, dx, h, d, rfl, _⟩ := h
    rfl
  · obtain ⟨a, dx, h, d, rfl, ha, hh, k⟩ := h
    refine ⟨_, pss_cons (ps_fld (pv 0) (pv 1) rfl) (pss_one (ps_fld (pv 0) (pe_fld (pv 1) rfl) rfl)), ?_⟩
    obtain ⟨dh, vb, vt, vs, vst, g0, g1, g2, g3, g4⟩ := hh.ex
    have nh : h ≠ a := fun z => by
      rw [z, ha] at g0
      have := Option.some.inj g0
      injection this with _ _ q
      have z2 := fs_hands d.hands vb vt vs vst
      rw [← q] at z2
      cases z2
    refine ⟨_, rfl, _, rfl, a, CW, dx, _, rfl, ha, W.cl, W.nH, (by show 0 < 1000; decide), ?_⟩
    refine ⟨_, rfl, h, C, dh, _, vst, rfl, by rw [upd_ne nh]; exact g0, T.cl, T.nSt, fs_state _ _ _ _ _, _, rfl, a, CW, dx, _, rfl, upd_same, W.cl, W.nS, ?_, ?_⟩
    · have a4 := length_putF "house" (.ref h) []
      have a5 : ([] : List (Str × V)).length = 0 := rfl
      omega
    rw [upd_upd]
    have bt : But a H (L2.upd H a (.ins CW dx (putF "state" vst (putF "house" (.ref h) [])))) := fun b o e ne => by rw [upd_ne ne]; exact e
    have a3 := length_putF "state" vst (putF "house" (.ref h) [])
    have a4 := length_putF "house" (.ref h) []
    have a5 : ([] : List (Str × V)).length = 0 := rfl
    refine k _ bt ⟨dx, _, vst, upd_same, ?_, ?_, ?_, by omega, but_ins ha bt (noL_st _) g4⟩ ⟨dx, _, upd_same, by omega⟩
    · rw [lookup_putF, if_neg (by decide +kernel), lookup_putF, if_pos rfl]
    · rw [lookup_putF, if_pos rfl]
    · rw [lookup_putF, if_neg (by decide +kernel), lookup_putF, if_neg (by decide +kernel)]
      rfl
/-! ### world.changed(state) -/
structure WMk (P : Program) (w : World) (K : PySem.W.Frag) (mg : Str → Option Value) (base : Heap) (C CW g : Addr) (fd : FuncData) : Prop where
  M : Mk K CW g
  G : FnOk P w K mg base CX0 1 g fd ["self", "house"] (spWInit K C CW)
  m : mg "World" = some (.ref CW)
  b : Binds K fd ["self", "house"] []
def spWCh (K : PySem.W.Frag) (C CW : Addr) : Sp := fun vs H Q _ => ∃ (a h : Addr) (v : V) (d0 d d' : Hs), vs = [.ref a, v] ∧ WorldAt K CW H a h d ∧ HouseAt K C H h d0 ∧ Dp K H v (stD d') ∧ ∀ b H', Same H H' → H b = none → WorldAt K CW H' b h d' → Q (.ref b) H'
theorem scWCh : FnScope ["self", "state", "world"] ["self", "state"] (defScope sWCh) := ⟨rfl, rfl, rfl, by decide +kernel, rfl, by decide +kernel, by decide +kernel⟩
theorem ok_wch {f g C CW : Addr} {fd fdg : FuncData} (F : Fun K "changed" "World.changed" sWCh f fd) (W : WorldC K CW) (M : WMk P w K mg base C CW g fdg) : FnOk P w K mg base CX0 3 f fd ["self", "state"] (spWCh K C CW) := by
  refine F.ok scWCh (fun vs H Q E h => ?_) (fun cdv A outer s H vs Q E hr h => ?_)
  · obtain ⟨a, h, v, d0, d, d', rfl, _⟩ := h
    rfl
  · obtain ⟨a, h, v, d0, d, d', rfl, hw, hh, hv, k⟩ := h
    have hr2 : Room 2 _ := hr
    refine ⟨_, pss_cons (ps_set (i := 2) scWCh.nd rfl (.inl rfl) (pe_make M.M M.G hr2 rfl M.m M.b .nil pass0 (pa_cons (pe_fld (pv 0) rfl) pa_nil))) (pss_cons (ps_fld (pv 2) (pv 1) rfl) (pss_one (ps_ret (pv 2)))), ?_⟩
    obtain ⟨dx, fs, vst, g0, g1, g2, g3, g4, g5⟩ := hw.ex
    refine ⟨_, rfl, a, CW, dx, _, .ref h, rfl, g0, W.cl, W.nH, g1, fun b dy hb hdy ne => ?_⟩
    have hb' : (L2.upd H dy (.own b)) b = none := by rw [upd_ne ne.symm]; exact hb
    have e1 : Same H (L2.upd (L2.upd H dy (.own b)) b (.ins CW dy [])) := Same.upd2 (same_upd hdy) hb'
    refine ⟨b, dy, h, d0, rfl, upd_same, hh.nl (nl_same e1), fun H2 bt hw2 hl2 => ⟨rfl, ?_⟩⟩
    obtain ⟨dz, fz, vz, z0, z1, z2, z3, z4, z5⟩ := hw2.ex
    obtain ⟨dy2, fy2, y0, y1⟩ := hl2
    rw [z0] at y0
    cases y0
    have a6 := length_putF "state" v fz
    have e2 : Same H H2 := fun c o hc => bt c o (e1 c o hc) (ne_of_none hc hb)
    refine ⟨_, rfl, _, rfl, b, CW, dz, _, rfl, z0, W.cl, W.nS, by omega, _, rfl, ?_⟩
    have e3 : Same H (L2.upd H2 b (.ins CW dz (putF "state" v fz))) := fun c o hc => by rw [upd_ne (ne_of_none hc hb)]; exact e2 c o hc
    refine k b _ e3 hb ⟨dz, _, v, upd_same, ?_, ?_, ?_, by omega, Dp.same e3 _ _ hv⟩
    · rw [lookup_putF, if_neg (by decide +kernel)]
      exact z1
    · rw [lookup_putF, if_pos rfl]
    · rw [lookup_putF, if_neg (by decide +kernel)]
      exact z3
end
end Kw

set_option Elab.async false
set_option linter.all false
set_option maxRecDepth 100000
set_option maxHeartbeats 4000000
namespace Kw
open PySem PySem.Spec PyProof.Rows L2
/-! ### houses and states of one shape -/
structure Shp (d0 d : Hs) : Prop where
  h : d0.hands = d.hands
  r : ∀ k, (rowOf d0 k).length = (rowOf d k).length
theorem Shp.refl (d : Hs) : Shp d d := ⟨rfl, fun _ => rfl⟩
theorem Shp.trans {a b c : Hs} (x : Shp a b) (y : Shp b c) : Shp a c := ⟨x.h.trans y.h, fun k => (x.r k).trans (y.r k)⟩
theorem Shp.set (d : Hs) (p : It) (q : Pl) : Shp d (setD d p q) := by
  obtain ⟨k, n⟩ := p
  refine ⟨?_, fun j => ?_⟩
  · cases k <;> rfl
  · cases k <;> cases j <;> first | rfl | (show List.length _ = (List.set _ _ _).length; rw [List.length_set])
theorem Shp.next (d : Hs) (e : Dd) : Shp d (nextOf d e) := by cases e <;> exact Shp.set _ _ _
theorem Shp.inH {d0 d : Hs} (s : Shp d0 d) (p : It) : Kw.inH d0 p ↔ Kw.inH d p := by
  unfold Kw.inH
  rw [s.r]
theorem unk_shp {d0 d : Hs} (s : Shp d0 d) (e : Dd) : unkOf d0 e = unkOf d e := by
  have hb : d0.bs.length = d.bs.length := s.r .box
  have hs : d0.ss.length = d.ss.length := s.r .sl
  unfold unkOf
  simp only [s.h, s.inH, hb, hs]
theorem Shp.ls {d0 d : Hs} (s : Shp d0 d) (l : Ls d0) : Ls d := by
  have hb : d0.bs.length = d.bs.length := s.r .box
  have ht : d0.ts.length = d.ts.length := s.r .thing
  have hs : d0.ss.length = d.ss.length := s.r .sl
  exact ⟨by rw [← hb]; exact l.b, by rw [← ht]; exact l.t, by rw [← hs]; exact l.s⟩
section
variable {P : Program} {w : World} {K : PySem.W.Frag} {mg : Str → Option Value} {base : Heap}
/-! ### world(deed) -/
structure NDeedF (P : Program) (w : World) (K : PySem.W.Frag) (mg : Str → Option Value) (base : Heap) (C : Addr) (ce : Str → Addr) (g : Addr) (fd : FuncData) : Prop where
  G : FnOk P w K mg base (L2.CX P w) 5 g fd ["house", "deed"] (spNDeed K C ce)
  m : mg "need_deed" = some (.ref g)
  k : PySem.W.keepIn K (.ref g) = true
  b : Binds K fd ["house", "deed"] []
structure BehF (P : Program) (w : World) (K : PySem.W.Frag) (mg : Str → Option Value) (base : Heap) (ce : Str → Addr) (g : Addr) (fd : FuncData) : Prop where
  G : FnOk P w K mg base (L2.CX P w) 4 g fd ["state", "deed"] (spBehind K ce)
  m : mg "state_behind" = some (.ref g)
  k : PySem.W.keepIn K (.ref g) = true
  b : Binds K fd ["state", "deed"] []
structure ChF (P : Program) (w : World) (K : PySem.W.Frag) (mg : Str → Option Value) (base : Heap) (C CW g : Addr) (fd : FuncData) : Prop where
  G : FnOk P w K mg base CX0 3 g fd ["self", "state"] (spWCh K C CW)
  m : Meth K CW "changed" g
  b : Binds K fd ["self", "state"] []
def spWCall (K : PySem.W.Frag) (C CW : Addr) (ce : Str → Addr) : Sp := fun vs H Q E => ∃ (a h : Addr) (y : V) (d0 d : Hs) (e : Dd), vs = [.ref a, y] ∧ WorldAt K CW H a h d ∧ HouseAt K C H h d0 ∧ Shp d0 d ∧ Ls d ∧ Dp K H y (ddD e) ∧ Sm e ∧
  (∀ z, unkOf d0 e = z → z ≠ "" → Rp (ce z) H E) ∧ (unkOf d0 e = "" → ∀ z, barOf d e = z → z ≠ "" → Rp (ce z) H E) ∧ (unkOf d0 e = "" → barOf d e = "" → ∀ b H', Same H H' → H b = none → WorldAt K CW H' b h (nextOf d e) → Q (.ref b) H')
theorem scWCall : FnScope ["self", "deed"] ["self", "deed"] (defScope sWCall) := ⟨rfl, rfl, rfl, by decide +kernel, rfl, by decide +kernel, by decide +kernel⟩
theorem ok_wcall {f g1 g2 g3 C CW : Addr} {fd fd1 fd2 fd3 : FuncData} {ce : Str → Addr} (F : Fun K "__call__" "World.__call__" sWCall f fd) (W : WorldC K CW) (ND : NDeedF P w K mg base C ce g1 fd1) (BH : BehF P w K mg base ce g2 fd2) (CH : ChF P w K mg base C CW g3 fd3) :
    FnOk P w K mg base (L2.CX P w) 6 f fd ["self", "deed"] (spWCall K C CW ce) := by
  refine F.okX scWCall (fun vs H Q E h => ?_) (fun cdv A outer s H vs Q E hr h => ?_)
  · obtain ⟨a, h, y, d0, d, e, rfl, _⟩ := h
    rfl
  · obtain ⟨a, h, y, d0, d, e, rfl, hw, hh, sh, hL, hy, hm, kU, kB, kQ⟩ := h
    have hr5 : Room 5 _ := hr
    have hr4 : Room 4 _ := hr.mono (by decide)
    have hr3 : Room 3 _ := hr.mono (by decide)
    have tk : Takes (cxOf (L2.CX P w) P w K mg base ["self", "deed"] "World.__call__" (defScope sWCall) f cdv A outer s H E) (fun cls d _ H => E cls d H) := takes_of rfl rfl rfl rfl
    refine ⟨_, pss_cons (ps_expr (pe_call ND.G hr5 rfl ND.m ND.k ND.b .nil (passes_call tk (fun _ _ _ _ h => h)) (pa_cons (pe_fld (pv 0) rfl) (pa_cons (pv 1) pa_nil))))
      (pss_one (ps_ret (pe_meth (pv 0) W.cl CH.m CH.G hr3 CH.b .nil pass0 (pa_cons (pe_call BH.G hr4 rfl BH.m BH.k BH.b .nil (passes_call tk (fun _ _ _ _ h => h)) (pa_cons (pe_fld (pv 0) rfl) (pa_cons (pv 1) pa_nil))) pa_nil)))), ?_⟩
    obtain ⟨dx, fs, vst, g0, g1', g2', g3', g4, g5⟩ := hw.ex
    refine ⟨_, rfl, a, CW, dx, _, .ref h, rfl, g0, W.cl, W.nH, g1', _, rfl, h, y, e, d0, rfl, hh, hy, hm, kU, fun hu H1 e1 => ?_⟩
    have kn : Kn d e := unk_kn (by rw [← unk_shp sh]; exact hu)
    refine ⟨_, rfl, a, dx, fs, rfl, e1 _ _ g0, g3', _, rfl, a, CW, dx, _, vst, rfl, e1 _ _ g0, W.cl, W.nS, g2', _, rfl, vst, y, d, e, rfl, Dp.same e1 _ _ g5, Dp.same e1 _ _ hy, kn, hm, hL, fun z z1 z2 => (kB hu z z1 z2).same e1, fun hb v H2 e2 dv => ?_⟩
    have e12 := e1.trans e2
    refine ⟨a, h, v, d0, d, nextOf d e, rfl, hw.same e12, hh.nl (nl_same e12), dv, fun b H3 e3 hb3 hw3 => kQ hu hb b H3 (e12.trans e3) ?_ hw3⟩
    cases q : H b with
    | none => rfl
    | some o =>
      have := e12 _ _ q
      rw [hb3] at this
      cases this
/-! ### world == other -/
theorem eqv_pls (l : List Pl) : ∀ m : List Pl, PyData.eqv (plsD l) (plsD m) = decide (l = m) := by
  have go : ∀ l m : List Pl, PyData.eqvAll (l.map plD) (m.map plD) = decide (l = m) := by
    intro l
    induction l with
    | nil => intro m; cases m with
      | nil => rfl
      | cons a r => simp [PyData.eqvAll]
    | cons a r ih => intro m; cases m with
      | nil => simp [PyData.eqvAll]
      | cons c s =>
        show (PyData.eqv (plD a) (plD c) && PyData.eqvAll (r.map plD) (s.map plD)) = _
        rw [eqv_pl, ih]
        by_cases h1 : a = c <;> by_cases h2 : r = s <;> simp [h1, h2]
  intro m
  exact go l m
def sameD (d e : Hs) : Bool := decide (d.bs = e.bs) && (decide (d.ts = e.ts) && decide (d.ss = e.ss))
theorem eqv_st2 (d e : Hs) : PyData.eqv (stD d) (stD e) = sameD d e := by
  simp [stD, PyData.eqv, PyData.eqvAll, eqv_pls, sameD]
theorem same_refl (d : Hs) : sameD d d = true := by simp [sameD]
structure HEqF (P : Program) (w : World) (K : PySem.W.Frag) (mg : Str → Option Value) (base : Heap) (C g : Addr) (fd : FuncData) : Prop where
  G : FnOk P w K mg base CX0 1 g fd ["self", "other"] (spEqH K C)
  f : PySem.W.findIn K (.ref C) "__eq__" = some (some (.ref g))
  i : PySem.W.isFn K (.ref g) = true
  b : Binds K fd ["self", "other"] []
def spWEq (K : PySem.W.Frag) (C CW : Addr) : Sp := fun vs H Q _ => ∃ (a b h : Addr) (d0 d e : Hs), vs = [.ref a, .ref b] ∧ WorldAt K CW H a h d ∧ WorldAt K CW H b h e ∧ HouseAt K C H h d0 ∧ Q (.bl (sameD d e)) H
theorem scWEq : FnScope ["self", "other"] ["self", "other"] (defScope sWEq) := ⟨rfl, rfl, rfl, by decide +kernel, rfl, by decide +kernel, by decide +kernel⟩
theorem ok_weq {f g C CW : Addr} {fd fdg : FuncData} (F : Fun K "__eq__" "World.__eq__" sWEq f fd) (B : Bt mg) (W : WorldC K CW) (I : HouseI K CW) (mC : mg "World" = some (.ref CW)) (HE : HEqF P w K mg base C g fdg) : FnOk P w K mg base CX0 2 f fd ["self", "other"] (spWEq K C CW) := by
  refine F.ok scWEq (fun vs H Q E h => ?_) (fun cdv A outer s H vs Q E hr h => ?_)
  · obtain ⟨a, b, h, d0, d, e, rfl, _⟩ := h
    rfl
  · obtain ⟨a, b, h, d0, d, e, rfl, hd, he, hh, k⟩ := h
    obtain ⟨dx, fs, vst, g0, g1, g2, g3, g4, g5⟩ := hd.ex
    obtain ⟨dy, gs, wst, k0, k1, k2, k3, k4, k5⟩ := he.ex
    obtain ⟨dh, vb, vt, vs, vh, h0, _⟩ := hh.ex
    have hr1 : Room 1 _ := hr
    have hu : (cxOf CX0 P w K mg base ["self", "other"] "World.__eq__" (defScope sWEq) f cdv A outer s H E).nox.A.units + 64 < cLine := by have := hr.un; show (A.deeper _).units + 64 < cLine; omega
    refine ⟨_, pss_one (ps_ret (pe_and (pe_callB call_isi (by rfl) B.isi (by decide +kernel) (pa_cons (pv 1) (pa_cons (pe_glob (v := .ref CW) rfl mC rfl) pa_nil)))
      (pe_and (pe_cmpR (op_eqOwn HE.G HE.f HE.i hr1 HE.b pass0) (pe_fld (pv 0) rfl) (pe_fld (pv 1) rfl) (nomark _)) (pe_one (pe_cmpR (op_eqD hu) (pe_fld (pv 0) rfl) (pe_fld (pv 1) rfl) (nomark _)))))), ?_⟩
    refine ⟨_, rfl, _, _, _, _, true, rfl, .own CW, .base (.ins k0 W.cl I.ha I.hn I.htk I.hm), I.kit, _, rfl, iteT ?_⟩
    refine ⟨_, rfl, a, CW, dx, _, _, rfl, g0, W.cl, W.nH, g1, _, rfl, b, CW, dy, _, _, rfl, k0, W.cl, W.nH, k1, h, h, dh, _, dh, _, rfl, rfl, h0, h0, h, h, d0, d0, rfl, hh, hh, _, rfl, _, rfl, ?_⟩
    rw [decide_eq_true rfl, Bool.true_and, eqv_st2, same_refl]
    refine iteT ⟨_, rfl, a, CW, dx, _, vst, rfl, g0, W.cl, W.nS, g2, _, rfl, b, CW, dy, _, wst, rfl, k0, W.cl, W.nS, k2, stD d, stD e, g5, k5, shaped_st d, shaped_st e, ?_⟩
    rw [eqv_st2]
    exact k
/-! ### a deed that is done changes the state -/
theorem set_ne {d : Hs} {p : It} {q q' : Pl} (h : whereD d p = some q) (n : q' ≠ q) : sameD (setD d p q') d = false := by
  have hl : ∀ {l : List Pl} {i : Nat}, l[i]? = some q → l.set i q' ≠ l := fun {l i} hi z => by
    have h1 : (l.set i q')[i]? = some q' := List.getElem?_set_self (List.getElem?_eq_some_iff.mp hi).1
    rw [z, hi] at h1
    exact n (Option.some.inj h1).symm
  obtain ⟨k, i⟩ := p
  unfold sameD
  cases k
  · rw [show decide ((setD d (.box, i) q').bs = d.bs) = false from decide_eq_false (hl h)]
    rfl
  · rw [show decide ((setD d (.thing, i) q').ts = d.ts) = false from decide_eq_false (hl h), Bool.false_and, Bool.and_false]
  · rw [show decide ((setD d (.sl, i) q').ss = d.ss) = false from decide_eq_false (hl h), Bool.and_false, Bool.and_false]
theorem next_ne {d0 d : Hs} {e : Dd} (hu : unkOf d0 e = "") (hb : barOf d e = "") : sameD (nextOf d e) d = false := by
  have hh : ¬ d0.hands ≤ ((e.hand : Nat) : Int) := fun c => by
    unfold unkOf at hu
    rw [if_pos c] at hu
    exact ne_e1 hu
  unfold unkOf at hu
  rw [if_neg hh] at hu
  cases e with
  | give h p o =>
    simp only [barOf] at hb
    by_cases c : whereD d p = some (.hand, (h : Int))
    · refine set_ne c fun z => ?_
      have z' : ((o : Nat) : Int) = ((h : Nat) : Int) := (Prod.mk.inj z).2
      dsimp only at hu
      by_cases c1 : ¬ inH d0 p
      · rw [if_pos c1] at hu; exact ne_e2 hu
      · rw [if_neg c1, if_pos (.inr (by omega))] at hu; exact ne_e1 hu
    · rw [if_neg c] at hb; exact absurd hb nb1
  | put h p b =>
    simp only [barOf] at hb
    by_cases c : whereD d (.box, b) = some (.hand, (h : Int))
    · rw [if_pos c] at hb
      by_cases c2 : whereD d p = some (.hand, (h : Int))
      · exact set_ne c2 fun z => by cases z
      · rw [if_neg c2] at hb; exact absurd hb nb1
    · rw [if_neg c] at hb; exact absurd hb nb1
  | take h p b =>
    simp only [barOf] at hb
    by_cases c : whereD d (.box, b) = some (.hand, (h : Int))
    · rw [if_pos c] at hb
      by_cases c2 : (Wd.box, (b : Int)) ∈ d.ss
      · rw [if_pos c2] at hb; exact absurd hb nb2
      · rw [if_neg c2] at hb
        by_cases c3 : whereD d p = some (.box, (b : Int))
        · exact set_ne c3 fun z => by cases z
        · rw [if_neg c3] at hb; exact absurd hb nb3
    · rw [if_neg c] at hb; exact absurd hb nb1
  | lock h b s =>
    simp only [barOf] at hb
    by_cases c : whereD d (.box, b) = some (.hand, (h : Int))
    · rw [if_pos c] at hb
      by_cases c2 : d.ss[s]? = some (.hand, (h : Int))
      · exact set_ne (p := (.sl, s)) c2 fun z => by cases z
      · rw [if_neg c2] at hb; exact absurd hb nb1
    · rw [if_neg c] at hb; exact absurd hb nb1
  | brk h b =>
    simp only [barOf] at hb
    by_cases c : whereD d (.box, b) = some (.hand, (h : Int))
    · rw [if_pos c] at hb
      by_cases c2 : (Wd.box, (b : Int)) ∈ d.ss
      · obtain ⟨⟨z, hz1, hz2⟩, _⟩ := on_some c2
        subst hz2
        exact set_ne (p := (.sl, onIx d b)) hz1 fun z => by cases z
      · rw [if_neg c2] at hb; exact absurd hb nb4
    · rw [if_neg c] at hb; exact absurd hb nb1
end
end Kw

set_option Elab.async false
set_option linter.all false
set_option maxRecDepth 100000
set_option maxHeartbeats 4000000
namespace Kw
open PySem PySem.Spec PyProof.Rows L2
/-! ### what a turn keeps -/
theorem Tabs.kb {T : List (Addr × Str)} {b l : Addr} {H H' : Hp} (k : Kb b l H H') (t : LamX.Tabs T H) : LamX.Tabs T H' := fun p hp => by
  obtain ⟨ps, h1, h2, h3⟩ := t p hp
  refine ⟨ps, k.tb _ _ h1, h2, fun pos cv hc => ?_⟩
  obtain ⟨c, e1, e2⟩ := h3 pos cv hc
  exact ⟨c, e1, k.kp.nl _ _ e2 (fun xs z => by unfold LamX.CodeO at z; cases z) (fun ps z => LamX.codeO_ne ps z)⟩
theorem ext_nl {H H' : Hp} (e : LamX.ExtN H H') : Nl H H' := fun a o h _ n => e a o h n
theorem ext_lst {H H' : Hp} (e : LamX.ExtN H H') {a : Addr} {xs : List V} (h : H a = some (.lst xs)) : H' a = some (.lst xs) := e _ _ h fun _ z => nomatch z
structure W2 (K : PySem.W.Frag) (C CW : Addr) (T : List (Addr × Str)) (b l h a : Addr) (v : V) (d0 d : Hs) (H : Hp) : Prop where
  bx : BoxAt H b l
  tb : LamX.Tabs T H
  hh : HouseAt K C H h d0
  wd : WorldAt K CW H a h d
  st : StF K H v d
section
variable {K : PySem.W.Frag} {C CW : Addr} {T : List (Addr × Str)} {b l h a : Addr} {v : V} {d0 d : Hs} {H H' : Hp}
theorem W2.kb (k : Kb b l H H') (hB : BoxAt H' b l) (x : W2 K C CW T b l h a v d0 d H) : W2 K C CW T b l h a v d0 d H' := ⟨hB, Tabs.kb k x.tb, x.hh.nl k.nl, x.wd.nl k.nl, x.st.nl k.nl⟩
theorem W2.same (e : Same H H') (x : W2 K C CW T b l h a v d0 d H) : W2 K C CW T b l h a v d0 d H' := x.kb (Kb.same e) (x.bx.same e)
theorem W2.ext (e : LamX.ExtN H H') (t : LamX.Tabs T H') (x : W2 K C CW T b l h a v d0 d H) : W2 K C CW T b l h a v d0 d H' := by
  obtain ⟨ns, m, h1, h2, h3⟩ := x.bx
  exact ⟨⟨ns, m, ext_lst e h1, ext_lst e h2, h3⟩, t, x.hh.nl (ext_nl e), x.wd.nl (ext_nl e), x.st.nl (ext_nl e)⟩
end
theorem okA_pls {ps : List Pl} (h : ps.length ≤ 1000) : okA (plsD ps) = true := by
  have go : ∀ l : List Pl, okAs (l.map plD) = true := by
    intro l
    induction l with
    | nil => rfl
    | cons a r ih =>
      show (okA (plD a) && okAs (r.map plD)) = true
      rw [ih]
      rfl
  simp [plsD, okA, go, h]
theorem okA_st {d : Hs} (h : Ls d) : okA (stD d) = true := by
  have h1 := okA_pls (ps := d.bs) (by have := h.b; omega)
  have h2 := okA_pls (ps := d.ts) (by have := h.t; omega)
  have h3 := okA_pls (ps := d.ss) (by have := h.s; omega)
  simp [stD, okA, okAs, h1, h2, h3]
theorem depth_st (d : Hs) : PyData.depth (stD d) < 5 := by
  have h1 := depth_plsD d.bs
  have h2 := depth_plsD d.ts
  have h3 := depth_plsD d.ss
  simp [stD, PyData.depth, PyData.depthAll]
  omega
theorem HsOk.ls {d : Hs} (h : HsOk d) : Ls d := ⟨by have := h.b1; omega, by have := h.t1; omega, by have := h.s1; omega⟩
theorem HsOk.pre {d : Hs} (h : HsOk d) : DrawnPre d := ⟨h.h0, by have := h.h1; omega, h.b0, by have := h.b1; omega, by have := h.t1; omega, by have := h.s1; omega⟩
def dueOf (d0 d : Hs) (e : Dd) : Str := if unkOf d0 e = "" then barOf d e else unkOf d0 e
theorem shaped_dds (es : List Dd) : SeqAt.shaped (.list (es.map ddD)) = true := by
  have go : ∀ l : List Dd, PyData.canLayAll0 (l.map ddD) = true := by
    intro l
    induction l with
    | nil => rfl
    | cons a r ih =>
      show (PyData.canLay0 (ddD a) && PyData.canLayAll0 (r.map ddD)) = true
      rw [ih, (sd_dd a).lay]
      rfl
  have hd : ∀ l : List Dd, PyData.depthAll (l.map ddD) ≤ 10 := by
    intro l
    induction l with
    | nil => exact Nat.zero_le _
    | cons a r ih =>
      have h1 := (sd_dd a).dep
      show max (PyData.depth (ddD a)) (PyData.depthAll (r.map ddD)) ≤ 10
      omega
  have h1 := hd es
  simp [SeqAt.shaped, PyData.canLay0, PyData.depth, go es]
  omega
section
variable {P : Program} {w : World} {K : PySem.W.Frag} {mg : Str → Option Value} {base : Heap}
/-! ### law -/
structure LawF (P : Program) (w : World) (K : PySem.W.Frag) (mg : Str → Option Value) (base : Heap) (C CW CE : Addr) (ce : Str → Addr) (fB fT fA fL fE fD fR fU fK fN fW fQ fI fC fG : Addr) (fdB fdT fdA fdL fdE fdD fdR fdU fdK fdN fdW fdQ fdI fdC fdG : FuncData) : Prop where
  Bg : FnOk P w K mg base CX0 1 fB fdB ["_law_script"] (spBegun K)
  mBg : mg "_law_begun" = some (.ref fB)
  kBg : PySem.W.keepIn K (.ref fB) = true
  bBg : Binds K fdB ["_law_script"] []
  T : FnOk P w K mg base CX0 1 fT fdT ["_law_box", "_law_many"] spTake
  mT : mg "_law_take" = some (.ref fT)
  kT : PySem.W.keepIn K (.ref fT) = true
  bT : Binds K fdT ["_law_box", "_law_many"] []
  A : ∀ n, FnOk P w K mg base CX0 n fA fdA ["_law_found", "_law_due"] (spAlike K n)
  mA : mg "_law_alike" = some (.ref fA)
  kA : PySem.W.keepIn K (.ref fA) = true
  bA : Binds K fdA ["_law_found", "_law_due"] []
  LH : FnOk P w K mg base CX0 7 fL fdL ["_law_box", "_law_sizes"] (spLHouse K C)
  mLH : mg "_law_house" = some (.ref fL)
  kLH : PySem.W.keepIn K (.ref fL) = true
  bLH : Binds K fdL ["_law_box", "_law_sizes"] []
  E : Fun K "_law_error" "_law_error" sErr fE fdE
  mE : mg "_law_error" = some (.ref fE)
  bE : Binds K fdE ["_law_work"] []
  wat : mg "WatchError" = some (.ref CE)
  kn : ∀ z : Str, (z = "UnknownHand" ∨ z = "UnknownItem" ∨ z = "UnknownBox" ∨ z = "UnknownSeal" ∨ z = "InsideItself" ∨ z = "NotHeld" ∨ z = "NotSealed" ∨ z = "IsSealed" ∨ z = "NotInside") → Known K mg ce CE z
  D : FnOk P w K mg base CX0 3 fD fdD ["_law_state", "_law_hands"] (spDeeds K)
  mD : mg "_law_deeds" = some (.ref fD)
  kD : PySem.W.keepIn K (.ref fD) = true
  bD : Binds K fdD ["_law_state", "_law_hands"] []
  R : FnOk P w K mg base CX0 2 fR fdR ["_law_box", "_law_house_here"] (spDrawn K C)
  mR : mg "_law_drawn" = some (.ref fR)
  kR : PySem.W.keepIn K (.ref fR) = true
  bR : Binds K fdR ["_law_box", "_law_house_here"] []
  U : FnOk P w K mg base CX0 3 fU fdU ["_law_house_here", "_law_deed"] (spUnk K C)
  mU : mg "_law_unknown" = some (.ref fU)
  kU : PySem.W.keepIn K (.ref fU) = true
  bU : Binds K fdU ["_law_house_here", "_law_deed"] []
  B : FnOk P w K mg base CX0 2 fK fdK ["_law_state", "_law_deed"] (spBar K)
  mB : mg "_law_bar" = some (.ref fK)
  kB : PySem.W.keepIn K (.ref fK) = true
  bB : Binds K fdK ["_law_state", "_law_deed"] []
  N : FnOk P w K mg base CX0 2 fN fdN ["_law_state", "_law_deed"] (spNext K)
  mN : mg "_law_next" = some (.ref fN)
  kN : PySem.W.keepIn K (.ref fN) = true
  bN : Binds K fdN ["_law_state", "_law_deed"] []
  hc : HouseC K C
  WC : WorldC K CW
  W : FnOk P w K mg base (L2.CX P w) 6 fW fdW ["self", "deed"] (spWCall K C CW ce)
  Ws : PySem.W.findIn K (.ref CW) "__call__" = some (some (.ref fW))
  Wi : PySem.W.isFn K (.ref fW) = true
  Wf : PySem.W.fnIn K fW = true
  bW : Binds K fdW ["self", "deed"] []
  Q : FnOk P w K mg base CX0 2 fQ fdQ ["self", "other"] (spWEq K C CW)
  Qs : PySem.W.findIn K (.ref CW) "__eq__" = some (some (.ref fQ))
  Qi : PySem.W.isFn K (.ref fQ) = true
  bQ : Binds K fdQ ["self", "other"] []
  WM : WMk P w K mg base C CW fI fdI
  CH : ChF P w K mg base C CW fC fdC
  HE : HEqF P w K mg base C fG fdG
theorem scLaw : FnScope ["_law_script", "_law_box", "_law_house_here", "_law_world", "_law_state", "_law_turn", "_law_deeds_here", "_law_deed", "_law_due", "_law_later"] ["_law_script"] (defScope sLaw) := ⟨rfl, rfl, rfl, by decide +kernel, rfl, by decide +kernel, by decide +kernel⟩
def lamQ : Str := (envOfC "law" (defScope sLaw) 0 0 .none).qual ++ "<lambda>"
def turnS : List Stmt := match defBody sLaw with
  | _ :: _ :: _ :: .For _ _ b _ _ .. :: _ => b
  | _ => []
def s3S : Stmt := match turnS with
  | _ :: _ :: s :: _ => s
  | _ => sLaw
def s5S : Stmt := match turnS with
  | _ :: _ :: _ :: _ :: s :: _ => s
  | _ => sLaw
theorem s3_ok {C CW CE fB fT fA fL fE fD fR fU fK fN fW fQ fI fC fG f cd tb : Addr} {ce : Str → Addr} {fdB fdT fdA fdL fdE fdD fdR fdU fdK fdN fdW fdQ fdI fdC fdG : FuncData} (L : LawF P w K mg base C CW CE ce fB fT fA fL fE fD fR fU fK fN fW fQ fI fC fG fdB fdT fdA fdL fdE fdD fdR fdU fdK fdN fdW fdQ fdI fdC fdG) (B : Bt mg)
    {A : Around} {outer : List Env} {s : Shared} {H0 : Hp} (hr : Room 8 (A.deeper (envOfC "law" (defScope sLaw) s.heap.objs.size f (.ref cd)))) :
    ∃ t, PS ((cxOf CX0 P w K mg base ["_law_script", "_law_box", "_law_house_here", "_law_world", "_law_state", "_law_turn", "_law_deeds_here", "_law_deed", "_law_due", "_law_later"] "law" (defScope sLaw) f (.ref cd) A outer s H0 E0).nox) s3S t ∧ ∀ (D : Ends) (H : Hp) (sc v v7 : V) (b l h a p : Addr) (d0 d : Hs) (e : Dd) (xs : List V) (T : List (Addr × Str)) (w5 w8 w9 : Option V), W2 K C CW T b l h a v d0 d H → H p = some (.lst xs) → p ≠ b → p ≠ l → xs.length ≤ 400 → (∀ x ∈ xs, DdV K d x H) → Dp K H v7 (ddD e) → Sm e →
      (∀ (H' : Hp) (u7 : V) (e' : Dd), W2 K C CW T b l h a v d0 d H' → Dp K H' u7 (ddD e') → Sm e' → D.nx [some sc, some (.ref b), some (.ref h), some (.ref a), some v, w5, some (.ref p), some u7, w8, w9] H') →
      t D [some sc, some (.ref b), some (.ref h), some (.ref a), some v, w5, some (.ref p), some v7, w8, w9] H := by
  have hr1 : Room 1 _ := hr.mono (by decide)
  have hu : ((cxOf CX0 P w K mg base ["_law_script", "_law_box", "_law_house_here", "_law_world", "_law_state", "_law_turn", "_law_deeds_here", "_law_deed", "_law_due", "_law_later"] "law" (defScope sLaw) f (.ref cd) A outer s H0 E0).nox).A.units + 64 < cLine := by have := hr.un; show (A.deeper _).units + 64 < cLine; omega
  refine ⟨_, (ps_if (PW.pt (pw_and (pt_cmpR (op_neD hu) (pv 6) (pe_lst pa_nil) (nomark _)) (pw_and1 (pt_cmpR op_eq (pe_call L.T hr1 rfl L.mT L.kT L.bT .nil pass0 (pa_cons (pv 1) (pa_cons pe_int pa_nil))) pe_int (nomark _))))) (pss_one (ps_set (i := 7) scLaw.nd rfl (.inr rfl) (pe_ix ix_list (pv 6) (pe_call L.T hr1 rfl L.mT L.kT L.bT .nil pass0 (pa_cons (pv 1) (pa_cons (pe_callB call_len_seq (by rfl) B.len PySem.boot_len (pa_cons (pv 6) pa_nil)) pa_nil))) (fun _ _ => rfl)))) pss_nil), ?_⟩
  intro D H sc v v7 b l h a p d0 d e xs T w5 w8 w9 hW hp nb nl lx rx hv sm kD
  obtain ⟨es, hes⟩ := dds_all rx
  refine ⟨_, rfl, (by show 0 ≤ sizeLine; decide), fun q hq => ?_⟩
  have f1 := same_upd (o := HO.lst []) hq
  refine ⟨.list (es.map ddD), .list [], .lst (SqL.of (f1 _ _ hp)) (Dp.sames f1 _ _ hes), .lst (SqL.of upd_same) .nil, shaped_dds es, rfl, _, rfl, ?_⟩
  have W1 := hW.same f1
  have hp1 := f1 _ _ hp
  have hv1 := Dp.same f1 _ _ hv
  generalize L2.upd H q (.lst []) = H1 at *
  cases es with
  | nil => exact iteFe (by rfl) (iteF (kD _ _ _ W1 hv1 sm))
  | cons e0 es =>
    refine iteTe (by rfl) ?_
    refine ⟨_, rfl, b, l, 2, rfl, by omega, by omega, W1.bx, fun r H2 r0 r1 hB2 k2 => ⟨rfl, _, rfl, ?_⟩⟩
    have W2' := W1.kb k2 hB2
    have hp2 := k2.kp.ls _ _ hp1 nb nl
    have hv2 := Dp.nl k2.nl _ _ (noL_dd _) hv1
    have rx2 : ∀ x ∈ xs, DdV K d x H2 := fun x hx => ((rx x hx).nl (nl_same f1)).nl k2.nl
    refine ite_b _ (fun _ => ?_) (fun _ => kD _ _ _ W2' hv2 sm)
    have l0 : 1 ≤ xs.length := by
      have := DpAll.len hes
      rw [this]
      simp
    refine ⟨_, rfl, _, rfl, _, rfl, p, xs, rfl, .inl (SqL.of hp2), b, l, (xs.length : Nat), rfl, by omega, by omega, W2'.bx, fun r3 H3 r30 r31 hB3 k3 => ?_⟩
    obtain ⟨n3, rfl⟩ := nat_of r30
    have hn3 : n3 < xs.length := by omega
    have hp3 := k3.kp.ls _ _ hp2 nb nl
    obtain ⟨e', h1, h2, h3⟩ := (rx2 _ (List.getElem_mem hn3)).nl k3.nl
    exact ⟨p, xs, (n3 : Nat), xs[n3], rfl, rfl, SqL.of hp3, atI_nat (List.getElem?_eq_getElem hn3), kD _ _ e' (W2'.kb k3 hB3) h1 h3⟩
theorem s5_ok {C CW CE fB fT fA fL fE fD fR fU fK fN fW fQ fI fC fG f cd tb : Addr} {ce : Str → Addr} {fdB fdT fdA fdL fdE fdD fdR fdU fdK fdN fdW fdQ fdI fdC fdG : FuncData} (L : LawF P w K mg base C CW CE ce fB fT fA fL fE fD fR fU fK fN fW fQ fI fC fG fdB fdT fdA fdL fdE fdD fdR fdU fdK fdN fdW fdQ fdI fdC fdG) (B : Bt mg)
    {A : Around} {outer : List Env} {s : Shared} {H0 : Hp} (hr : Room 8 (A.deeper (envOfC "law" (defScope sLaw) s.heap.objs.size f (.ref cd)))) :
    ∃ t, PS ((cxOf CX0 P w K mg base ["_law_script", "_law_box", "_law_house_here", "_law_world", "_law_state", "_law_turn", "_law_deeds_here", "_law_deed", "_law_due", "_law_later"] "law" (defScope sLaw) f (.ref cd) A outer s H0 E0).nox) s5S t ∧ ∀ (D : Ends) (H : Hp) (sc v v7 : V) (b l h a : Addr) (d0 d : Hs) (e : Dd) (T : List (Addr × Str)) (w5 w6 w9 : Option V), W2 K C CW T b l h a v d0 d H → Shp d0 d → Dp K H v7 (ddD e) →
      (∀ (H' : Hp), W2 K C CW T b l h a v d0 d H' → Dp K H' v7 (ddD e) → D.nx [some sc, some (.ref b), some (.ref h), some (.ref a), some v, w5, w6, some v7, some (.str (dueOf d0 d e)), w9] H') →
      t D [some sc, some (.ref b), some (.ref h), some (.ref a), some v, w5, w6, some v7, some (.str (unkOf d0 e)), w9] H := by
  have hr2 : Room 2 _ := hr.mono (by decide)
  refine ⟨_, (ps_set (i := 8) scLaw.nd rfl (.inl rfl) (pe_ifExp (pt_cmpR op_eq (pv 8) pe_str (nomark _)) (pe_call L.B hr2 rfl L.mB L.kB L.bB .nil pass0 (pa_cons (pv 4) (pa_cons (pv 7) pa_nil))) (pv 8))), ?_⟩
  intro D H sc v v7 b l h a d0 d e T w5 w6 w9 hW sh hv kD
  unfold dueOf at kD
  refine ⟨_, rfl, rfl, _, rfl, ?_⟩
  rw [decS]
  by_cases c : unkOf d0 e = ""
  · rw [decide_eq_true c]
    simp only [if_pos c] at kD
    exact iteT ⟨_, rfl, _, rfl, v, v7, d, e, rfl, hW.st.dp, hv, unk_kn (by rw [← unk_shp sh]; exact c), fun H' e' => kD H' (hW.same e') (Dp.same e' _ _ hv)⟩
  · rw [decide_eq_false c]
    simp only [if_neg c] at kD
    exact iteF ⟨_, rfl, kD H hW hv⟩
theorem unk_names {d0 : Hs} {e : Dd} {z : Str} (h : unkOf d0 e = z) (n : z ≠ "") : z = "UnknownHand" ∨ z = "UnknownItem" ∨ z = "UnknownBox" ∨ z = "UnknownSeal" ∨ z = "InsideItself" ∨ z = "NotHeld" ∨ z = "NotSealed" ∨ z = "IsSealed" ∨ z = "NotInside" := by
  subst h
  revert n
  unfold unkOf
  cases e <;> dsimp only <;> (repeat' split) <;> intro n <;> first | exact absurd rfl n | exact .inl rfl | exact .inr (.inl rfl) | exact .inr (.inr (.inl rfl)) | exact .inr (.inr (.inr (.inl rfl))) | exact .inr (.inr (.inr (.inr (.inl rfl))))
theorem bar_names {d : Hs} {e : Dd} {z : Str} (h : barOf d e = z) (n : z ≠ "") : z = "UnknownHand" ∨ z = "UnknownItem" ∨ z = "UnknownBox" ∨ z = "UnknownSeal" ∨ z = "InsideItself" ∨ z = "NotHeld" ∨ z = "NotSealed" ∨ z = "IsSealed" ∨ z = "NotInside" := by
  subst h
  revert n
  unfold barOf
  cases e <;> dsimp only <;> (repeat' split) <;> intro n <;> first | exact absurd rfl n | exact .inr (.inr (.inr (.inr (.inr (.inl rfl))))) | exact .inr (.inr (.inr (.inr (.inr (.inr (.inl rfl)))))) | exact .inr (.inr (.inr (.inr (.inr (.inr (.inr (.inl rfl))))))) | exact .inr (.inr (.inr (.inr (.inr (.inr (.inr (.inr rfl)))))))
/-- the reading of _law_error(lambda: _law_world(_law_deed)) -/
theorem lam_q {C CW CE fB fT fA fL fE fD fR fU fK fN fW fQ fI fC fG : Addr} {ce : Str → Addr} {fdB fdT fdA fdL fdE fdD fdR fdU fdK fdN fdW fdQ fdI fdC fdG : FuncData} (L : LawF P w K mg base C CW CE ce fB fT fA fL fE fD fR fU fK fN fW fQ fI fC fG fdB fdT fdA fdL fdE fdD fdR fdU fdK fdN fdW fdQ fdI fdC fdG)
    {T : List (Addr × Str)} {σ : L2.St} {H : Hp} {R : VK} {b l h a : Addr} {v v7 : V} {d0 d : Hs} {e : Dd} (hW : W2 K C CW T b l h a v d0 d H) (sh : Shp d0 d) (hL : Ls d) (h3 : σ[3]? = some (some (.ref a))) (h7 : σ[7]? = some (some v7)) (hv : Dp K H v7 (ddD e)) (sm : Sm e)
    (k : ∀ H', W2 K C CW T b l h a v d0 d H' → Dp K H' v7 (ddD e) → R (.str (dueOf d0 d e)) H') : LamX.tLam T (TErrG K mg ce CE) (fun E => tObj CW (spWCall K C CW ce) E (tVar 3) (tCons (tVar 7) tNil)) σ H R := by
  refine ⟨hW.tb, fun H1 x1 t1 => ?_⟩
  have W1 := hW.ext x1 t1
  have hv1 := Dp.nl (ext_nl x1) _ _ (noL_dd _) hv
  obtain ⟨dx, fs, vst, g0, _⟩ := W1.wd.ex
  refine ⟨_, h3, a, rfl, _, h7, ⟨dx, fs, g0⟩, a, h, v7, d0, d, e, rfl, W1.wd, W1.hh, sh, hL, hv1, sm, fun z z1 z2 => fun H2 e2 => ?_, fun zu z z1 z2 => fun H2 e2 => ?_, fun zu zb b' H2 e2 _ _ => ?_⟩
  · refine ⟨z, rfl, L.kn z (unk_names z1 z2), rfl, fun H3 e3 => ?_⟩
    have := k H3 (W1.same (e2.trans e3)) (Dp.same (e2.trans e3) _ _ hv1)
    unfold dueOf at this
    rw [if_neg (by rw [z1]; exact z2), z1] at this
    exact this
  · refine ⟨z, rfl, L.kn z (bar_names z1 z2), rfl, fun H3 e3 => ?_⟩
    have := k H3 (W1.same (e2.trans e3)) (Dp.same (e2.trans e3) _ _ hv1)
    unfold dueOf at this
    rw [if_pos zu, z1] at this
    exact this
  · have := k H2 (W1.same e2) (Dp.same e2 _ _ hv1)
    unfold dueOf at this
    rw [if_pos zu, zb] at this
    exact this
theorem turn_ok {C CW CE fB fT fA fL fE fD fR fU fK fN fW fQ fI fC fG f cd tb : Addr} {ce : Str → Addr} {fdB fdT fdA fdL fdE fdD fdR fdU fdK fdN fdW fdQ fdI fdC fdG : FuncData} (L : LawF P w K mg base C CW CE ce fB fT fA fL fE fD fR fU fK fN fW fQ fI fC fG fdB fdT fdA fdL fdE fdD fdR fdU fdK fdN fdW fdQ fdI fdC fdG) (B : Bt mg) (TB : LamX.TabB base mg cd tb)
    {A : Around} {outer : List Env} {s : Shared} {H0 : Hp} (hr : Room 8 (A.deeper (envOfC "law" (defScope sLaw) s.heap.objs.size f (.ref cd)))) :
    ∃ t, PSs ((cxOf CX0 P w K mg base ["_law_script", "_law_box", "_law_house_here", "_law_world", "_law_state", "_law_turn", "_law_deeds_here", "_law_deed", "_law_due", "_law_later"] "law" (defScope sLaw) f (.ref cd) A outer s H0 E0).nox) turnS t ∧ ∀ (D : Ends) (H : Hp) (sc v : V) (b l h a : Addr) (d0 d : Hs) (w5 w6 w7 w8 w9 : Option V), W2 K C CW [(tb, lamQ)] b l h a v d0 d H → HsOk d0 → Shp d0 d →
      (∀ (H' : Hp) (a' : Addr) (v' : V) (d' : Hs) (u6 u7 u8 u9 : Option V), W2 K C CW [(tb, lamQ)] b l h a' v' d0 d' H' → Shp d0 d' → D.nx [some sc, some (.ref b), some (.ref h), some (.ref a'), some v', w5, u6, u7, u8, u9] H') →
      t D [some sc, some (.ref b), some (.ref h), some (.ref a), some v, w5, w6, w7, w8, w9] H := by
  have hr1 : Room 1 _ := hr.mono (by decide)
  have hr2 : Room 2 _ := hr.mono (by decide)
  have hr3 : Room 3 _ := hr.mono (by decide)
  have hr5 : Room 5 _ := hr.mono (by decide)
  have hr6 : Room 6 _ := hr.mono (by decide)
  have hr8 : Room 8 _ := hr
  have hu : ((cxOf CX0 P w K mg base ["_law_script", "_law_box", "_law_house_here", "_law_world", "_law_state", "_law_turn", "_law_deeds_here", "_law_deed", "_law_due", "_law_later"] "law" (defScope sLaw) f (.ref cd) A outer s H0 E0).nox).A.units + 64 < cLine := by have := hr.un; show (A.deeper _).units + 64 < cLine; omega
  have hcode : ((cxOf CX0 P w K mg base ["_law_script", "_law_box", "_law_house_here", "_law_world", "_law_state", "_law_turn", "_law_deeds_here", "_law_deed", "_law_due", "_law_later"] "law" (defScope sLaw) f (.ref cd) A outer s H0 E0).nox).env.code = .ref cd := rfl
  obtain ⟨oc, od, kV, doc, pm, an, cdv, ct, osl, rfl, lkE, cdE⟩ := L.E.ex
  obtain ⟨q, eq0, eq⟩ : ∃ q, q = lamQ ∧ q = ((cxOf CX0 P w K mg base ["_law_script", "_law_box", "_law_house_here", "_law_world", "_law_state", "_law_turn", "_law_deeds_here", "_law_deed", "_law_due", "_law_later"] "law" (defScope sLaw) f (.ref cd) A outer s H0 E0).nox).env.qual ++ "<lambda>" := ⟨_, rfl, rfl⟩
  have hmT : (tb, ((cxOf CX0 P w K mg base ["_law_script", "_law_box", "_law_house_here", "_law_world", "_law_state", "_law_turn", "_law_deeds_here", "_law_deed", "_law_due", "_law_later"] "law" (defScope sLaw) f (.ref cd) A outer s H0 E0).nox).env.qual ++ "<lambda>") ∈ [(tb, q)] := by rw [eq]; exact List.mem_cons_self
  have huT : ∀ p ∈ [(tb, q)], p.1 = tb → p.2 = ((cxOf CX0 P w K mg base ["_law_script", "_law_box", "_law_house_here", "_law_world", "_law_state", "_law_turn", "_law_deeds_here", "_law_deed", "_law_due", "_law_later"] "law" (defScope sLaw) f (.ref cd) A outer s H0 E0).nox).env.qual ++ "<lambda>" := fun p hp _ => by rw [List.mem_singleton.mp hp, eq]
  obtain ⟨t3, ht3, q3⟩ := s3_ok (outer := outer) (H0 := H0) (cd := cd) (tb := tb) L B hr
  obtain ⟨t5, ht5, q5⟩ := s5_ok (outer := outer) (H0 := H0) (cd := cd) (tb := tb) L B hr
  refine ⟨_, (pss_cons (ps_set (i := 6) scLaw.nd rfl (.inl rfl) (pe_call L.D hr3 rfl L.mD L.kD L.bD .nil pass0 (pa_cons (pv 4) (pa_cons (pe_listRg rfl (by rfl) B.lst (prg_1 (by rfl) B.rng (pe_fld (pv 2) rfl))) pa_nil))))
      (pss_cons (ps_set (i := 7) scLaw.nd rfl (.inr rfl) (pe_call L.R hr2 rfl L.mR L.kR L.bR .nil pass0 (pa_cons (pv 1) (pa_cons (pv 2) pa_nil))))
      (pss_cons ht3
      (pss_cons (ps_set (i := 8) scLaw.nd rfl (.inl rfl) (pe_call L.U hr3 rfl L.mU L.kU L.bU .nil pass0 (pa_cons (pv 2) (pa_cons (pv 7) pa_nil))))
      (pss_cons ht5
      (pss_cons (ps_if (PW.pt (pw_or (pt_cmpR op_ne (LamX.pe_lamcall (T := [(tb, q)]) (TT := TErrG K mg ce CE) (t := fun E => tObj CW (spWCall K C CW ce) E (tVar 3) (tCons (tVar 7) tNil)) (k := 6) (Ng := ["_law_work", "error", "_law_kinds", "_law_names", "_law_name"]) (a := "_law_work") rfl L.mE L.E.kp lkE cdE L.bE scErr rfl (.inl rfl) (errG_gives L.wat B) TB hcode hmT huT hr8 (LamX.lamS_by (sc := defScope sLaw) (by decide +kernel)) rfl (fun _ _ _ _ _ => rfl)
        (fun A outer s H E f c' hr => pe_callObj L.W L.Ws L.Wi L.Wf hr L.bW (passes_call (takes_of rfl rfl rfl rfl) (fun _ _ _ _ h => h)) (pv 3) (pa_cons (pv 7) pa_nil))) (pv 8) (nomark _)) (pw_or1 (pt_not (pt_val (pe_call (L.A 5) hr5 rfl L.mA L.kA L.bA .nil pass0 (pa_cons (pe_fld (pv 3) rfl) (pa_cons (pv 4) pa_nil)))))))) (pss_one (ps_ret pe_bl)) pss_nil)
      (pss_one (ps_if (pt_cmpR op_eq (pv 8) pe_str (nomark _)) (pss_cons (ps_set (i := 9) scLaw.nd rfl (.inl rfl) (pe_callObj L.W L.Ws L.Wi L.Wf hr6 L.bW passL (pv 3) (pa_cons (pv 7) pa_nil)))
      (pss_cons (ps_set (i := 4) scLaw.nd rfl (.inl rfl) (pe_call L.N hr2 rfl L.mN L.kN L.bN .nil pass0 (pa_cons (pv 4) (pa_cons (pv 7) pa_nil))))
      (pss_cons (ps_if (PW.pt (pw_or (pt_not (pt_val (pe_call (L.A 5) hr5 rfl L.mA L.kA L.bA .nil pass0 (pa_cons (pe_fld (pv 9) rfl) (pa_cons (pv 4) pa_nil))))) (pw_or (pt_cmpR (op_eqOwn L.Q L.Qs L.Qi hr2 L.bQ pass0) (pv 9) (pv 3) (nomark _)) (pw_or1 (pt_not (pt_cmpR (op_eqOwn L.Q L.Qs L.Qi hr2 L.bQ pass0) (pe_callObj L.W L.Ws L.Wi L.Wf hr6 L.bW passL (pv 3) (pa_cons (pv 7) pa_nil)) (pv 9) (nomark _))))))) (pss_one (ps_ret pe_bl)) pss_nil)
      (pss_cons (ps_if (PW.pt (pw_or (pt_not (pt_cmpR (op_eqOwn L.Q L.Qs L.Qi hr2 L.bQ pass0) (pv 9) (pe_meth (pv 3) L.WC.cl L.CH.m L.CH.G hr3 L.CH.b .nil pass0 (pa_cons (pv 4) pa_nil)) (nomark _))) (pw_or1 (pt_not (pt_cmpR (op_eqOwn L.HE.G L.HE.f L.HE.i hr1 L.HE.b pass0) (pe_fld (pv 9) rfl) (pv 2) (nomark _)))))) (pss_one (ps_ret pe_bl)) pss_nil)
      (pss_one (ps_set (i := 3) scLaw.nd rfl (.inr rfl) (pv 9))))))) pss_nil)))))))), ?_⟩
  rw [← eq0]
  clear eq
  intro D H sc v b l h a d0 d w5 w6 w7 w8 w9 hW hok sh kD
  have hL0 := hok.ls
  have hL := sh.ls hL0
  -- the deeds that can be done
  obtain ⟨dx, vb, vt, vs, vst, g0, _⟩ := hW.hh.ex
  obtain ⟨n, hn⟩ := nat_of (show 0 ≤ d0.hands by have := hok.h0; omega)
  have hn4 : n ≤ 4 := by have := hok.h1; omega
  have rb : d0.bs.length = d.bs.length := sh.r .box
  have rt : d0.ts.length = d.ts.length := sh.r .thing
  have rs : d0.ss.length = d.ss.length := sh.r .sl
  refine ⟨_, rfl, _, rfl, h, C, dx, _, _, rfl, g0, L.hc.cl, L.hc.nH, fs_hands _ _ _ _ _, d0.hands, rfl, RgOk.of_le (by omega) (by omega) (by omega) (by omega), fun qh hqh => ?_⟩
  have f1 := same_upd (o := HO.lst (rgV 0 d0.hands)) hqh
  refine ⟨v, qh, d, n, rfl, Dp.same f1 _ _ hW.st.dp, by rw [← hn]; exact upd_same, hn4, by have := hok.b1; omega, by have := hok.t1; omega, by have := hok.s1; omega, fun p xs H2 e2 hpn hp lx rx => ?_⟩
  have e12 := f1.trans e2
  have X2 := hW.same e12
  have npb := (BoxAt.neL (hW.bx.same f1) hpn)
  -- the deed that is drawn
  refine ⟨_, rfl, _, rfl, b, l, h, d0, rfl, X2.bx, X2.hh, hok.pre, fun v7 e H3 hB3 k3 hv3 sm3 => ?_⟩
  have X3 := X2.kb k3 hB3
  refine q3 _ H3 sc v v7 b l h a p d0 d e xs _ _ _ _ X3 (k3.kp.ls _ _ hp npb.1 npb.2) npb.1 npb.2 lx (fun x hx => (rx x hx).nl k3.nl) hv3 sm3 fun H4 v7 e X4 hv4 sm => ?_
  -- what is due
  refine ⟨_, rfl, _, rfl, h, v7, d0, e, rfl, X4.hh, hv4, fun H5 e5 => ?_⟩
  refine q5 _ H5 sc v v7 b l h a d0 d e _ _ _ _ (X4.same e5) sh (Dp.same e5 _ _ hv4) fun H6 X6 hv6 => ?_
  -- the errors
  refine lam_q L X6 sh hL rfl rfl hv6 sm fun H7 X7 hv7 => ?_
  obtain ⟨dy, fs, vst7, a0, a1, a2, a3, a4, a5⟩ := id X7.wd.ex
  refine ⟨_, rfl, rfl, _, rfl, ?_⟩
  rw [decS, decide_eq_true rfl]
  refine iteF ⟨_, rfl, a, CW, dy, _, vst7, rfl, a0, L.WC.cl, L.WC.nS, a2, _, rfl, vst7, v, stD d, rfl, a5, X7.st.dp, okA_st hL, depth_st d, _, rfl, iteF ?_⟩
  -- the deed is done
  refine ⟨_, rfl, rfl, _, rfl, ?_⟩
  rw [decS]
  by_cases cd : ¬ dueOf d0 d e = ""
  · rw [decide_eq_false cd]
    exact iteF (kD H7 a v d _ _ _ _ X7 sh)
  have cd := Classical.not_not.mp cd
  rw [decide_eq_true cd]
  have zu : unkOf d0 e = "" := by
    unfold dueOf at cd
    by_cases z : unkOf d0 e = ""
    · exact z
    · rw [if_neg z] at cd
      exact cd
  have zb : barOf d e = "" := by
    unfold dueOf at cd
    rw [if_pos zu] at cd
    exact cd
  have kn : Kn d e := unk_kn (by rw [← unk_shp sh]; exact zu)
  have sh' : Shp d0 (nextOf d e) := sh.trans (Shp.next d e)
  have hL' : Ls (nextOf d e) := sh'.ls hL0
  refine iteT ?_
  refine ⟨_, rfl, a, rfl, _, rfl, ⟨dy, fs, a0⟩, a, h, v7, d0, d, e, rfl, X7.wd, X7.hh, sh, hL, hv7, sm, fun z z1 z2 => absurd (z1.symm.trans zu) z2, fun _ z z1 z2 => absurd (z1.symm.trans zb) z2, fun _ _ b9 H8 e8 hb8 w8' => ?_⟩
  refine ⟨_, rfl, _, rfl, v, v7, d, e, rfl, X7.st.same e8, Dp.same e8 _ _ hv7, kn, zb, fun v' H9 e9 st9 => ?_⟩
  have e79 := e8.trans e9
  have X9 := X7.same e79
  have w9' := w8'.same e9
  have hv9 := Dp.same e79 _ _ hv7
  obtain ⟨dz, gs, vst9, c0, c1, c2, c3, c4, c5⟩ := id w9'.ex
  have a9 := e79 _ _ a0
  refine ⟨_, rfl, b9, CW, dz, _, vst9, rfl, c0, L.WC.cl, L.WC.nS, c2, _, rfl, vst9, v', stD (nextOf d e), rfl, c5, st9.dp, okA_st hL', depth_st _, _, rfl, iteF ?_⟩
  refine ⟨_, rfl, _, rfl, b9, a, dz, _, dy, _, rfl, rfl, c0, a9, b9, a, h, d0, nextOf d e, d, rfl, w9', X9.wd, X9.hh, _, rfl, _, rfl, ?_⟩
  rw [next_ne zu zb]
  refine iteF ?_
  refine ⟨_, rfl, a, rfl, _, rfl, ⟨dy, fs, a9⟩, a, h, v7, d0, d, e, rfl, X9.wd, X9.hh, sh, hL, hv9, sm, fun z z1 z2 => absurd (z1.symm.trans zu) z2, fun _ z z1 z2 => absurd (z1.symm.trans zb) z2, fun _ _ b10 H10 e10 hb10 w10 => ?_⟩
  obtain ⟨dq, qs, vst10, q0, _⟩ := id w10.ex
  refine ⟨_, rfl, b10, b9, dq, _, dz, _, rfl, rfl, q0, e10 _ _ c0, b10, b9, h, d0, nextOf d e, nextOf d e, rfl, w10, w9'.same e10, X9.hh.nl (nl_same e10), _, rfl, _, rfl, ?_⟩
  rw [same_refl]
  refine iteF ?_
  have X10 := X9.same e10
  have w10' := w9'.same e10
  have c10 := e10 _ _ c0
  refine ⟨_, rfl, _, rfl, a, dy, fs, rfl, e10 _ _ a9, a3, _, rfl, a, h, v', d0, d, nextOf d e, rfl, X10.wd, X10.hh, (st9.same e10).dp, fun b11 H11 e11 hb11 w11 => ?_⟩
  obtain ⟨dr, rs', vst11, r0, _⟩ := id w11.ex
  refine ⟨b9, b11, dz, _, dr, _, rfl, rfl, e11 _ _ c10, r0, b9, b11, h, d0, nextOf d e, nextOf d e, rfl, w10'.same e11, w11, X10.hh.nl (nl_same e11), _, rfl, _, rfl, ?_⟩
  rw [same_refl]
  refine iteF ?_
  have X11 := X10.same e11
  obtain ⟨dh, hb', ht', hs', hst', hh0, _⟩ := id X11.hh.ex
  refine ⟨_, rfl, b9, CW, dz, _, .ref h, rfl, e11 _ _ c10, L.WC.cl, L.WC.nH, c1, _, rfl, h, h, dh, _, dh, _, rfl, rfl, hh0, hh0, h, h, d0, d0, rfl, X11.hh, X11.hh, _, rfl, _, rfl, ?_⟩
  rw [decide_eq_true rfl, Bool.true_and, eqv_st2, same_refl]
  refine iteF ⟨_, rfl, ?_⟩
  exact kD H11 b9 v' (nextOf d e) _ _ _ _ ⟨X11.bx, X11.tb, X11.hh, w10'.same e11, (st9.same e10).same e11⟩ sh'
end
end Kw

set_option Elab.async false
set_option linter.all false
set_option maxRecDepth 100000
set_option maxHeartbeats 4000000
namespace Kw
open PySem PySem.Spec PyProof.Rows L2
section
variable {P : Program} {w : World} {K : PySem.W.Frag} {mg : Str → Option Value} {base : Heap}
def spLaw (K : PySem.W.Frag) (tb : Addr) : Sp := fun vs H Q _ => ∃ (a : Addr) (ns : List Int), vs = [.ref a] ∧ H tb = some (.tbl #[]) ∧ SqL K H a (ns.map V.int) ∧ ns.length ≤ 63 ∧ ∀ H', Q (.bl true) H'
theorem ok_law {C CW CE fB fT fA fL fE fD fR fU fK fN fW fQ fI fC fG f cd tb : Addr} {ce : Str → Addr} {fdB fdT fdA fdL fdE fdD fdR fdU fdK fdN fdW fdQ fdI fdC fdG : FuncData} {oc kV doc pm ct : Value} {od an : Option Addr} {osl : Array (Option Value)}
    (L : LawF P w K mg base C CW CE ce fB fT fA fL fE fD fR fU fK fN fW fQ fI fC fG fdB fdT fdA fdL fdE fdD fdR fdU fdK fdN fdW fdQ fdI fdC fdG) (B : Bt mg) (TB : LamX.TabB base mg cd tb)
    (lk : K.lookup f = some ⟨oc, od, .func (PySem.W.fnOf "law" "law" (defArgs sLaw) (defBody sLaw) (defScope sLaw) .none kV doc pm an (.ref cd) ct), osl⟩) (hcd : PySem.W.codeIn K (.ref cd) "law" = true) :
    FnOk P w K mg base CX0 9 f (PySem.W.fnOf "law" "law" (defArgs sLaw) (defBody sLaw) (defScope sLaw) .none kV doc pm an (.ref cd) ct) ["_law_script"] (spLaw K tb) := by
  refine fn_of lk hcd scLaw (fun vs H Q E h => ?_) (fun A outer s H vs Q E hr h => ?_)
  · obtain ⟨a, ns, rfl, _⟩ := h
    rfl
  · obtain ⟨a, ns, rfl, hTb, hS, hl, k⟩ := h
    have hr1 : Room 1 _ := hr.mono (by decide)
    have hr2 : Room 2 _ := hr.mono (by decide)
    have hr7 : Room 7 _ := hr.mono (by decide)
    obtain ⟨t, ht, hq⟩ := turn_ok (outer := outer) (H0 := H) L B TB hr
    refine ⟨_, PSs.nox (pss_cons (ps_set (i := 1) scLaw.nd rfl (.inl rfl) (pe_call L.Bg hr1 rfl L.mBg L.kBg L.bBg .nil pass0 (pa_cons (pv 0) pa_nil)))
      (pss_cons (ps_set (i := 2) scLaw.nd rfl (.inl rfl) (pe_call L.LH hr7 rfl L.mLH L.kLH L.bLH .nil pass0 (pa_cons (pv 1) (pa_cons (pe_tup (pa_cons pe_int (pa_cons pe_int (pa_cons pe_int (pa_cons pe_int pa_nil))))) pa_nil))))
      (pss_cons (ps_asg (pe_tup (pa_cons (pe_make L.WM.M L.WM.G hr2 rfl L.WM.m L.WM.b .nil pass0 (pa_cons (pv 2) pa_nil)) (pa_cons (pe_fld (pv 2) rfl) pa_nil))) (pg_tup (by rfl) (pgs_cons (pg_name (i := 3) scLaw.nd rfl (.inr rfl)) (pgs_cons (pg_name (i := 4) scLaw.nd rfl (.inl rfl)) pgs_nil))))
      (pss_cons (ps_for PassesOwn.never rfl (pi_range1 rfl B.rng (pa_cons (pe_call L.T hr1 rfl L.mT L.kT L.bT .nil pass0 (pa_cons (pv 1) (pa_cons pe_int pa_nil))) pa_nil)) (pg_name (i := 5) scLaw.nd rfl (.inl rfl)) ht) (pss_one (ps_ret pe_bl)))))), ?_⟩
    refine ⟨_, rfl, a, ns, rfl, hS, hl, fun b l H1 e1 hB => ?_⟩
    -- the house
    refine ⟨_, rfl, (by show 4 ≤ sizeLine; decide), fun p4 hp4 => ?_⟩
    have f1 := same_upd (o := HO.tup [.int 4, .int 3, .int 4, .int 3]) hp4
    refine ⟨b, l, p4, 4, 3, 4, 3, rfl, SqT.of upd_same, by decide, by decide, by decide, by decide, hB.same f1, fun h d H2 hh hf hok hB2 k2 => ?_⟩
    have hT2 : LamX.Tabs [(tb, lamQ)] H2 := Tabs.kb k2 (LamX.Tabs.ext (fun q hq => by rw [List.mem_singleton.mp hq]; exact LamX.TabS.nil (e1 _ _ hTb)) (fun c o q => f1 c o q))
    -- the world and its state
    refine ⟨_, rfl, fun x dx hx hdx ne => ?_⟩
    have hdx' : (L2.upd H2 dx (.own x)) x = none := by rw [upd_ne ne.symm]; exact hx
    have e3 : Same H2 (L2.upd (L2.upd H2 dx (.own x)) x (.ins CW dx [])) := Same.upd2 (same_upd hdx) hdx'
    refine ⟨x, dx, h, d, rfl, upd_same, hh.nl (nl_same e3), fun H4 bt hw _ => ⟨rfl, ?_⟩⟩
    have e4 : Same H2 H4 := fun c o q => bt c o (e3 c o q) (ne_of_none q hx)
    obtain ⟨dh, vb, vt, vs, vst, g0, st0⟩ := hf.nl (nl_same e4)
    refine ⟨_, rfl, h, C, dh, _, vst, rfl, g0, L.hc.cl, L.hc.nSt, fs_state _ _ _ _ _, (by show 2 ≤ sizeLine; decide), fun pt hpt => ⟨pt, _, rfl, SqT.of upd_same, rfl, _, _, rfl, _, _, rfl, rfl, ?_⟩⟩
    have f5 := same_upd (o := HO.tup [.ref x, vst]) hpt
    have X5 : W2 K C CW [(tb, lamQ)] b l h x vst d d (L2.upd H4 pt (.tup [.ref x, vst])) := ⟨(hB2.same e4).same f5, Tabs.kb (b := b) (l := l) (Kb.same (e4.trans f5)) hT2, hh.nl (nl_same (e4.trans f5)), hw.same f5, st0.same f5⟩
    generalize L2.upd H4 pt (.tup [.ref x, vst]) = H5 at *
    refine ⟨_, rfl, b, l, 30, rfl, by omega, by omega, X5.bx, fun m H6 m0 m1 hB6 k6 => ⟨m, rfl, by omega, by omega, ?_⟩⟩
    have X6 := X5.kb k6 hB6
    refine for_range (lo := 0) (n := m.toNat) (fun i σ H => ∃ (a' : Addr) (v' : V) (d' : Hs) (u5 u6 u7 u8 u9 : Option V), W2 K C CW [(tb, lamQ)] b l h a' v' d d' H ∧ Shp d d' ∧ σ = [some (.ref a), some (.ref b), some (.ref h), some (.ref a'), some v', u5, u6, u7, u8, u9])
      ⟨x, vst, d, _, _, _, _, _, X6, Shp.refl d, rfl⟩ ?_ ?_
    · rintro i σ H7 hi ⟨a', v', d', u5, u6, u7, u8, u9, X7, sh, rfl⟩
      exact hq _ H7 (.ref a) v' b l h a' d d' (some (.int (0 + (i : Int)))) u6 u7 u8 u9 X7 hok sh fun H' a2 v2 d2 w6 w7 w8 w9 X' sh' => ⟨a2, v2, d2, _, w6, w7, w8, w9, X', sh', rfl⟩
    · rintro σ H7 ⟨a', v', d', u5, u6, u7, u8, u9, X7, sh, rfl⟩
      exact k H7
end
end Kw

set_option Elab.async false
set_option linter.all false
set_option maxRecDepth 100000
set_option maxHeartbeats 4000000
namespace Kw
open PySem PySem.Spec PyProof.Rows L2
def ce9 (CUnknownHand CUnknownItem CUnknownBox CUnknownSeal CInsideItself CNotHeld CNotSealed CIsSealed CNotInside : Addr) (z : Str) : Addr := if z = "UnknownHand" then CUnknownHand else if z = "UnknownItem" then CUnknownItem else if z = "UnknownBox" then CUnknownBox else if z = "UnknownSeal" then CUnknownSeal else if z = "InsideItself" then CInsideItself else if z = "NotHeld" then CNotHeld else if z = "NotSealed" then CNotSealed else if z = "IsSealed" then CIsSealed else CNotInside
theorem ce9_UnknownHand (CUnknownHand CUnknownItem CUnknownBox CUnknownSeal CInsideItself CNotHeld CNotSealed CIsSealed CNotInside : Addr) : ce9 CUnknownHand CUnknownItem CUnknownBox CUnknownSeal CInsideItself CNotHeld CNotSealed CIsSealed CNotInside "UnknownHand" = CUnknownHand := by
  unfold ce9
  rw [if_pos rfl]
theorem ce9_UnknownItem (CUnknownHand CUnknownItem CUnknownBox CUnknownSeal CInsideItself CNotHeld CNotSealed CIsSealed CNotInside : Addr) : ce9 CUnknownHand CUnknownItem CUnknownBox CUnknownSeal CInsideItself CNotHeld CNotSealed CIsSealed CNotInside "UnknownItem" = CUnknownItem := by
  unfold ce9
  rw [if_neg (by decide +kernel), if_pos rfl]
theorem ce9_UnknownBox (CUnknownHand CUnknownItem CUnknownBox CUnknownSeal CInsideItself CNotHeld CNotSealed CIsSealed CNotInside : Addr) : ce9 CUnknownHand CUnknownItem CUnknownBox CUnknownSeal CInsideItself CNotHeld CNotSealed CIsSealed CNotInside "UnknownBox" = CUnknownBox := by
  unfold ce9
  rw [if_neg (by decide +kernel), if_neg (by decide +kernel), if_pos rfl]
theorem ce9_UnknownSeal (CUnknownHand CUnknownItem CUnknownBox CUnknownSeal CInsideItself CNotHeld CNotSealed CIsSealed CNotInside : Addr) : ce9 CUnknownHand CUnknownItem CUnknownBox CUnknownSeal CInsideItself CNotHeld CNotSealed CIsSealed CNotInside "UnknownSeal" = CUnknownSeal := by
  unfold ce9
  rw [if_neg (by decide +kernel), if_neg (by decide +kernel), if_neg (by decide +kernel), if_pos rfl]
theorem ce9_InsideItself (CUnknownHand CUnknownItem CUnknownBox CUnknownSeal CInsideItself CNotHeld CNotSealed CIsSealed CNotInside : Addr) : ce9 CUnknownHand CUnknownItem CUnknownBox CUnknownSeal CInsideItself CNotHeld CNotSealed CIsSealed CNotInside "InsideItself" = CInsideItself := by
  unfold ce9
  rw [if_neg (by decide +kernel), if_neg (by decide +kernel), if_neg (by decide +kernel), if_neg (by decide +kernel), if_pos rfl]
theorem ce9_NotHeld (CUnknownHand CUnknownItem CUnknownBox CUnknownSeal CInsideItself CNotHeld CNotSealed CIsSealed CNotInside : Addr) : ce9 CUnknownHand CUnknownItem CUnknownBox CUnknownSeal CInsideItself CNotHeld CNotSealed CIsSealed CNotInside "NotHeld" = CNotHeld := by
  unfold ce9
  rw [if_neg (by decide +kernel), if_neg (by decide +kernel), if_neg (by decide +kernel), if_neg (by decide +kernel), if_neg (by decide +kernel), if_pos rfl]
theorem ce9_NotSealed (CUnknownHand CUnknownItem CUnknownBox CUnknownSeal CInsideItself CNotHeld CNotSealed CIsSealed CNotInside : Addr) : ce9 CUnknownHand CUnknownItem CUnknownBox CUnknownSeal CInsideItself CNotHeld CNotSealed CIsSealed CNotInside "NotSealed" = CNotSealed := by
  unfold ce9
  rw [if_neg (by decide +kernel), if_neg (by decide +kernel), if_neg (by decide +kernel), if_neg (by decide +kernel), if_neg (by decide +kernel), if_neg (by decide +kernel), if_pos rfl]
theorem ce9_IsSealed (CUnknownHand CUnknownItem CUnknownBox CUnknownSeal CInsideItself CNotHeld CNotSealed CIsSealed CNotInside : Addr) : ce9 CUnknownHand CUnknownItem CUnknownBox CUnknownSeal CInsideItself CNotHeld CNotSealed CIsSealed CNotInside "IsSealed" = CIsSealed := by
  unfold ce9
  rw [if_neg (by decide +kernel), if_neg (by decide +kernel), if_neg (by decide +kernel), if_neg (by decide +kernel), if_neg (by decide +kernel), if_neg (by decide +kernel), if_neg (by decide +kernel), if_pos rfl]
theorem ce9_NotInside (CUnknownHand CUnknownItem CUnknownBox CUnknownSeal CInsideItself CNotHeld CNotSealed CIsSealed CNotInside : Addr) : ce9 CUnknownHand CUnknownItem CUnknownBox CUnknownSeal CInsideItself CNotHeld CNotSealed CIsSealed CNotInside "NotInside" = CNotInside := by
  unfold ce9
  rw [if_neg (by decide +kernel), if_neg (by decide +kernel), if_neg (by decide +kernel), if_neg (by decide +kernel), if_neg (by decide +kernel), if_neg (by decide +kernel), if_neg (by decide +kernel), if_neg (by decide +kernel)]
theorem all_mk {l : PySem.W.OpenLaw} {w : World} {K : PySem.W.Frag} {h : Heap} {mg : Str → Option Value} {fa : Addr} (X : K.In h) (G : h.Ns mainGlobals mg) (hfa : mg "law" = some (.ref fa))
    {C CW CE CT aP : Addr}
    {fm0 : Addr} {ocm0 kVm0 dcm0 pmm0 cdm0 ctm0 : Value} {odm0 anm0 : Option Addr} {slm0 : Array (Option Value)}
    {fm1 : Addr} {ocm1 kVm1 dcm1 pmm1 cdm1 ctm1 : Value} {odm1 anm1 : Option Addr} {slm1 : Array (Option Value)}
    {fm2 : Addr} {ocm2 kVm2 dcm2 pmm2 cdm2 ctm2 : Value} {odm2 anm2 : Option Addr} {slm2 : Array (Option Value)}
    {fm3 : Addr} {ocm3 kVm3 dcm3 pmm3 cdm3 ctm3 : Value} {odm3 anm3 : Option Addr} {slm3 : Array (Option Value)}
    {fm4 : Addr} {ocm4 kVm4 dcm4 pmm4 cdm4 ctm4 : Value} {odm4 anm4 : Option Addr} {slm4 : Array (Option Value)}
    {fm5 : Addr} {ocm5 kVm5 dcm5 pmm5 cdm5 ctm5 : Value} {odm5 anm5 : Option Addr} {slm5 : Array (Option Value)}
    {fm6 : Addr} {ocm6 kVm6 dcm6 pmm6 cdm6 ctm6 : Value} {odm6 anm6 : Option Addr} {slm6 : Array (Option Value)}
    {fm7 : Addr} {ocm7 kVm7 dcm7 pmm7 cdm7 ctm7 : Value} {odm7 anm7 : Option Addr} {slm7 : Array (Option Value)}
    {fm8 : Addr} {ocm8 kVm8 dcm8 pmm8 cdm8 ctm8 : Value} {odm8 anm8 : Option Addr} {slm8 : Array (Option Value)}
    {fm9 : Addr} {ocm9 kVm9 dcm9 pmm9 cdm9 ctm9 : Value} {odm9 anm9 : Option Addr} {slm9 : Array (Option Value)}
    {fm10 : Addr} {ocm10 kVm10 dcm10 pmm10 cdm10 ctm10 : Value} {odm10 anm10 : Option Addr} {slm10 : Array (Option Value)}
    {fm11 : Addr} {ocm11 kVm11 dcm11 pmm11 cdm11 ctm11 : Value} {odm11 anm11 : Option Addr} {slm11 : Array (Option Value)}
    {fm12 : Addr} {ocm12 kVm12 dcm12 pmm12 cdm12 ctm12 : Value} {odm12 anm12 : Option Addr} {slm12 : Array (Option Value)}
    {fm13 : Addr} {ocm13 kVm13 dcm13 pmm13 cdm13 ctm13 : Value} {odm13 anm13 : Option Addr} {slm13 : Array (Option Value)}
    {fm14 : Addr} {ocm14 kVm14 dcm14 pmm14 cdm14 ctm14 : Value} {odm14 anm14 : Option Addr} {slm14 : Array (Option Value)}
    {fm15 : Addr} {ocm15 kVm15 dcm15 pmm15 cdm15 ctm15 : Value} {odm15 anm15 : Option Addr} {slm15 : Array (Option Value)}
    {fm16 : Addr} {ocm16 kVm16 dcm16 pmm16 cdm16 ctm16 : Value} {odm16 anm16 : Option Addr} {slm16 : Array (Option Value)}
    {fm17 : Addr} {ocm17 kVm17 dcm17 pmm17 cdm17 ctm17 : Value} {odm17 anm17 : Option Addr} {slm17 : Array (Option Value)}
    {fm18 : Addr} {ocm18 kVm18 dcm18 pmm18 cdm18 ctm18 : Value} {odm18 anm18 : Option Addr} {slm18 : Array (Option Value)}
    {fm19 : Addr} {ocm19 kVm19 dcm19 pmm19 cdm19 ctm19 : Value} {odm19 anm19 : Option Addr} {slm19 : Array (Option Value)}
    {fm20 : Addr} {ocm20 kVm20 dcm20 pmm20 cdm20 ctm20 : Value} {odm20 anm20 : Option Addr} {slm20 : Array (Option Value)}
    {fm21 : Addr} {ocm21 kVm21 dcm21 pmm21 cdm21 ctm21 : Value} {odm21 anm21 : Option Addr} {slm21 : Array (Option Value)}
    {fm22 : Addr} {ocm22 kVm22 dcm22 pmm22 cdm22 ctm22 : Value} {odm22 anm22 : Option Addr} {slm22 : Array (Option Value)}
    {fm23 : Addr} {ocm23 kVm23 dcm23 pmm23 cdm23 ctm23 : Value} {odm23 anm23 : Option Addr} {slm23 : Array (Option Value)}
    {fm24 : Addr} {ocm24 kVm24 dcm24 pmm24 cdm24 ctm24 : Value} {odm24 anm24 : Option Addr} {slm24 : Array (Option Value)}
    {fm25 : Addr} {ocm25 kVm25 dcm25 pmm25 cdm25 ctm25 : Value} {odm25 anm25 : Option Addr} {slm25 : Array (Option Value)}
    {fm26 : Addr} {ocm26 kVm26 dcm26 pmm26 cdm26 ctm26 : Value} {odm26 anm26 : Option Addr} {slm26 : Array (Option Value)}
    {fm27 : Addr} {ocm27 kVm27 dcm27 pmm27 cdm27 ctm27 : Value} {odm27 anm27 : Option Addr} {slm27 : Array (Option Value)}
    {fm28 : Addr} {ocm28 kVm28 dcm28 pmm28 cdm28 ctm28 : Value} {odm28 anm28 : Option Addr} {slm28 : Array (Option Value)}
    {fm29 : Addr} {ocm29 kVm29 dcm29 pmm29 cdm29 ctm29 : Value} {odm29 anm29 : Option Addr} {slm29 : Array (Option Value)}
    {fm30 : Addr} {ocm30 kVm30 dcm30 pmm30 cdm30 ctm30 : Value} {odm30 anm30 : Option Addr} {slm30 : Array (Option Value)}
    {fm31 : Addr} {ocm31 kVm31 dcm31 pmm31 cdm31 ctm31 : Value} {odm31 anm31 : Option Addr} {slm31 : Array (Option Value)}
    {ft0 : Addr} {oct0 kVt0 dct0 pmt0 cdt0 ctt0 : Value} {odt0 ant0 : Option Addr} {slt0 : Array (Option Value)}
    {ft1 : Addr} {oct1 kVt1 dct1 pmt1 cdt1 ctt1 : Value} {odt1 ant1 : Option Addr} {slt1 : Array (Option Value)}
    {ft2 : Addr} {oct2 kVt2 dct2 pmt2 cdt2 ctt2 : Value} {odt2 ant2 : Option Addr} {slt2 : Array (Option Value)}
    {ft3 : Addr} {oct3 kVt3 dct3 pmt3 cdt3 ctt3 : Value} {odt3 ant3 : Option Addr} {slt3 : Array (Option Value)}
    {ft4 : Addr} {oct4 kVt4 dct4 pmt4 cdt4 ctt4 : Value} {odt4 ant4 : Option Addr} {slt4 : Array (Option Value)}
    {ft5 : Addr} {oct5 kVt5 dct5 pmt5 cdt5 ctt5 : Value} {odt5 ant5 : Option Addr} {slt5 : Array (Option Value)}
    {ft6 : Addr} {oct6 kVt6 dct6 pmt6 cdt6 ctt6 : Value} {odt6 ant6 : Option Addr} {slt6 : Array (Option Value)}
    {cd tb : Addr} {ocL kVL dcL pmL ctL : Value} {odL anL : Option Addr} {slL : Array (Option Value)} {fL : Addr}
    {nm q : Str} {N : Addr} {bs bm sub : List Value} {sn : List Str} {ab : Bool} {col : Option Bool} {ddE : Option Addr} {g0 g1 g2 g3 g5 : Option Value}
    {fI cda cc : Addr} {ocI kVI dcI pmI ctI : Value} {odI anI : Option Addr} {slI : Array (Option Value)} {vsC : Array Value} {fileS : Str} {tf : Tok} {ccl cl : Value} {cdd cld : Option Addr} {ccs csl : Array (Option Value)}
    {CInsideItself : Addr}
    {CInvalidCourse : Addr}
    {CInvalidHands : Addr}
    {CInvalidLog : Addr}
    {CInvalidNumber : Addr}
    {CIsSealed : Addr}
    {CNoCourse : Addr}
    {CNotHeld : Addr}
    {CNotInside : Addr}
    {CNotSealed : Addr}
    {CUnknownBox : Addr}
    {CUnknownHand : Addr}
    {CUnknownItem : Addr}
    {CUnknownSeal : Addr}
    {th tbx tth ts : Tok}
    {esP : Array DictEntry} {nP_ : Nat} {tp0 tp1 tp2 : Tok}
    (aC : PySem.W.nsIn K mainGlobals "House" = some (some (.ref C)))
    (aCW : PySem.W.nsIn K mainGlobals "World" = some (some (.ref CW)))
    (aCE : PySem.W.nsIn K mainGlobals "InvalidHouse" = some (some (.ref CE)))
    (aCT : PySem.W.nsIn K mainGlobals "WatchError" = some (some (.ref CT)))
    (am0 : PySem.W.nsIn K mainGlobals "is_number" = some (some (.ref fm0)))
    (lm0 : K.lookup fm0 = some ⟨ocm0, odm0, .func (PySem.W.fnOf "is_number" "is_number" (defArgs sNum) (defBody sNum) (defScope sNum) .none kVm0 dcm0 pmm0 anm0 cdm0 ctm0), slm0⟩)
    (cm0 : PySem.W.codeIn K cdm0 "is_number" = true)
    (km0 : PySem.W.keepIn K (.ref fm0) = true)
    (am1 : PySem.W.nsIn K mainGlobals "how_many" = some (some (.ref fm1)))
    (lm1 : K.lookup fm1 = some ⟨ocm1, odm1, .func (PySem.W.fnOf "how_many" "how_many" (defArgs sMany) (defBody sMany) (defScope sMany) .none kVm1 dcm1 pmm1 anm1 cdm1 ctm1), slm1⟩)
    (cm1 : PySem.W.codeIn K cdm1 "how_many" = true)
    (km1 : PySem.W.keepIn K (.ref fm1) = true)
    (am2 : PySem.W.nsIn K mainGlobals "is_place" = some (some (.ref fm2)))
    (lm2 : K.lookup fm2 = some ⟨ocm2, odm2, .func (PySem.W.fnOf "is_place" "is_place" (defArgs sIsPl) (defBody sIsPl) (defScope sIsPl) .none kVm2 dcm2 pmm2 anm2 cdm2 ctm2), slm2⟩)
    (cm2 : PySem.W.codeIn K cdm2 "is_place" = true)
    (km2 : PySem.W.keepIn K (.ref fm2) = true)
    (am3 : PySem.W.nsIn K mainGlobals "need_boxes" = some (some (.ref fm3)))
    (lm3 : K.lookup fm3 = some ⟨ocm3, odm3, .func (PySem.W.fnOf "need_boxes" "need_boxes" (defArgs sBoxes) (defBody sBoxes) (defScope sBoxes) .none kVm3 dcm3 pmm3 anm3 cdm3 ctm3), slm3⟩)
    (cm3 : PySem.W.codeIn K cdm3 "need_boxes" = true)
    (km3 : PySem.W.keepIn K (.ref fm3) = true)
    (am4 : PySem.W.nsIn K mainGlobals "need_house" = some (some (.ref fm4)))
    (lm4 : K.lookup fm4 = some ⟨ocm4, odm4, .func (PySem.W.fnOf "need_house" "need_house" (defArgs sNeed) (defBody sNeed) (defScope sNeed) .none kVm4 dcm4 pmm4 anm4 cdm4 ctm4), slm4⟩)
    (cm4 : PySem.W.codeIn K cdm4 "need_house" = true)
    (km4 : PySem.W.keepIn K (.ref fm4) = true)
    (am5 : PySem.W.nsIn K mainGlobals "_law_begun" = some (some (.ref fm5)))
    (lm5 : K.lookup fm5 = some ⟨ocm5, odm5, .func (PySem.W.fnOf "_law_begun" "_law_begun" (defArgs sBegun) (defBody sBegun) (defScope sBegun) .none kVm5 dcm5 pmm5 anm5 cdm5 ctm5), slm5⟩)
    (cm5 : PySem.W.codeIn K cdm5 "_law_begun" = true)
    (km5 : PySem.W.keepIn K (.ref fm5) = true)
    (am6 : PySem.W.nsIn K mainGlobals "_law_take" = some (some (.ref fm6)))
    (lm6 : K.lookup fm6 = some ⟨ocm6, odm6, .func (PySem.W.fnOf "_law_take" "_law_take" (defArgs sTake) (defBody sTake) (defScope sTake) .none kVm6 dcm6 pmm6 anm6 cdm6 ctm6), slm6⟩)
    (cm6 : PySem.W.codeIn K cdm6 "_law_take" = true)
    (km6 : PySem.W.keepIn K (.ref fm6) = true)
    (am7 : PySem.W.nsIn K mainGlobals "_law_alike" = some (some (.ref fm7)))
    (lm7 : K.lookup fm7 = some ⟨ocm7, odm7, .func (PySem.W.fnOf "_law_alike" "_law_alike" (defArgs sAlike) (defBody sAlike) (defScope sAlike) .none kVm7 dcm7 pmm7 anm7 cdm7 ctm7), slm7⟩)
    (cm7 : PySem.W.codeIn K cdm7 "_law_alike" = true)
    (km7 : PySem.W.keepIn K (.ref fm7) = true)
    (am8 : PySem.W.nsIn K mainGlobals "_law_places" = some (some (.ref fm8)))
    (lm8 : K.lookup fm8 = some ⟨ocm8, odm8, .func (PySem.W.fnOf "_law_places" "_law_places" (defArgs sPlaces) (defBody sPlaces) (defScope sPlaces) .none kVm8 dcm8 pmm8 anm8 cdm8 ctm8), slm8⟩)
    (cm8 : PySem.W.codeIn K cdm8 "_law_places" = true)
    (km8 : PySem.W.keepIn K (.ref fm8) = true)
    (am9 : PySem.W.nsIn K mainGlobals "_law_house" = some (some (.ref fm9)))
    (lm9 : K.lookup fm9 = some ⟨ocm9, odm9, .func (PySem.W.fnOf "_law_house" "_law_house" (defArgs sHouse) (defBody sHouse) (defScope sHouse) .none kVm9 dcm9 pmm9 anm9 cdm9 ctm9), slm9⟩)
    (cm9 : PySem.W.codeIn K cdm9 "_law_house" = true)
    (km9 : PySem.W.keepIn K (.ref fm9) = true)
    (am10 : PySem.W.nsIn K mainGlobals "_law_error" = some (some (.ref fm10)))
    (lm10 : K.lookup fm10 = some ⟨ocm10, odm10, .func (PySem.W.fnOf "_law_error" "_law_error" (defArgs sErr) (defBody sErr) (defScope sErr) .none kVm10 dcm10 pmm10 anm10 cdm10 ctm10), slm10⟩)
    (cm10 : PySem.W.codeIn K cdm10 "_law_error" = true)
    (km10 : PySem.W.keepIn K (.ref fm10) = true)
    (am11 : PySem.W.nsIn K mainGlobals "_law_where" = some (some (.ref fm11)))
    (lm11 : K.lookup fm11 = some ⟨ocm11, odm11, .func (PySem.W.fnOf "_law_where" "_law_where" (defArgs sWhere) (defBody sWhere) (defScope sWhere) .none kVm11 dcm11 pmm11 anm11 cdm11 ctm11), slm11⟩)
    (cm11 : PySem.W.codeIn K cdm11 "_law_where" = true)
    (km11 : PySem.W.keepIn K (.ref fm11) = true)
    (am12 : PySem.W.nsIn K mainGlobals "_law_set" = some (some (.ref fm12)))
    (lm12 : K.lookup fm12 = some ⟨ocm12, odm12, .func (PySem.W.fnOf "_law_set" "_law_set" (defArgs sSet) (defBody sSet) (defScope sSet) .none kVm12 dcm12 pmm12 anm12 cdm12 ctm12), slm12⟩)
    (cm12 : PySem.W.codeIn K cdm12 "_law_set" = true)
    (km12 : PySem.W.keepIn K (.ref fm12) = true)
    (am13 : PySem.W.nsIn K mainGlobals "_law_bar" = some (some (.ref fm13)))
    (lm13 : K.lookup fm13 = some ⟨ocm13, odm13, .func (PySem.W.fnOf "_law_bar" "_law_bar" (defArgs sBar) (defBody sBar) (defScope sBar) .none kVm13 dcm13 pmm13 anm13 cdm13 ctm13), slm13⟩)
    (cm13 : PySem.W.codeIn K cdm13 "_law_bar" = true)
    (km13 : PySem.W.keepIn K (.ref fm13) = true)
    (am14 : PySem.W.nsIn K mainGlobals "_law_next" = some (some (.ref fm14)))
    (lm14 : K.lookup fm14 = some ⟨ocm14, odm14, .func (PySem.W.fnOf "_law_next" "_law_next" (defArgs sNext) (defBody sNext) (defScope sNext) .none kVm14 dcm14 pmm14 anm14 cdm14 ctm14), slm14⟩)
    (cm14 : PySem.W.codeIn K cdm14 "_law_next" = true)
    (km14 : PySem.W.keepIn K (.ref fm14) = true)
    (am15 : PySem.W.nsIn K mainGlobals "_law_deeds" = some (some (.ref fm15)))
    (lm15 : K.lookup fm15 = some ⟨ocm15, odm15, .func (PySem.W.fnOf "_law_deeds" "_law_deeds" (defArgs sDeeds) (defBody sDeeds) (defScope sDeeds) .none kVm15 dcm15 pmm15 anm15 cdm15 ctm15), slm15⟩)
    (cm15 : PySem.W.codeIn K cdm15 "_law_deeds" = true)
    (km15 : PySem.W.keepIn K (.ref fm15) = true)
    (am16 : PySem.W.nsIn K mainGlobals "_law_drawn" = some (some (.ref fm16)))
    (lm16 : K.lookup fm16 = some ⟨ocm16, odm16, .func (PySem.W.fnOf "_law_drawn" "_law_drawn" (defArgs sDrawn) (defBody sDrawn) (defScope sDrawn) .none kVm16 dcm16 pmm16 anm16 cdm16 ctm16), slm16⟩)
    (cm16 : PySem.W.codeIn K cdm16 "_law_drawn" = true)
    (km16 : PySem.W.keepIn K (.ref fm16) = true)
    (am17 : PySem.W.nsIn K mainGlobals "_law_unknown" = some (some (.ref fm17)))
    (lm17 : K.lookup fm17 = some ⟨ocm17, odm17, .func (PySem.W.fnOf "_law_unknown" "_law_unknown" (defArgs sUnk) (defBody sUnk) (defScope sUnk) .none kVm17 dcm17 pmm17 anm17 cdm17 ctm17), slm17⟩)
    (cm17 : PySem.W.codeIn K cdm17 "_law_unknown" = true)
    (km17 : PySem.W.keepIn K (.ref fm17) = true)
    (am18 : PySem.W.nsIn K mainGlobals "need_hand" = some (some (.ref fm18)))
    (lm18 : K.lookup fm18 = some ⟨ocm18, odm18, .func (PySem.W.fnOf "need_hand" "need_hand" (defArgs sNHand) (defBody sNHand) (defScope sNHand) .none kVm18 dcm18 pmm18 anm18 cdm18 ctm18), slm18⟩)
    (cm18 : PySem.W.codeIn K cdm18 "need_hand" = true)
    (km18 : PySem.W.keepIn K (.ref fm18) = true)
    (am19 : PySem.W.nsIn K mainGlobals "need_item" = some (some (.ref fm19)))
    (lm19 : K.lookup fm19 = some ⟨ocm19, odm19, .func (PySem.W.fnOf "need_item" "need_item" (defArgs sNItem) (defBody sNItem) (defScope sNItem) .none kVm19 dcm19 pmm19 anm19 cdm19 ctm19), slm19⟩)
    (cm19 : PySem.W.codeIn K cdm19 "need_item" = true)
    (km19 : PySem.W.keepIn K (.ref fm19) = true)
    (am20 : PySem.W.nsIn K mainGlobals "need_load" = some (some (.ref fm20)))
    (lm20 : K.lookup fm20 = some ⟨ocm20, odm20, .func (PySem.W.fnOf "need_load" "need_load" (defArgs sNLoad) (defBody sNLoad) (defScope sNLoad) .none kVm20 dcm20 pmm20 anm20 cdm20 ctm20), slm20⟩)
    (cm20 : PySem.W.codeIn K cdm20 "need_load" = true)
    (km20 : PySem.W.keepIn K (.ref fm20) = true)
    (am21 : PySem.W.nsIn K mainGlobals "need_box" = some (some (.ref fm21)))
    (lm21 : K.lookup fm21 = some ⟨ocm21, odm21, .func (PySem.W.fnOf "need_box" "need_box" (defArgs sNBox) (defBody sNBox) (defScope sNBox) .none kVm21 dcm21 pmm21 anm21 cdm21 ctm21), slm21⟩)
    (cm21 : PySem.W.codeIn K cdm21 "need_box" = true)
    (km21 : PySem.W.keepIn K (.ref fm21) = true)
    (am22 : PySem.W.nsIn K mainGlobals "need_seal" = some (some (.ref fm22)))
    (lm22 : K.lookup fm22 = some ⟨ocm22, odm22, .func (PySem.W.fnOf "need_seal" "need_seal" (defArgs sNSeal) (defBody sNSeal) (defScope sNSeal) .none kVm22 dcm22 pmm22 anm22 cdm22 ctm22), slm22⟩)
    (cm22 : PySem.W.codeIn K cdm22 "need_seal" = true)
    (km22 : PySem.W.keepIn K (.ref fm22) = true)
    (am23 : PySem.W.nsIn K mainGlobals "place_in" = some (some (.ref fm23)))
    (lm23 : K.lookup fm23 = some ⟨ocm23, odm23, .func (PySem.W.fnOf "place_in" "place_in" (defArgs sPlace) (defBody sPlace) (defScope sPlace) .none kVm23 dcm23 pmm23 anm23 cdm23 ctm23), slm23⟩)
    (cm23 : PySem.W.codeIn K cdm23 "place_in" = true)
    (km23 : PySem.W.keepIn K (.ref fm23) = true)
    (am24 : PySem.W.nsIn K mainGlobals "with_place" = some (some (.ref fm24)))
    (lm24 : K.lookup fm24 = some ⟨ocm24, odm24, .func (PySem.W.fnOf "with_place" "with_place" (defArgs sWith) (defBody sWith) (defScope sWith) .none kVm24 dcm24 pmm24 anm24 cdm24 ctm24), slm24⟩)
    (cm24 : PySem.W.codeIn K cdm24 "with_place" = true)
    (km24 : PySem.W.keepIn K (.ref fm24) = true)
    (am25 : PySem.W.nsIn K mainGlobals "seal_on" = some (some (.ref fm25)))
    (lm25 : K.lookup fm25 = some ⟨ocm25, odm25, .func (PySem.W.fnOf "seal_on" "seal_on" (defArgs sOn) (defBody sOn) (defScope sOn) .none kVm25 dcm25 pmm25 anm25 cdm25 ctm25), slm25⟩)
    (cm25 : PySem.W.codeIn K cdm25 "seal_on" = true)
    (km25 : PySem.W.keepIn K (.ref fm25) = true)
    (am26 : PySem.W.nsIn K mainGlobals "need_deed" = some (some (.ref fm26)))
    (lm26 : K.lookup fm26 = some ⟨ocm26, odm26, .func (PySem.W.fnOf "need_deed" "need_deed" (defArgs sNDeed) (defBody sNDeed) (defScope sNDeed) .none kVm26 dcm26 pmm26 anm26 cdm26 ctm26), slm26⟩)
    (cm26 : PySem.W.codeIn K cdm26 "need_deed" = true)
    (km26 : PySem.W.keepIn K (.ref fm26) = true)
    (am27 : PySem.W.nsIn K mainGlobals "need_move" = some (some (.ref fm27)))
    (lm27 : K.lookup fm27 = some ⟨ocm27, odm27, .func (PySem.W.fnOf "need_move" "need_move" (defArgs sNMove) (defBody sNMove) (defScope sNMove) .none kVm27 dcm27 pmm27 anm27 cdm27 ctm27), slm27⟩)
    (cm27 : PySem.W.codeIn K cdm27 "need_move" = true)
    (km27 : PySem.W.keepIn K (.ref fm27) = true)
    (am28 : PySem.W.nsIn K mainGlobals "state_behind" = some (some (.ref fm28)))
    (lm28 : K.lookup fm28 = some ⟨ocm28, odm28, .func (PySem.W.fnOf "state_behind" "state_behind" (defArgs sBehind) (defBody sBehind) (defScope sBehind) .none kVm28 dcm28 pmm28 anm28 cdm28 ctm28), slm28⟩)
    (cm28 : PySem.W.codeIn K cdm28 "state_behind" = true)
    (km28 : PySem.W.keepIn K (.ref fm28) = true)
    (am29 : PySem.W.nsIn K mainGlobals "state_behind_break" = some (some (.ref fm29)))
    (lm29 : K.lookup fm29 = some ⟨ocm29, odm29, .func (PySem.W.fnOf "state_behind_break" "state_behind_break" (defArgs sBreak) (defBody sBreak) (defScope sBreak) .none kVm29 dcm29 pmm29 anm29 cdm29 ctm29), slm29⟩)
    (cm29 : PySem.W.codeIn K cdm29 "state_behind_break" = true)
    (km29 : PySem.W.keepIn K (.ref fm29) = true)
    (am30 : PySem.W.nsIn K mainGlobals "need_held" = some (some (.ref fm30)))
    (lm30 : K.lookup fm30 = some ⟨ocm30, odm30, .func (PySem.W.fnOf "need_held" "need_held" (defArgs sHeld) (defBody sHeld) (defScope sHeld) .none kVm30 dcm30 pmm30 anm30 cdm30 ctm30), slm30⟩)
    (cm30 : PySem.W.codeIn K cdm30 "need_held" = true)
    (km30 : PySem.W.keepIn K (.ref fm30) = true)
    (am31 : PySem.W.nsIn K mainGlobals "need_bare" = some (some (.ref fm31)))
    (lm31 : K.lookup fm31 = some ⟨ocm31, odm31, .func (PySem.W.fnOf "need_bare" "need_bare" (defArgs sBare) (defBody sBare) (defScope sBare) .none kVm31 dcm31 pmm31 anm31 cdm31 ctm31), slm31⟩)
    (cm31 : PySem.W.codeIn K cdm31 "need_bare" = true)
    (km31 : PySem.W.keepIn K (.ref fm31) = true)
    (at0 : PySem.W.findIn K (.ref C) "__init__" = some (some (.ref ft0)))
    (lt0 : K.lookup ft0 = some ⟨oct0, odt0, .func (PySem.W.fnOf "__init__" "House.__init__" (defArgs sInit) (defBody sInit) (defScope sInit) .none kVt0 dct0 pmt0 ant0 cdt0 ctt0), slt0⟩)
    (ct0 : PySem.W.codeIn K cdt0 "House.__init__" = true)
    (kt0 : PySem.W.keepIn K (.ref ft0) = true)
    (i0 : PySem.W.isFn K (.ref ft0) = true)
    (at1 : PySem.W.findIn K (.ref C) "__contains__" = some (some (.ref ft1)))
    (lt1 : K.lookup ft1 = some ⟨oct1, odt1, .func (PySem.W.fnOf "__contains__" "House.__contains__" (defArgs sHas) (defBody sHas) (defScope sHas) .none kVt1 dct1 pmt1 ant1 cdt1 ctt1), slt1⟩)
    (ct1 : PySem.W.codeIn K cdt1 "House.__contains__" = true)
    (kt1 : PySem.W.keepIn K (.ref ft1) = true)
    (i1 : PySem.W.isFn K (.ref ft1) = true)
    (at2 : PySem.W.findIn K (.ref C) "__eq__" = some (some (.ref ft2)))
    (lt2 : K.lookup ft2 = some ⟨oct2, odt2, .func (PySem.W.fnOf "__eq__" "House.__eq__" (defArgs sEqH) (defBody sEqH) (defScope sEqH) .none kVt2 dct2 pmt2 ant2 cdt2 ctt2), slt2⟩)
    (ct2 : PySem.W.codeIn K cdt2 "House.__eq__" = true)
    (kt2 : PySem.W.keepIn K (.ref ft2) = true)
    (i2 : PySem.W.isFn K (.ref ft2) = true)
    (at3 : PySem.W.findIn K (.ref CW) "__init__" = some (some (.ref ft3)))
    (lt3 : K.lookup ft3 = some ⟨oct3, odt3, .func (PySem.W.fnOf "__init__" "World.__init__" (defArgs sWInit) (defBody sWInit) (defScope sWInit) .none kVt3 dct3 pmt3 ant3 cdt3 ctt3), slt3⟩)
    (ct3 : PySem.W.codeIn K cdt3 "World.__init__" = true)
    (kt3 : PySem.W.keepIn K (.ref ft3) = true)
    (i3 : PySem.W.isFn K (.ref ft3) = true)
    (at4 : PySem.W.findIn K (.ref CW) "__call__" = some (some (.ref ft4)))
    (lt4 : K.lookup ft4 = some ⟨oct4, odt4, .func (PySem.W.fnOf "__call__" "World.__call__" (defArgs sWCall) (defBody sWCall) (defScope sWCall) .none kVt4 dct4 pmt4 ant4 cdt4 ctt4), slt4⟩)
    (ct4 : PySem.W.codeIn K cdt4 "World.__call__" = true)
    (kt4 : PySem.W.keepIn K (.ref ft4) = true)
    (i4 : PySem.W.isFn K (.ref ft4) = true)
    (at5 : PySem.W.findIn K (.ref CW) "__eq__" = some (some (.ref ft5)))
    (lt5 : K.lookup ft5 = some ⟨oct5, odt5, .func (PySem.W.fnOf "__eq__" "World.__eq__" (defArgs sWEq) (defBody sWEq) (defScope sWEq) .none kVt5 dct5 pmt5 ant5 cdt5 ctt5), slt5⟩)
    (ct5 : PySem.W.codeIn K cdt5 "World.__eq__" = true)
    (kt5 : PySem.W.keepIn K (.ref ft5) = true)
    (i5 : PySem.W.isFn K (.ref ft5) = true)
    (at6 : PySem.W.findIn K (.ref CW) "changed" = some (some (.ref ft6)))
    (lt6 : K.lookup ft6 = some ⟨oct6, odt6, .func (PySem.W.fnOf "changed" "World.changed" (defArgs sWCh) (defBody sWCh) (defScope sWCh) .none kVt6 dct6 pmt6 ant6 cdt6 ctt6), slt6⟩)
    (ct6 : PySem.W.codeIn K cdt6 "World.changed" = true)
    (kt6 : PySem.W.keepIn K (.ref ft6) = true)
    (i6 : PySem.W.isFn K (.ref ft6) = true)
    (fn4 : PySem.W.fnIn K ft4 = true)
    (aL : PySem.W.nsIn K mainGlobals "law" = some (some (.ref fL)))
    (lL : K.lookup fL = some ⟨ocL, odL, .func (PySem.W.fnOf "law" "law" (defArgs sLaw) (defBody sLaw) (defScope sLaw) .none kVL dcL pmL anL (.ref cd) ctL), slL⟩)
    (cL : PySem.W.codeIn K (.ref cd) "law" = true)
    (chn : PySem.W.specialIn K (.builtin "object.__class__") "__get__" = some (some (.builtin "getset_descriptor.__get__")))
    (cht : PySem.W.takesIn K (.builtin "object.__class__") = some true)
    (hpg : PySem.W.plainGet K C Str.empty = true)
    (hhd : PySem.W.hasDictIn K C = true)
    (hpo : PySem.W.plainOver K C = true)
    (hsa : PySem.W.findIn K (.ref C) "__setattr__" = some (some (.builtin "object.__setattr__")))
    (hmk : PySem.W.makesIn K C = true)
    (hkc : PySem.W.keepIn K (.ref C) = true)
    (hha : PySem.W.findIn K (.ref C) "__class__" = some (some (.builtin "object.__class__")))
    (hhm : PySem.W.mroIn K C (.type "object") = some true)
    (hkk : PySem.W.kitOne K (.ref C) (.ref C) = some true)
    (vpg : PySem.W.plainGet K CW Str.empty = true)
    (vhd : PySem.W.hasDictIn K CW = true)
    (vpo : PySem.W.plainOver K CW = true)
    (vsa : PySem.W.findIn K (.ref CW) "__setattr__" = some (some (.builtin "object.__setattr__")))
    (vmk : PySem.W.makesIn K CW = true)
    (vkc : PySem.W.keepIn K (.ref CW) = true)
    (vha : PySem.W.findIn K (.ref CW) "__class__" = some (some (.builtin "object.__class__")))
    (vhm : PySem.W.mroIn K CW (.type "object") = some true)
    (vkk : PySem.W.kitOne K (.ref CW) (.ref CW) = some true)
    (nH : PySem.W.findIn K (.ref C) "hands" = some none)
    (nB : PySem.W.findIn K (.ref C) "boxes" = some none)
    (nT : PySem.W.findIn K (.ref C) "things" = some none)
    (nS : PySem.W.findIn K (.ref C) "seals" = some none)
    (nSt : PySem.W.findIn K (.ref C) "state" = some none)
    (wnH : PySem.W.findIn K (.ref CW) "house" = some none)
    (wnS : PySem.W.findIn K (.ref CW) "state" = some none)
    (xL : K.lookup CE = some (excClassObj nm q CE N bs bm true sn sub ab col ddE g0 g1 g2 g3 g5 "ValueError.__new__"))
    (xv : PySem.HandSPX.refsVE bm = true)
    (xa : PySem.W.alongIn K "__init__" ((((Value.ref CE :: bm).dropWhile (· != .ref CE)).drop 1)) = some (some (.builtin "ValueError.__init__")))
    (xsa : PySem.W.findIn K (.ref CE) "__setattr__" = some (some (.builtin "object.__setattr__")))
    (xex : PySem.W.subIn K (.ref CE) (.type "BaseException") = some true)
    (xty : PySem.W.typeIn K (.ref CE) = some (.type "type"))
    (xkc : PySem.W.keepIn K (.ref CE) = true)
    (xtp : PySem.W.nsIn K cStatics "thirdparty.any" = some none)
    (xve : PySem.W.subIn K (.ref CE) (.type "ValueError") = some true)
    (xse : PySem.W.mroIn K CE (.ref CE) = some true)
    (xnP : PySem.W.findIn K (.ref CE) "part" = some none)
    (xnI : PySem.W.findIn K (.ref CE) "index" = some none)
    (xi : PySem.W.findIn K (.ref CE) "__init__" = some (some (.ref fI)))
    (xit : PySem.W.typeIn K (.ref fI) = some (.type "function"))
    (xil : K.lookup fI = some ⟨ocI, odI, .func (PySem.W.ksFn "__init__" "InvalidHouse.__init__" (defArgs sIH) (defBody sIH) (defScope sIH) .none kVI dcI pmI anI (.ref cda) ctI cc), slI⟩)
    (xic : PySem.W.codeIn K (.ref cda) "InvalidHouse.__init__" = true)
    (xcl : K.lookup cda = some ⟨ccl, cdd, .fields vsC, ccs⟩)
    (xcf : vsC[2]? = some (.str fileS tf))
    (xff : ((l.prog.main.file : Str) == fileS) = true)
    (xcc : K.lookup cc = some ⟨cl, cld, .cell (some (.ref CE)), csl⟩)
    (xtop : (l.prog.main.scope.names.lookup ("super" : Str)).isSome = false)
    (wbe : PySem.W.subIn K (.ref CT) (.type "BaseException") = some true)
    (wcl : PySem.W.hasDictIn K CT = true)
    (wty : PySem.W.typeIn K (.ref CT) = some (.type "type"))
    (nInsideItself : PySem.W.nsIn K mainGlobals "InsideItself" = some (some (.ref CInsideItself)))
    (nInvalidCourse : PySem.W.nsIn K mainGlobals "InvalidCourse" = some (some (.ref CInvalidCourse)))
    (nInvalidHands : PySem.W.nsIn K mainGlobals "InvalidHands" = some (some (.ref CInvalidHands)))
    (nInvalidLog : PySem.W.nsIn K mainGlobals "InvalidLog" = some (some (.ref CInvalidLog)))
    (nInvalidNumber : PySem.W.nsIn K mainGlobals "InvalidNumber" = some (some (.ref CInvalidNumber)))
    (nIsSealed : PySem.W.nsIn K mainGlobals "IsSealed" = some (some (.ref CIsSealed)))
    (nNoCourse : PySem.W.nsIn K mainGlobals "NoCourse" = some (some (.ref CNoCourse)))
    (nNotHeld : PySem.W.nsIn K mainGlobals "NotHeld" = some (some (.ref CNotHeld)))
    (nNotInside : PySem.W.nsIn K mainGlobals "NotInside" = some (some (.ref CNotInside)))
    (nNotSealed : PySem.W.nsIn K mainGlobals "NotSealed" = some (some (.ref CNotSealed)))
    (nUnknownBox : PySem.W.nsIn K mainGlobals "UnknownBox" = some (some (.ref CUnknownBox)))
    (nUnknownHand : PySem.W.nsIn K mainGlobals "UnknownHand" = some (some (.ref CUnknownHand)))
    (nUnknownItem : PySem.W.nsIn K mainGlobals "UnknownItem" = some (some (.ref CUnknownItem)))
    (nUnknownSeal : PySem.W.nsIn K mainGlobals "UnknownSeal" = some (some (.ref CUnknownSeal)))
    (eexUnknownHand : PySem.W.excIn K CUnknownHand [.type "ValueError", .type "Exception", .type "BaseException", .type "object"] "ValueError.__new__" = true)
    (ekpUnknownHand : PySem.W.keepIn K (.ref CUnknownHand) = true)
    (esbUnknownHand : PySem.W.subIn K (.ref CUnknownHand) (.type "BaseException") = some true)
    (etyUnknownHand : PySem.W.typeIn K (.ref CUnknownHand) = some (.type "type"))
    (egaUnknownHand : PySem.W.findIn K (.ref CUnknownHand) "__getattribute__" = some (some (.builtin "BaseException.__getattribute__")))
    (eggUnknownHand : PySem.W.findIn K (.ref CUnknownHand) "__getattr__" = some none)
    (ehdUnknownHand : PySem.W.hasDictIn K CUnknownHand = true)
    (ehaUnknownHand : PySem.W.findIn K (.ref CUnknownHand) "__class__" = some (some (.builtin "object.__class__")))
    (ehmUnknownHand : PySem.W.mroIn K CUnknownHand (.type "object") = some true)
    (enPUnknownHand : PySem.W.findIn K (.ref CUnknownHand) "part" = some none)
    (enIUnknownHand : PySem.W.findIn K (.ref CUnknownHand) "index" = some none)
    (ewsuUnknownHand : PySem.W.subIn K (.ref CUnknownHand) (.ref CT) = some true)
    (ekveUnknownHand : PySem.W.kitOne K (.ref CUnknownHand) (.type "ValueError") = some true)
    (qUnknownHand_InsideItself : PySem.W.kitOne K (.ref CUnknownHand) (.ref CInsideItself) = some false)
    (qUnknownHand_InvalidCourse : PySem.W.kitOne K (.ref CUnknownHand) (.ref CInvalidCourse) = some false)
    (qUnknownHand_InvalidHands : PySem.W.kitOne K (.ref CUnknownHand) (.ref CInvalidHands) = some false)
    (qUnknownHand_InvalidHouse : PySem.W.kitOne K (.ref CUnknownHand) (.ref CE) = some false)
    (qUnknownHand_InvalidLog : PySem.W.kitOne K (.ref CUnknownHand) (.ref CInvalidLog) = some false)
    (qUnknownHand_InvalidNumber : PySem.W.kitOne K (.ref CUnknownHand) (.ref CInvalidNumber) = some false)
    (qUnknownHand_IsSealed : PySem.W.kitOne K (.ref CUnknownHand) (.ref CIsSealed) = some false)
    (qUnknownHand_NoCourse : PySem.W.kitOne K (.ref CUnknownHand) (.ref CNoCourse) = some false)
    (qUnknownHand_NotHeld : PySem.W.kitOne K (.ref CUnknownHand) (.ref CNotHeld) = some false)
    (qUnknownHand_NotInside : PySem.W.kitOne K (.ref CUnknownHand) (.ref CNotInside) = some false)
    (qUnknownHand_NotSealed : PySem.W.kitOne K (.ref CUnknownHand) (.ref CNotSealed) = some false)
    (qUnknownHand_UnknownBox : PySem.W.kitOne K (.ref CUnknownHand) (.ref CUnknownBox) = some false)
    (qUnknownHand_UnknownHand : PySem.W.kitOne K (.ref CUnknownHand) (.ref CUnknownHand) = some true)
    (qUnknownHand_UnknownItem : PySem.W.kitOne K (.ref CUnknownHand) (.ref CUnknownItem) = some false)
    (qUnknownHand_UnknownSeal : PySem.W.kitOne K (.ref CUnknownHand) (.ref CUnknownSeal) = some false)
    (eexUnknownItem : PySem.W.excIn K CUnknownItem [.type "ValueError", .type "Exception", .type "BaseException", .type "object"] "ValueError.__new__" = true)
    (ekpUnknownItem : PySem.W.keepIn K (.ref CUnknownItem) = true)
    (esbUnknownItem : PySem.W.subIn K (.ref CUnknownItem) (.type "BaseException") = some true)
    (etyUnknownItem : PySem.W.typeIn K (.ref CUnknownItem) = some (.type "type"))
    (egaUnknownItem : PySem.W.findIn K (.ref CUnknownItem) "__getattribute__" = some (some (.builtin "BaseException.__getattribute__")))
    (eggUnknownItem : PySem.W.findIn K (.ref CUnknownItem) "__getattr__" = some none)
    (ehdUnknownItem : PySem.W.hasDictIn K CUnknownItem = true)
    (ehaUnknownItem : PySem.W.findIn K (.ref CUnknownItem) "__class__" = some (some (.builtin "object.__class__")))
    (ehmUnknownItem : PySem.W.mroIn K CUnknownItem (.type "object") = some true)
    (enPUnknownItem : PySem.W.findIn K (.ref CUnknownItem) "part" = some none)
    (enIUnknownItem : PySem.W.findIn K (.ref CUnknownItem) "index" = some none)
    (ewsuUnknownItem : PySem.W.subIn K (.ref CUnknownItem) (.ref CT) = some true)
    (ekveUnknownItem : PySem.W.kitOne K (.ref CUnknownItem) (.type "ValueError") = some true)
    (qUnknownItem_InsideItself : PySem.W.kitOne K (.ref CUnknownItem) (.ref CInsideItself) = some false)
    (qUnknownItem_InvalidCourse : PySem.W.kitOne K (.ref CUnknownItem) (.ref CInvalidCourse) = some false)
    (qUnknownItem_InvalidHands : PySem.W.kitOne K (.ref CUnknownItem) (.ref CInvalidHands) = some false)
    (qUnknownItem_InvalidHouse : PySem.W.kitOne K (.ref CUnknownItem) (.ref CE) = some false)
    (qUnknownItem_InvalidLog : PySem.W.kitOne K (.ref CUnknownItem) (.ref CInvalidLog) = some false)
    (qUnknownItem_InvalidNumber : PySem.W.kitOne K (.ref CUnknownItem) (.ref CInvalidNumber) = some false)
    (qUnknownItem_IsSealed : PySem.W.kitOne K (.ref CUnknownItem) (.ref CIsSealed) = some false)
    (qUnknownItem_NoCourse : PySem.W.kitOne K (.ref CUnknownItem) (.ref CNoCourse) = some false)
    (qUnknownItem_NotHeld : PySem.W.kitOne K (.ref CUnknownItem) (.ref CNotHeld) = some false)
    (qUnknownItem_NotInside : PySem.W.kitOne K (.ref CUnknownItem) (.ref CNotInside) = some false)
    (qUnknownItem_NotSealed : PySem.W.kitOne K (.ref CUnknownItem) (.ref CNotSealed) = some false)
    (qUnknownItem_UnknownBox : PySem.W.kitOne K (.ref CUnknownItem) (.ref CUnknownBox) = some false)
    (qUnknownItem_UnknownHand : PySem.W.kitOne K (.ref CUnknownItem) (.ref CUnknownHand) = some false)
    (qUnknownItem_UnknownItem : PySem.W.kitOne K (.ref CUnknownItem) (.ref CUnknownItem) = some true)
    (qUnknownItem_UnknownSeal : PySem.W.kitOne K (.ref CUnknownItem) (.ref CUnknownSeal) = some false)
    (eexUnknownBox : PySem.W.excIn K CUnknownBox [.type "ValueError", .type "Exception", .type "BaseException", .type "object"] "ValueError.__new__" = true)
    (ekpUnknownBox : PySem.W.keepIn K (.ref CUnknownBox) = true)
    (esbUnknownBox : PySem.W.subIn K (.ref CUnknownBox) (.type "BaseException") = some true)
    (etyUnknownBox : PySem.W.typeIn K (.ref CUnknownBox) = some (.type "type"))
    (egaUnknownBox : PySem.W.findIn K (.ref CUnknownBox) "__getattribute__" = some (some (.builtin "BaseException.__getattribute__")))
    (eggUnknownBox : PySem.W.findIn K (.ref CUnknownBox) "__getattr__" = some none)
    (ehdUnknownBox : PySem.W.hasDictIn K CUnknownBox = true)
    (ehaUnknownBox : PySem.W.findIn K (.ref CUnknownBox) "__class__" = some (some (.builtin "object.__class__")))
    (ehmUnknownBox : PySem.W.mroIn K CUnknownBox (.type "object") = some true)
    (enPUnknownBox : PySem.W.findIn K (.ref CUnknownBox) "part" = some none)
    (enIUnknownBox : PySem.W.findIn K (.ref CUnknownBox) "index" = some none)
    (ewsuUnknownBox : PySem.W.subIn K (.ref CUnknownBox) (.ref CT) = some true)
    (ekveUnknownBox : PySem.W.kitOne K (.ref CUnknownBox) (.type "ValueError") = some true)
    (qUnknownBox_InsideItself : PySem.W.kitOne K (.ref CUnknownBox) (.ref CInsideItself) = some false)
    (qUnknownBox_InvalidCourse : PySem.W.kitOne K (.ref CUnknownBox) (.ref CInvalidCourse) = some false)
    (qUnknownBox_InvalidHands : PySem.W.kitOne K (.ref CUnknownBox) (.ref CInvalidHands) = some false)
    (qUnknownBox_InvalidHouse : PySem.W.kitOne K (.ref CUnknownBox) (.ref CE) = some false)
    (qUnknownBox_InvalidLog : PySem.W.kitOne K (.ref CUnknownBox) (.ref CInvalidLog) = some false)
    (qUnknownBox_InvalidNumber : PySem.W.kitOne K (.ref CUnknownBox) (.ref CInvalidNumber) = some false)
    (qUnknownBox_IsSealed : PySem.W.kitOne K (.ref CUnknownBox) (.ref CIsSealed) = some false)
    (qUnknownBox_NoCourse : PySem.W.kitOne K (.ref CUnknownBox) (.ref CNoCourse) = some false)
    (qUnknownBox_NotHeld : PySem.W.kitOne K (.ref CUnknownBox) (.ref CNotHeld) = some false)
    (qUnknownBox_NotInside : PySem.W.kitOne K (.ref CUnknownBox) (.ref CNotInside) = some false)
    (qUnknownBox_NotSealed : PySem.W.kitOne K (.ref CUnknownBox) (.ref CNotSealed) = some false)
    (qUnknownBox_UnknownBox : PySem.W.kitOne K (.ref CUnknownBox) (.ref CUnknownBox) = some true)
    (qUnknownBox_UnknownHand : PySem.W.kitOne K (.ref CUnknownBox) (.ref CUnknownHand) = some false)
    (qUnknownBox_UnknownItem : PySem.W.kitOne K (.ref CUnknownBox) (.ref CUnknownItem) = some false)
    (qUnknownBox_UnknownSeal : PySem.W.kitOne K (.ref CUnknownBox) (.ref CUnknownSeal) = some false)
    (eexUnknownSeal : PySem.W.excIn K CUnknownSeal [.type "ValueError", .type "Exception", .type "BaseException", .type "object"] "ValueError.__new__" = true)
    (ekpUnknownSeal : PySem.W.keepIn K (.ref CUnknownSeal) = true)
    (esbUnknownSeal : PySem.W.subIn K (.ref CUnknownSeal) (.type "BaseException") = some true)
    (etyUnknownSeal : PySem.W.typeIn K (.ref CUnknownSeal) = some (.type "type"))
    (egaUnknownSeal : PySem.W.findIn K (.ref CUnknownSeal) "__getattribute__" = some (some (.builtin "BaseException.__getattribute__")))
    (eggUnknownSeal : PySem.W.findIn K (.ref CUnknownSeal) "__getattr__" = some none)
    (ehdUnknownSeal : PySem.W.hasDictIn K CUnknownSeal = true)
    (ehaUnknownSeal : PySem.W.findIn K (.ref CUnknownSeal) "__class__" = some (some (.builtin "object.__class__")))
    (ehmUnknownSeal : PySem.W.mroIn K CUnknownSeal (.type "object") = some true)
    (enPUnknownSeal : PySem.W.findIn K (.ref CUnknownSeal) "part" = some none)
    (enIUnknownSeal : PySem.W.findIn K (.ref CUnknownSeal) "index" = some none)
    (ewsuUnknownSeal : PySem.W.subIn K (.ref CUnknownSeal) (.ref CT) = some true)
    (ekveUnknownSeal : PySem.W.kitOne K (.ref CUnknownSeal) (.type "ValueError") = some true)
    (qUnknownSeal_InsideItself : PySem.W.kitOne K (.ref CUnknownSeal) (.ref CInsideItself) = some false)
    (qUnknownSeal_InvalidCourse : PySem.W.kitOne K (.ref CUnknownSeal) (.ref CInvalidCourse) = some false)
    (qUnknownSeal_InvalidHands : PySem.W.kitOne K (.ref CUnknownSeal) (.ref CInvalidHands) = some false)
    (qUnknownSeal_InvalidHouse : PySem.W.kitOne K (.ref CUnknownSeal) (.ref CE) = some false)
    (qUnknownSeal_InvalidLog : PySem.W.kitOne K (.ref CUnknownSeal) (.ref CInvalidLog) = some false)
    (qUnknownSeal_InvalidNumber : PySem.W.kitOne K (.ref CUnknownSeal) (.ref CInvalidNumber) = some false)
    (qUnknownSeal_IsSealed : PySem.W.kitOne K (.ref CUnknownSeal) (.ref CIsSealed) = some false)
    (qUnknownSeal_NoCourse : PySem.W.kitOne K (.ref CUnknownSeal) (.ref CNoCourse) = some false)
    (qUnknownSeal_NotHeld : PySem.W.kitOne K (.ref CUnknownSeal) (.ref CNotHeld) = some false)
    (qUnknownSeal_NotInside : PySem.W.kitOne K (.ref CUnknownSeal) (.ref CNotInside) = some false)
    (qUnknownSeal_NotSealed : PySem.W.kitOne K (.ref CUnknownSeal) (.ref CNotSealed) = some false)
    (qUnknownSeal_UnknownBox : PySem.W.kitOne K (.ref CUnknownSeal) (.ref CUnknownBox) = some false)
    (qUnknownSeal_UnknownHand : PySem.W.kitOne K (.ref CUnknownSeal) (.ref CUnknownHand) = some false)
    (qUnknownSeal_UnknownItem : PySem.W.kitOne K (.ref CUnknownSeal) (.ref CUnknownItem) = some false)
    (qUnknownSeal_UnknownSeal : PySem.W.kitOne K (.ref CUnknownSeal) (.ref CUnknownSeal) = some true)
    (eexInsideItself : PySem.W.excIn K CInsideItself [.type "ValueError", .type "Exception", .type "BaseException", .type "object"] "ValueError.__new__" = true)
    (ekpInsideItself : PySem.W.keepIn K (.ref CInsideItself) = true)
    (esbInsideItself : PySem.W.subIn K (.ref CInsideItself) (.type "BaseException") = some true)
    (etyInsideItself : PySem.W.typeIn K (.ref CInsideItself) = some (.type "type"))
    (egaInsideItself : PySem.W.findIn K (.ref CInsideItself) "__getattribute__" = some (some (.builtin "BaseException.__getattribute__")))
    (eggInsideItself : PySem.W.findIn K (.ref CInsideItself) "__getattr__" = some none)
    (ehdInsideItself : PySem.W.hasDictIn K CInsideItself = true)
    (ehaInsideItself : PySem.W.findIn K (.ref CInsideItself) "__class__" = some (some (.builtin "object.__class__")))
    (ehmInsideItself : PySem.W.mroIn K CInsideItself (.type "object") = some true)
    (enPInsideItself : PySem.W.findIn K (.ref CInsideItself) "part" = some none)
    (enIInsideItself : PySem.W.findIn K (.ref CInsideItself) "index" = some none)
    (ewsuInsideItself : PySem.W.subIn K (.ref CInsideItself) (.ref CT) = some true)
    (ekveInsideItself : PySem.W.kitOne K (.ref CInsideItself) (.type "ValueError") = some true)
    (qInsideItself_InsideItself : PySem.W.kitOne K (.ref CInsideItself) (.ref CInsideItself) = some true)
    (qInsideItself_InvalidCourse : PySem.W.kitOne K (.ref CInsideItself) (.ref CInvalidCourse) = some false)
    (qInsideItself_InvalidHands : PySem.W.kitOne K (.ref CInsideItself) (.ref CInvalidHands) = some false)
    (qInsideItself_InvalidHouse : PySem.W.kitOne K (.ref CInsideItself) (.ref CE) = some false)
    (qInsideItself_InvalidLog : PySem.W.kitOne K (.ref CInsideItself) (.ref CInvalidLog) = some false)
    (qInsideItself_InvalidNumber : PySem.W.kitOne K (.ref CInsideItself) (.ref CInvalidNumber) = some false)
    (qInsideItself_IsSealed : PySem.W.kitOne K (.ref CInsideItself) (.ref CIsSealed) = some false)
    (qInsideItself_NoCourse : PySem.W.kitOne K (.ref CInsideItself) (.ref CNoCourse) = some false)
    (qInsideItself_NotHeld : PySem.W.kitOne K (.ref CInsideItself) (.ref CNotHeld) = some false)
    (qInsideItself_NotInside : PySem.W.kitOne K (.ref CInsideItself) (.ref CNotInside) = some false)
    (qInsideItself_NotSealed : PySem.W.kitOne K (.ref CInsideItself) (.ref CNotSealed) = some false)
    (qInsideItself_UnknownBox : PySem.W.kitOne K (.ref CInsideItself) (.ref CUnknownBox) = some false)
    (qInsideItself_UnknownHand : PySem.W.kitOne K (.ref CInsideItself) (.ref CUnknownHand) = some false)
    (qInsideItself_UnknownItem : PySem.W.kitOne K (.ref CInsideItself) (.ref CUnknownItem) = some false)
    (qInsideItself_UnknownSeal : PySem.W.kitOne K (.ref CInsideItself) (.ref CUnknownSeal) = some false)
    (eexNotHeld : PySem.W.excIn K CNotHeld [.type "ValueError", .type "Exception", .type "BaseException", .type "object"] "ValueError.__new__" = true)
    (ekpNotHeld : PySem.W.keepIn K (.ref CNotHeld) = true)
    (esbNotHeld : PySem.W.subIn K (.ref CNotHeld) (.type "BaseException") = some true)
    (etyNotHeld : PySem.W.typeIn K (.ref CNotHeld) = some (.type "type"))
    (egaNotHeld : PySem.W.findIn K (.ref CNotHeld) "__getattribute__" = some (some (.builtin "BaseException.__getattribute__")))
    (eggNotHeld : PySem.W.findIn K (.ref CNotHeld) "__getattr__" = some none)
    (ehdNotHeld : PySem.W.hasDictIn K CNotHeld = true)
    (ehaNotHeld : PySem.W.findIn K (.ref CNotHeld) "__class__" = some (some (.builtin "object.__class__")))
    (ehmNotHeld : PySem.W.mroIn K CNotHeld (.type "object") = some true)
    (enPNotHeld : PySem.W.findIn K (.ref CNotHeld) "part" = some none)
    (enINotHeld : PySem.W.findIn K (.ref CNotHeld) "index" = some none)
    (ewsuNotHeld : PySem.W.subIn K (.ref CNotHeld) (.ref CT) = some true)
    (ekveNotHeld : PySem.W.kitOne K (.ref CNotHeld) (.type "ValueError") = some true)
    (qNotHeld_InsideItself : PySem.W.kitOne K (.ref CNotHeld) (.ref CInsideItself) = some false)
    (qNotHeld_InvalidCourse : PySem.W.kitOne K (.ref CNotHeld) (.ref CInvalidCourse) = some false)
    (qNotHeld_InvalidHands : PySem.W.kitOne K (.ref CNotHeld) (.ref CInvalidHands) = some false)
    (qNotHeld_InvalidHouse : PySem.W.kitOne K (.ref CNotHeld) (.ref CE) = some false)
    (qNotHeld_InvalidLog : PySem.W.kitOne K (.ref CNotHeld) (.ref CInvalidLog) = some false)
    (qNotHeld_InvalidNumber : PySem.W.kitOne K (.ref CNotHeld) (.ref CInvalidNumber) = some false)
    (qNotHeld_IsSealed : PySem.W.kitOne K (.ref CNotHeld) (.ref CIsSealed) = some false)
    (qNotHeld_NoCourse : PySem.W.kitOne K (.ref CNotHeld) (.ref CNoCourse) = some false)
    (qNotHeld_NotHeld : PySem.W.kitOne K (.ref CNotHeld) (.ref CNotHeld) = some true)
    (qNotHeld_NotInside : PySem.W.kitOne K (.ref CNotHeld) (.ref CNotInside) = some false)
    (qNotHeld_NotSealed : PySem.W.kitOne K (.ref CNotHeld) (.ref CNotSealed) = some false)
    (qNotHeld_UnknownBox : PySem.W.kitOne K (.ref CNotHeld) (.ref CUnknownBox) = some false)
    (qNotHeld_UnknownHand : PySem.W.kitOne K (.ref CNotHeld) (.ref CUnknownHand) = some false)
    (qNotHeld_UnknownItem : PySem.W.kitOne K (.ref CNotHeld) (.ref CUnknownItem) = some false)
    (qNotHeld_UnknownSeal : PySem.W.kitOne K (.ref CNotHeld) (.ref CUnknownSeal) = some false)
    (eexNotSealed : PySem.W.excIn K CNotSealed [.type "ValueError", .type "Exception", .type "BaseException", .type "object"] "ValueError.__new__" = true)
    (ekpNotSealed : PySem.W.keepIn K (.ref CNotSealed) = true)
    (esbNotSealed : PySem.W.subIn K (.ref CNotSealed) (.type "BaseException") = some true)
    (etyNotSealed : PySem.W.typeIn K (.ref CNotSealed) = some (.type "type"))
    (egaNotSealed : PySem.W.findIn K (.ref CNotSealed) "__getattribute__" = some (some (.builtin "BaseException.__getattribute__")))
    (eggNotSealed : PySem.W.findIn K (.ref CNotSealed) "__getattr__" = some none)
    (ehdNotSealed : PySem.W.hasDictIn K CNotSealed = true)
    (ehaNotSealed : PySem.W.findIn K (.ref CNotSealed) "__class__" = some (some (.builtin "object.__class__")))
    (ehmNotSealed : PySem.W.mroIn K CNotSealed (.type "object") = some true)
    (enPNotSealed : PySem.W.findIn K (.ref CNotSealed) "part" = some none)
    (enINotSealed : PySem.W.findIn K (.ref CNotSealed) "index" = some none)
    (ewsuNotSealed : PySem.W.subIn K (.ref CNotSealed) (.ref CT) = some true)
    (ekveNotSealed : PySem.W.kitOne K (.ref CNotSealed) (.type "ValueError") = some true)
    (qNotSealed_InsideItself : PySem.W.kitOne K (.ref CNotSealed) (.ref CInsideItself) = some false)
    (qNotSealed_InvalidCourse : PySem.W.kitOne K (.ref CNotSealed) (.ref CInvalidCourse) = some false)
    (qNotSealed_InvalidHands : PySem.W.kitOne K (.ref CNotSealed) (.ref CInvalidHands) = some false)
    (qNotSealed_InvalidHouse : PySem.W.kitOne K (.ref CNotSealed) (.ref CE) = some false)
    (qNotSealed_InvalidLog : PySem.W.kitOne K (.ref CNotSealed) (.ref CInvalidLog) = some false)
    (qNotSealed_InvalidNumber : PySem.W.kitOne K (.ref CNotSealed) (.ref CInvalidNumber) = some false)
    (qNotSealed_IsSealed : PySem.W.kitOne K (.ref CNotSealed) (.ref CIsSealed) = some false)
    (qNotSealed_NoCourse : PySem.W.kitOne K (.ref CNotSealed) (.ref CNoCourse) = some false)
    (qNotSealed_NotHeld : PySem.W.kitOne K (.ref CNotSealed) (.ref CNotHeld) = some false)
    (qNotSealed_NotInside : PySem.W.kitOne K (.ref CNotSealed) (.ref CNotInside) = some false)
    (qNotSealed_NotSealed : PySem.W.kitOne K (.ref CNotSealed) (.ref CNotSealed) = some true)
    (qNotSealed_UnknownBox : PySem.W.kitOne K (.ref CNotSealed) (.ref CUnknownBox) = some false)
    (qNotSealed_UnknownHand : PySem.W.kitOne K (.ref CNotSealed) (.ref CUnknownHand) = some false)
    (qNotSealed_UnknownItem : PySem.W.kitOne K (.ref CNotSealed) (.ref CUnknownItem) = some false)
    (qNotSealed_UnknownSeal : PySem.W.kitOne K (.ref CNotSealed) (.ref CUnknownSeal) = some false)
    (eexIsSealed : PySem.W.excIn K CIsSealed [.type "ValueError", .type "Exception", .type "BaseException", .type "object"] "ValueError.__new__" = true)
    (ekpIsSealed : PySem.W.keepIn K (.ref CIsSealed) = true)
    (esbIsSealed : PySem.W.subIn K (.ref CIsSealed) (.type "BaseException") = some true)
    (etyIsSealed : PySem.W.typeIn K (.ref CIsSealed) = some (.type "type"))
    (egaIsSealed : PySem.W.findIn K (.ref CIsSealed) "__getattribute__" = some (some (.builtin "BaseException.__getattribute__")))
    (eggIsSealed : PySem.W.findIn K (.ref CIsSealed) "__getattr__" = some none)
    (ehdIsSealed : PySem.W.hasDictIn K CIsSealed = true)
    (ehaIsSealed : PySem.W.findIn K (.ref CIsSealed) "__class__" = some (some (.builtin "object.__class__")))
    (ehmIsSealed : PySem.W.mroIn K CIsSealed (.type "object") = some true)
    (enPIsSealed : PySem.W.findIn K (.ref CIsSealed) "part" = some none)
    (enIIsSealed : PySem.W.findIn K (.ref CIsSealed) "index" = some none)
    (ewsuIsSealed : PySem.W.subIn K (.ref CIsSealed) (.ref CT) = some true)
    (ekveIsSealed : PySem.W.kitOne K (.ref CIsSealed) (.type "ValueError") = some true)
    (qIsSealed_InsideItself : PySem.W.kitOne K (.ref CIsSealed) (.ref CInsideItself) = some false)
    (qIsSealed_InvalidCourse : PySem.W.kitOne K (.ref CIsSealed) (.ref CInvalidCourse) = some false)
    (qIsSealed_InvalidHands : PySem.W.kitOne K (.ref CIsSealed) (.ref CInvalidHands) = some false)
    (qIsSealed_InvalidHouse : PySem.W.kitOne K (.ref CIsSealed) (.ref CE) = some false)
    (qIsSealed_InvalidLog : PySem.W.kitOne K (.ref CIsSealed) (.ref CInvalidLog) = some false)
    (qIsSealed_InvalidNumber : PySem.W.kitOne K (.ref CIsSealed) (.ref CInvalidNumber) = some false)
    (qIsSealed_IsSealed : PySem.W.kitOne K (.ref CIsSealed) (.ref CIsSealed) = some true)
    (qIsSealed_NoCourse : PySem.W.kitOne K (.ref CIsSealed) (.ref CNoCourse) = some false)
    (qIsSealed_NotHeld : PySem.W.kitOne K (.ref CIsSealed) (.ref CNotHeld) = some false)
    (qIsSealed_NotInside : PySem.W.kitOne K (.ref CIsSealed) (.ref CNotInside) = some false)
    (qIsSealed_NotSealed : PySem.W.kitOne K (.ref CIsSealed) (.ref CNotSealed) = some false)
    (qIsSealed_UnknownBox : PySem.W.kitOne K (.ref CIsSealed) (.ref CUnknownBox) = some false)
    (qIsSealed_UnknownHand : PySem.W.kitOne K (.ref CIsSealed) (.ref CUnknownHand) = some false)
    (qIsSealed_UnknownItem : PySem.W.kitOne K (.ref CIsSealed) (.ref CUnknownItem) = some false)
    (qIsSealed_UnknownSeal : PySem.W.kitOne K (.ref CIsSealed) (.ref CUnknownSeal) = some false)
    (eexNotInside : PySem.W.excIn K CNotInside [.type "ValueError", .type "Exception", .type "BaseException", .type "object"] "ValueError.__new__" = true)
    (ekpNotInside : PySem.W.keepIn K (.ref CNotInside) = true)
    (esbNotInside : PySem.W.subIn K (.ref CNotInside) (.type "BaseException") = some true)
    (etyNotInside : PySem.W.typeIn K (.ref CNotInside) = some (.type "type"))
    (egaNotInside : PySem.W.findIn K (.ref CNotInside) "__getattribute__" = some (some (.builtin "BaseException.__getattribute__")))
    (eggNotInside : PySem.W.findIn K (.ref CNotInside) "__getattr__" = some none)
    (ehdNotInside : PySem.W.hasDictIn K CNotInside = true)
    (ehaNotInside : PySem.W.findIn K (.ref CNotInside) "__class__" = some (some (.builtin "object.__class__")))
    (ehmNotInside : PySem.W.mroIn K CNotInside (.type "object") = some true)
    (enPNotInside : PySem.W.findIn K (.ref CNotInside) "part" = some none)
    (enINotInside : PySem.W.findIn K (.ref CNotInside) "index" = some none)
    (ewsuNotInside : PySem.W.subIn K (.ref CNotInside) (.ref CT) = some true)
    (ekveNotInside : PySem.W.kitOne K (.ref CNotInside) (.type "ValueError") = some true)
    (qNotInside_InsideItself : PySem.W.kitOne K (.ref CNotInside) (.ref CInsideItself) = some false)
    (qNotInside_InvalidCourse : PySem.W.kitOne K (.ref CNotInside) (.ref CInvalidCourse) = some false)
    (qNotInside_InvalidHands : PySem.W.kitOne K (.ref CNotInside) (.ref CInvalidHands) = some false)
    (qNotInside_InvalidHouse : PySem.W.kitOne K (.ref CNotInside) (.ref CE) = some false)
    (qNotInside_InvalidLog : PySem.W.kitOne K (.ref CNotInside) (.ref CInvalidLog) = some false)
    (qNotInside_InvalidNumber : PySem.W.kitOne K (.ref CNotInside) (.ref CInvalidNumber) = some false)
    (qNotInside_IsSealed : PySem.W.kitOne K (.ref CNotInside) (.ref CIsSealed) = some false)
    (qNotInside_NoCourse : PySem.W.kitOne K (.ref CNotInside) (.ref CNoCourse) = some false)
    (qNotInside_NotHeld : PySem.W.kitOne K (.ref CNotInside) (.ref CNotHeld) = some false)
    (qNotInside_NotInside : PySem.W.kitOne K (.ref CNotInside) (.ref CNotInside) = some true)
    (qNotInside_NotSealed : PySem.W.kitOne K (.ref CNotInside) (.ref CNotSealed) = some false)
    (qNotInside_UnknownBox : PySem.W.kitOne K (.ref CNotInside) (.ref CUnknownBox) = some false)
    (qNotInside_UnknownHand : PySem.W.kitOne K (.ref CNotInside) (.ref CUnknownHand) = some false)
    (qNotInside_UnknownItem : PySem.W.kitOne K (.ref CNotInside) (.ref CUnknownItem) = some false)
    (qNotInside_UnknownSeal : PySem.W.kitOne K (.ref CNotInside) (.ref CUnknownSeal) = some false)
    (zisinstance : PySem.W.nsIn K mainGlobals "isinstance" = some none)
    (zint : PySem.W.nsIn K mainGlobals "int" = some none)
    (zbool : PySem.W.nsIn K mainGlobals "bool" = some none)
    (zlen : PySem.W.nsIn K mainGlobals "len" = some none)
    (zenumerate : PySem.W.nsIn K mainGlobals "enumerate" = some none)
    (ztuple : PySem.W.nsIn K mainGlobals "tuple" = some none)
    (zlist : PySem.W.nsIn K mainGlobals "list" = some none)
    (zrange : PySem.W.nsIn K mainGlobals "range" = some none)
    (zstr : PySem.W.nsIn K mainGlobals "str" = some none)
    (zValueError : PySem.W.nsIn K mainGlobals "ValueError" = some none)
    (zsuper : PySem.W.nsIn K mainGlobals "super" = some none)
    (zsorted : PySem.W.nsIn K mainGlobals "sorted" = some none)
    (zmax : PySem.W.nsIn K mainGlobals "max" = some none)
    (jh : PySem.W.nsIn K mainGlobals "MOST_HANDS" = some (some (.int 4 th)))
    (jb : PySem.W.nsIn K mainGlobals "MOST_BOXES" = some (some (.int 3 tbx)))
    (jt : PySem.W.nsIn K mainGlobals "MOST_THINGS" = some (some (.int 4 tth)))
    (js : PySem.W.nsIn K mainGlobals "MOST_SEALS" = some (some (.int 3 ts)))
    (pA : PySem.W.nsIn K mainGlobals "PARTS" = some (some (.ref aP)))
    (pL : K.lookup aP = some ⟨.type "dict", none, .dict esP nP_, #[]⟩)
    (pK : PySem.W.KeysLit w.params esP.toList)
    (p0 : PySem.W.nsIn K aP "box" = some (some (.int 0 tp0)))
    (p1 : PySem.W.nsIn K aP "thing" = some (some (.int 1 tp1)))
    (p2 : PySem.W.nsIn K aP "seal" = some (some (.int 2 tp2)))
    (hcd : PySem.W.codeHdIn K cd tb = true)
    (ntb : K.lookup tb = none)
    (hT : h.get? tb = some { cls := .none, data := .fields #[] }) : LamX.LawAtS l w K CX0 9 63 "_law_script" mg fa h := by
  have e := hfa.symm.trans (PySem.W.mg_of X G aL)
  cases e
  have B : Bt mg := ⟨PySem.W.mg_none_of X G zisinstance, PySem.W.mg_none_of X G zint, PySem.W.mg_none_of X G zbool, PySem.W.mg_none_of X G zlen, PySem.W.mg_none_of X G zenumerate, PySem.W.mg_none_of X G ztuple, PySem.W.mg_none_of X G zlist, PySem.W.mg_none_of X G zrange, PySem.W.mg_none_of X G zstr⟩
  have Z : Cs mg := ⟨⟨_, PySem.W.mg_of X G jh⟩, ⟨_, PySem.W.mg_of X G jb⟩, ⟨_, PySem.W.mg_of X G jt⟩, ⟨_, PySem.W.mg_of X G js⟩⟩
  have cl : Cls K C := ⟨hpg, hhd, hpo, hsa⟩
  have hc : HouseC K C := ⟨cl, nH, nB, nT, nS, nSt⟩
  have hi : HouseI K C := ⟨hha, chn, cht, hhm, hkk⟩
  have wc : WorldC K CW := ⟨⟨vpg, vhd, vpo, vsa⟩, wnH, wnS⟩
  have wi : HouseI K CW := ⟨vha, chn, cht, vhm, vkk⟩
  have gC := PySem.W.mg_of X G aC
  have gW := PySem.W.mg_of X G aCW
  have gCE := PySem.W.mg_of X G aCE
  have Fis_number := fun_mk (st := sNum) lm0 cm0 km0
  have bis_number := Fis_number.binds (ps := ["value", "limit"]) fun _ _ _ _ _ _ us hl => match us, hl with | [_, _], _ => rfl
  have gis_number := PySem.W.mg_of X G am0
  have Fhow_many := fun_mk (st := sMany) lm1 cm1 km1
  have bhow_many := Fhow_many.binds (ps := ["house", "word"]) fun _ _ _ _ _ _ us hl => match us, hl with | [_, _], _ => rfl
  have ghow_many := PySem.W.mg_of X G am1
  have Fis_place := fun_mk (st := sIsPl) lm2 cm2 km2
  have bis_place := Fis_place.binds (ps := ["place", "hands", "boxes"]) fun _ _ _ _ _ _ us hl => match us, hl with | [_, _, _], _ => rfl
  have gis_place := PySem.W.mg_of X G am2
  have Fneed_boxes := fun_mk (st := sBoxes) lm3 cm3 km3
  have bneed_boxes := Fneed_boxes.binds (ps := ["hands", "boxes"]) fun _ _ _ _ _ _ us hl => match us, hl with | [_, _], _ => rfl
  have gneed_boxes := PySem.W.mg_of X G am3
  have Fneed_house := fun_mk (st := sNeed) lm4 cm4 km4
  have bneed_house := Fneed_house.binds (ps := ["hands", "boxes", "things", "seals"]) fun _ _ _ _ _ _ us hl => match us, hl with | [_, _, _, _], _ => rfl
  have gneed_house := PySem.W.mg_of X G am4
  have F_law_begun := fun_mk (st := sBegun) lm5 cm5 km5
  have b_law_begun := F_law_begun.binds (ps := ["_law_script"]) fun _ _ _ _ _ _ us hl => match us, hl with | [_], _ => rfl
  have g_law_begun := PySem.W.mg_of X G am5
  have F_law_take := fun_mk (st := sTake) lm6 cm6 km6
  have b_law_take := F_law_take.binds (ps := ["_law_box", "_law_many"]) fun _ _ _ _ _ _ us hl => match us, hl with | [_, _], _ => rfl
  have g_law_take := PySem.W.mg_of X G am6
  have F_law_alike := fun_mk (st := sAlike) lm7 cm7 km7
  have b_law_alike := F_law_alike.binds (ps := ["_law_found", "_law_due"]) fun _ _ _ _ _ _ us hl => match us, hl with | [_, _], _ => rfl
  have g_law_alike := PySem.W.mg_of X G am7
  have F_law_places := fun_mk (st := sPlaces) lm8 cm8 km8
  have b_law_places := F_law_places.binds (ps := ["_law_box", "_law_hands", "_law_many"]) fun _ _ _ _ _ _ us hl => match us, hl with | [_, _, _], _ => rfl
  have g_law_places := PySem.W.mg_of X G am8
  have F_law_house := fun_mk (st := sHouse) lm9 cm9 km9
  have b_law_house := F_law_house.binds (ps := ["_law_box", "_law_sizes"]) fun _ _ _ _ _ _ us hl => match us, hl with | [_, _], _ => rfl
  have g_law_house := PySem.W.mg_of X G am9
  have F_law_error := fun_mk (st := sErr) lm10 cm10 km10
  have b_law_error := F_law_error.binds (ps := ["_law_work"]) fun _ _ _ _ _ _ us hl => match us, hl with | [_], _ => rfl
  have g_law_error := PySem.W.mg_of X G am10
  have F_law_where := fun_mk (st := sWhere) lm11 cm11 km11
  have b_law_where := F_law_where.binds (ps := ["_law_state", "_law_item"]) fun _ _ _ _ _ _ us hl => match us, hl with | [_, _], _ => rfl
  have g_law_where := PySem.W.mg_of X G am11
  have F_law_set := fun_mk (st := sSet) lm12 cm12 km12
  have b_law_set := F_law_set.binds (ps := ["_law_state", "_law_item", "_law_place"]) fun _ _ _ _ _ _ us hl => match us, hl with | [_, _, _], _ => rfl
  have g_law_set := PySem.W.mg_of X G am12
  have F_law_bar := fun_mk (st := sBar) lm13 cm13 km13
  have b_law_bar := F_law_bar.binds (ps := ["_law_state", "_law_deed"]) fun _ _ _ _ _ _ us hl => match us, hl with | [_, _], _ => rfl
  have g_law_bar := PySem.W.mg_of X G am13
  have F_law_next := fun_mk (st := sNext) lm14 cm14 km14
  have b_law_next := F_law_next.binds (ps := ["_law_state", "_law_deed"]) fun _ _ _ _ _ _ us hl => match us, hl with | [_, _], _ => rfl
  have g_law_next := PySem.W.mg_of X G am14
  have F_law_deeds := fun_mk (st := sDeeds) lm15 cm15 km15
  have b_law_deeds := F_law_deeds.binds (ps := ["_law_state", "_law_hands"]) fun _ _ _ _ _ _ us hl => match us, hl with | [_, _], _ => rfl
  have g_law_deeds := PySem.W.mg_of X G am15
  have F_law_drawn := fun_mk (st := sDrawn) lm16 cm16 km16
  have b_law_drawn := F_law_drawn.binds (ps := ["_law_box", "_law_house_here"]) fun _ _ _ _ _ _ us hl => match us, hl with | [_, _], _ => rfl
  have g_law_drawn := PySem.W.mg_of X G am16
  have F_law_unknown := fun_mk (st := sUnk) lm17 cm17 km17
  have b_law_unknown := F_law_unknown.binds (ps := ["_law_house_here", "_law_deed"]) fun _ _ _ _ _ _ us hl => match us, hl with | [_, _], _ => rfl
  have g_law_unknown := PySem.W.mg_of X G am17
  have Fneed_hand := fun_mk (st := sNHand) lm18 cm18 km18
  have bneed_hand := Fneed_hand.binds (ps := ["house", "hand"]) fun _ _ _ _ _ _ us hl => match us, hl with | [_, _], _ => rfl
  have gneed_hand := PySem.W.mg_of X G am18
  have Fneed_item := fun_mk (st := sNItem) lm19 cm19 km19
  have bneed_item := Fneed_item.binds (ps := ["house", "item"]) fun _ _ _ _ _ _ us hl => match us, hl with | [_, _], _ => rfl
  have gneed_item := PySem.W.mg_of X G am19
  have Fneed_load := fun_mk (st := sNLoad) lm20 cm20 km20
  have bneed_load := Fneed_load.binds (ps := ["house", "item"]) fun _ _ _ _ _ _ us hl => match us, hl with | [_, _], _ => rfl
  have gneed_load := PySem.W.mg_of X G am20
  have Fneed_box := fun_mk (st := sNBox) lm21 cm21 km21
  have bneed_box := Fneed_box.binds (ps := ["house", "box"]) fun _ _ _ _ _ _ us hl => match us, hl with | [_, _], _ => rfl
  have gneed_box := PySem.W.mg_of X G am21
  have Fneed_seal := fun_mk (st := sNSeal) lm22 cm22 km22
  have bneed_seal := Fneed_seal.binds (ps := ["house", "seal"]) fun _ _ _ _ _ _ us hl => match us, hl with | [_, _], _ => rfl
  have gneed_seal := PySem.W.mg_of X G am22
  have Fplace_in := fun_mk (st := sPlace) lm23 cm23 km23
  have bplace_in := Fplace_in.binds (ps := ["state", "item"]) fun _ _ _ _ _ _ us hl => match us, hl with | [_, _], _ => rfl
  have gplace_in := PySem.W.mg_of X G am23
  have Fwith_place := fun_mk (st := sWith) lm24 cm24 km24
  have bwith_place := Fwith_place.binds (ps := ["state", "item", "place"]) fun _ _ _ _ _ _ us hl => match us, hl with | [_, _, _], _ => rfl
  have gwith_place := PySem.W.mg_of X G am24
  have Fseal_on := fun_mk (st := sOn) lm25 cm25 km25
  have bseal_on := Fseal_on.binds (ps := ["state", "box"]) fun _ _ _ _ _ _ us hl => match us, hl with | [_, _], _ => rfl
  have gseal_on := PySem.W.mg_of X G am25
  have Fneed_deed := fun_mk (st := sNDeed) lm26 cm26 km26
  have bneed_deed := Fneed_deed.binds (ps := ["house", "deed"]) fun _ _ _ _ _ _ us hl => match us, hl with | [_, _], _ => rfl
  have gneed_deed := PySem.W.mg_of X G am26
  have Fneed_move := fun_mk (st := sNMove) lm27 cm27 km27
  have bneed_move := Fneed_move.binds (ps := ["house", "item", "box"]) fun _ _ _ _ _ _ us hl => match us, hl with | [_, _, _], _ => rfl
  have gneed_move := PySem.W.mg_of X G am27
  have Fstate_behind := fun_mk (st := sBehind) lm28 cm28 km28
  have bstate_behind := Fstate_behind.binds (ps := ["state", "deed"]) fun _ _ _ _ _ _ us hl => match us, hl with | [_, _], _ => rfl
  have gstate_behind := PySem.W.mg_of X G am28
  have Fstate_behind_break := fun_mk (st := sBreak) lm29 cm29 km29
  have bstate_behind_break := Fstate_behind_break.binds (ps := ["state", "hand", "box"]) fun _ _ _ _ _ _ us hl => match us, hl with | [_, _, _], _ => rfl
  have gstate_behind_break := PySem.W.mg_of X G am29
  have Fneed_held := fun_mk (st := sHeld) lm30 cm30 km30
  have bneed_held := Fneed_held.binds (ps := ["state", "hand", "item"]) fun _ _ _ _ _ _ us hl => match us, hl with | [_, _, _], _ => rfl
  have gneed_held := PySem.W.mg_of X G am30
  have Fneed_bare := fun_mk (st := sBare) lm31 cm31 km31
  have bneed_bare := Fneed_bare.binds (ps := ["state", "hand", "box"]) fun _ _ _ _ _ _ us hl => match us, hl with | [_, _, _], _ => rfl
  have gneed_bare := PySem.W.mg_of X G am31
  have Ft0 := fun_mk (st := sInit) lt0 ct0 kt0
  have bt0 := Ft0.binds (ps := ["self", "hands", "boxes", "things", "seals"]) fun _ _ _ _ _ _ us hl => match us, hl with | [_, _, _, _, _], _ => rfl
  have Ft1 := fun_mk (st := sHas) lt1 ct1 kt1
  have bt1 := Ft1.binds (ps := ["self", "item"]) fun _ _ _ _ _ _ us hl => match us, hl with | [_, _], _ => rfl
  have Ft2 := fun_mk (st := sEqH) lt2 ct2 kt2
  have bt2 := Ft2.binds (ps := ["self", "other"]) fun _ _ _ _ _ _ us hl => match us, hl with | [_, _], _ => rfl
  have Ft3 := fun_mk (st := sWInit) lt3 ct3 kt3
  have bt3 := Ft3.binds (ps := ["self", "house"]) fun _ _ _ _ _ _ us hl => match us, hl with | [_, _], _ => rfl
  have Ft4 := fun_mk (st := sWCall) lt4 ct4 kt4
  have bt4 := Ft4.binds (ps := ["self", "deed"]) fun _ _ _ _ _ _ us hl => match us, hl with | [_, _], _ => rfl
  have Ft5 := fun_mk (st := sWEq) lt5 ct5 kt5
  have bt5 := Ft5.binds (ps := ["self", "other"]) fun _ _ _ _ _ _ us hl => match us, hl with | [_, _], _ => rfl
  have Ft6 := fun_mk (st := sWCh) lt6 ct6 kt6
  have bt6 := Ft6.binds (ps := ["self", "state"]) fun _ _ _ _ _ _ us hl => match us, hl with | [_, _], _ => rfl
  have M : Mk K C ft0 := ⟨hmk, at0, i0, hkc⟩
  have MW : Mk K CW ft3 := ⟨vmk, at3, i3, vkc⟩
  have oex : OexC K CE := ⟨⟨nm, q, N, bs, bm, sn, sub, ab, col, ddE, g0, g1, g2, g3, g5, xL, xv⟩, xsa, xex, xty, xkc⟩
  have sup : SupC l.prog K mg CE := ⟨oex, ⟨nm, q, N, bs, bm, sn, sub, ab, col, ddE, g0, g1, g2, g3, g5, xL, xv, xa⟩, xtp, PySem.W.mg_none_of X G zsuper, xve, xse, xtop⟩
  have bIH : Binds K (PySem.W.ksFn "__init__" "InvalidHouse.__init__" (defArgs sIH) (defBody sIH) (defScope sIH) .none kVI dcI pmI anI (.ref cda) ctI cc) (["self", "part", "index"] : List Str) [] := Binds.all fun us hl => match us, hl with | [_, _, _], _ => rfl
  have T : ExcI l.prog K mg "InvalidHouse" "InvalidHouse.__init__" sIH CE fI (PySem.W.ksFn "__init__" "InvalidHouse.__init__" (defArgs sIH) (defBody sIH) (defScope sIH) .none kVI dcI pmI anI (.ref cda) ctI cc) :=
    ⟨sup, xi, xit, gCE, ⟨ocI, odI, kVI, dcI, pmI, anI, ctI, slI, cc, cda, rfl, xil, xic, ⟨ccl, cdd, vsC, ccs, fileS, tf, xcl, xcf, xff⟩, ⟨_, cld, csl, xcc⟩⟩, bIH⟩
  have JUnknownHand : ErrJ K mg CUnknownHand CT 12 := ⟨⟨egaUnknownHand, eggUnknownHand, esbUnknownHand, ehdUnknownHand, ehaUnknownHand, chn, cht, ehmUnknownHand⟩, ⟨egaUnknownHand, eggUnknownHand, esbUnknownHand, ehdUnknownHand⟩, enPUnknownHand, enIUnknownHand, PySem.W.mg_of X G aCT, PySem.W.exm_ref wbe wcl wty ewsuUnknownHand, PySem.W.mg_none_of X G zValueError, ekveUnknownHand, ⟨_, PySem.W.mg_of X G nInsideItself, qUnknownHand_InsideItself⟩, ⟨_, PySem.W.mg_of X G nInvalidCourse, qUnknownHand_InvalidCourse⟩, ⟨_, PySem.W.mg_of X G nInvalidHands, qUnknownHand_InvalidHands⟩, ⟨_, gCE, qUnknownHand_InvalidHouse⟩, ⟨_, PySem.W.mg_of X G nInvalidLog, qUnknownHand_InvalidLog⟩, ⟨_, PySem.W.mg_of X G nInvalidNumber, qUnknownHand_InvalidNumber⟩, ⟨_, PySem.W.mg_of X G nIsSealed, qUnknownHand_IsSealed⟩, ⟨_, PySem.W.mg_of X G nNoCourse, qUnknownHand_NoCourse⟩, ⟨_, PySem.W.mg_of X G nNotHeld, qUnknownHand_NotHeld⟩, ⟨_, PySem.W.mg_of X G nNotInside, qUnknownHand_NotInside⟩, ⟨_, PySem.W.mg_of X G nNotSealed, qUnknownHand_NotSealed⟩, ⟨_, PySem.W.mg_of X G nUnknownBox, qUnknownHand_UnknownBox⟩, ⟨_, PySem.W.mg_of X G nUnknownHand, qUnknownHand_UnknownHand⟩, ⟨_, PySem.W.mg_of X G nUnknownItem, qUnknownHand_UnknownItem⟩, ⟨_, PySem.W.mg_of X G nUnknownSeal, qUnknownHand_UnknownSeal⟩⟩
  have JUnknownItem : ErrJ K mg CUnknownItem CT 13 := ⟨⟨egaUnknownItem, eggUnknownItem, esbUnknownItem, ehdUnknownItem, ehaUnknownItem, chn, cht, ehmUnknownItem⟩, ⟨egaUnknownItem, eggUnknownItem, esbUnknownItem, ehdUnknownItem⟩, enPUnknownItem, enIUnknownItem, PySem.W.mg_of X G aCT, PySem.W.exm_ref wbe wcl wty ewsuUnknownItem, PySem.W.mg_none_of X G zValueError, ekveUnknownItem, ⟨_, PySem.W.mg_of X G nInsideItself, qUnknownItem_InsideItself⟩, ⟨_, PySem.W.mg_of X G nInvalidCourse, qUnknownItem_InvalidCourse⟩, ⟨_, PySem.W.mg_of X G nInvalidHands, qUnknownItem_InvalidHands⟩, ⟨_, gCE, qUnknownItem_InvalidHouse⟩, ⟨_, PySem.W.mg_of X G nInvalidLog, qUnknownItem_InvalidLog⟩, ⟨_, PySem.W.mg_of X G nInvalidNumber, qUnknownItem_InvalidNumber⟩, ⟨_, PySem.W.mg_of X G nIsSealed, qUnknownItem_IsSealed⟩, ⟨_, PySem.W.mg_of X G nNoCourse, qUnknownItem_NoCourse⟩, ⟨_, PySem.W.mg_of X G nNotHeld, qUnknownItem_NotHeld⟩, ⟨_, PySem.W.mg_of X G nNotInside, qUnknownItem_NotInside⟩, ⟨_, PySem.W.mg_of X G nNotSealed, qUnknownItem_NotSealed⟩, ⟨_, PySem.W.mg_of X G nUnknownBox, qUnknownItem_UnknownBox⟩, ⟨_, PySem.W.mg_of X G nUnknownHand, qUnknownItem_UnknownHand⟩, ⟨_, PySem.W.mg_of X G nUnknownItem, qUnknownItem_UnknownItem⟩, ⟨_, PySem.W.mg_of X G nUnknownSeal, qUnknownItem_UnknownSeal⟩⟩
  have JUnknownBox : ErrJ K mg CUnknownBox CT 11 := ⟨⟨egaUnknownBox, eggUnknownBox, esbUnknownBox, ehdUnknownBox, ehaUnknownBox, chn, cht, ehmUnknownBox⟩, ⟨egaUnknownBox, eggUnknownBox, esbUnknownBox, ehdUnknownBox⟩, enPUnknownBox, enIUnknownBox, PySem.W.mg_of X G aCT, PySem.W.exm_ref wbe wcl wty ewsuUnknownBox, PySem.W.mg_none_of X G zValueError, ekveUnknownBox, ⟨_, PySem.W.mg_of X G nInsideItself, qUnknownBox_InsideItself⟩, ⟨_, PySem.W.mg_of X G nInvalidCourse, qUnknownBox_InvalidCourse⟩, ⟨_, PySem.W.mg_of X G nInvalidHands, qUnknownBox_InvalidHands⟩, ⟨_, gCE, qUnknownBox_InvalidHouse⟩, ⟨_, PySem.W.mg_of X G nInvalidLog, qUnknownBox_InvalidLog⟩, ⟨_, PySem.W.mg_of X G nInvalidNumber, qUnknownBox_InvalidNumber⟩, ⟨_, PySem.W.mg_of X G nIsSealed, qUnknownBox_IsSealed⟩, ⟨_, PySem.W.mg_of X G nNoCourse, qUnknownBox_NoCourse⟩, ⟨_, PySem.W.mg_of X G nNotHeld, qUnknownBox_NotHeld⟩, ⟨_, PySem.W.mg_of X G nNotInside, qUnknownBox_NotInside⟩, ⟨_, PySem.W.mg_of X G nNotSealed, qUnknownBox_NotSealed⟩, ⟨_, PySem.W.mg_of X G nUnknownBox, qUnknownBox_UnknownBox⟩, ⟨_, PySem.W.mg_of X G nUnknownHand, qUnknownBox_UnknownHand⟩, ⟨_, PySem.W.mg_of X G nUnknownItem, qUnknownBox_UnknownItem⟩, ⟨_, PySem.W.mg_of X G nUnknownSeal, qUnknownBox_UnknownSeal⟩⟩
  have JUnknownSeal : ErrJ K mg CUnknownSeal CT 14 := ⟨⟨egaUnknownSeal, eggUnknownSeal, esbUnknownSeal, ehdUnknownSeal, ehaUnknownSeal, chn, cht, ehmUnknownSeal⟩, ⟨egaUnknownSeal, eggUnknownSeal, esbUnknownSeal, ehdUnknownSeal⟩, enPUnknownSeal, enIUnknownSeal, PySem.W.mg_of X G aCT, PySem.W.exm_ref wbe wcl wty ewsuUnknownSeal, PySem.W.mg_none_of X G zValueError, ekveUnknownSeal, ⟨_, PySem.W.mg_of X G nInsideItself, qUnknownSeal_InsideItself⟩, ⟨_, PySem.W.mg_of X G nInvalidCourse, qUnknownSeal_InvalidCourse⟩, ⟨_, PySem.W.mg_of X G nInvalidHands, qUnknownSeal_InvalidHands⟩, ⟨_, gCE, qUnknownSeal_InvalidHouse⟩, ⟨_, PySem.W.mg_of X G nInvalidLog, qUnknownSeal_InvalidLog⟩, ⟨_, PySem.W.mg_of X G nInvalidNumber, qUnknownSeal_InvalidNumber⟩, ⟨_, PySem.W.mg_of X G nIsSealed, qUnknownSeal_IsSealed⟩, ⟨_, PySem.W.mg_of X G nNoCourse, qUnknownSeal_NoCourse⟩, ⟨_, PySem.W.mg_of X G nNotHeld, qUnknownSeal_NotHeld⟩, ⟨_, PySem.W.mg_of X G nNotInside, qUnknownSeal_NotInside⟩, ⟨_, PySem.W.mg_of X G nNotSealed, qUnknownSeal_NotSealed⟩, ⟨_, PySem.W.mg_of X G nUnknownBox, qUnknownSeal_UnknownBox⟩, ⟨_, PySem.W.mg_of X G nUnknownHand, qUnknownSeal_UnknownHand⟩, ⟨_, PySem.W.mg_of X G nUnknownItem, qUnknownSeal_UnknownItem⟩, ⟨_, PySem.W.mg_of X G nUnknownSeal, qUnknownSeal_UnknownSeal⟩⟩
  have JInsideItself : ErrJ K mg CInsideItself CT 0 := ⟨⟨egaInsideItself, eggInsideItself, esbInsideItself, ehdInsideItself, ehaInsideItself, chn, cht, ehmInsideItself⟩, ⟨egaInsideItself, eggInsideItself, esbInsideItself, ehdInsideItself⟩, enPInsideItself, enIInsideItself, PySem.W.mg_of X G aCT, PySem.W.exm_ref wbe wcl wty ewsuInsideItself, PySem.W.mg_none_of X G zValueError, ekveInsideItself, ⟨_, PySem.W.mg_of X G nInsideItself, qInsideItself_InsideItself⟩, ⟨_, PySem.W.mg_of X G nInvalidCourse, qInsideItself_InvalidCourse⟩, ⟨_, PySem.W.mg_of X G nInvalidHands, qInsideItself_InvalidHands⟩, ⟨_, gCE, qInsideItself_InvalidHouse⟩, ⟨_, PySem.W.mg_of X G nInvalidLog, qInsideItself_InvalidLog⟩, ⟨_, PySem.W.mg_of X G nInvalidNumber, qInsideItself_InvalidNumber⟩, ⟨_, PySem.W.mg_of X G nIsSealed, qInsideItself_IsSealed⟩, ⟨_, PySem.W.mg_of X G nNoCourse, qInsideItself_NoCourse⟩, ⟨_, PySem.W.mg_of X G nNotHeld, qInsideItself_NotHeld⟩, ⟨_, PySem.W.mg_of X G nNotInside, qInsideItself_NotInside⟩, ⟨_, PySem.W.mg_of X G nNotSealed, qInsideItself_NotSealed⟩, ⟨_, PySem.W.mg_of X G nUnknownBox, qInsideItself_UnknownBox⟩, ⟨_, PySem.W.mg_of X G nUnknownHand, qInsideItself_UnknownHand⟩, ⟨_, PySem.W.mg_of X G nUnknownItem, qInsideItself_UnknownItem⟩, ⟨_, PySem.W.mg_of X G nUnknownSeal, qInsideItself_UnknownSeal⟩⟩
  have JNotHeld : ErrJ K mg CNotHeld CT 8 := ⟨⟨egaNotHeld, eggNotHeld, esbNotHeld, ehdNotHeld, ehaNotHeld, chn, cht, ehmNotHeld⟩, ⟨egaNotHeld, eggNotHeld, esbNotHeld, ehdNotHeld⟩, enPNotHeld, enINotHeld, PySem.W.mg_of X G aCT, PySem.W.exm_ref wbe wcl wty ewsuNotHeld, PySem.W.mg_none_of X G zValueError, ekveNotHeld, ⟨_, PySem.W.mg_of X G nInsideItself, qNotHeld_InsideItself⟩, ⟨_, PySem.W.mg_of X G nInvalidCourse, qNotHeld_InvalidCourse⟩, ⟨_, PySem.W.mg_of X G nInvalidHands, qNotHeld_InvalidHands⟩, ⟨_, gCE, qNotHeld_InvalidHouse⟩, ⟨_, PySem.W.mg_of X G nInvalidLog, qNotHeld_InvalidLog⟩, ⟨_, PySem.W.mg_of X G nInvalidNumber, qNotHeld_InvalidNumber⟩, ⟨_, PySem.W.mg_of X G nIsSealed, qNotHeld_IsSealed⟩, ⟨_, PySem.W.mg_of X G nNoCourse, qNotHeld_NoCourse⟩, ⟨_, PySem.W.mg_of X G nNotHeld, qNotHeld_NotHeld⟩, ⟨_, PySem.W.mg_of X G nNotInside, qNotHeld_NotInside⟩, ⟨_, PySem.W.mg_of X G nNotSealed, qNotHeld_NotSealed⟩, ⟨_, PySem.W.mg_of X G nUnknownBox, qNotHeld_UnknownBox⟩, ⟨_, PySem.W.mg_of X G nUnknownHand, qNotHeld_UnknownHand⟩, ⟨_, PySem.W.mg_of X G nUnknownItem, qNotHeld_UnknownItem⟩, ⟨_, PySem.W.mg_of X G nUnknownSeal, qNotHeld_UnknownSeal⟩⟩
  have JNotSealed : ErrJ K mg CNotSealed CT 10 := ⟨⟨egaNotSealed, eggNotSealed, esbNotSealed, ehdNotSealed, ehaNotSealed, chn, cht, ehmNotSealed⟩, ⟨egaNotSealed, eggNotSealed, esbNotSealed, ehdNotSealed⟩, enPNotSealed, enINotSealed, PySem.W.mg_of X G aCT, PySem.W.exm_ref wbe wcl wty ewsuNotSealed, PySem.W.mg_none_of X G zValueError, ekveNotSealed, ⟨_, PySem.W.mg_of X G nInsideItself, qNotSealed_InsideItself⟩, ⟨_, PySem.W.mg_of X G nInvalidCourse, qNotSealed_InvalidCourse⟩, ⟨_, PySem.W.mg_of X G nInvalidHands, qNotSealed_InvalidHands⟩, ⟨_, gCE, qNotSealed_InvalidHouse⟩, ⟨_, PySem.W.mg_of X G nInvalidLog, qNotSealed_InvalidLog⟩, ⟨_, PySem.W.mg_of X G nInvalidNumber, qNotSealed_InvalidNumber⟩, ⟨_, PySem.W.mg_of X G nIsSealed, qNotSealed_IsSealed⟩, ⟨_, PySem.W.mg_of X G nNoCourse, qNotSealed_NoCourse⟩, ⟨_, PySem.W.mg_of X G nNotHeld, qNotSealed_NotHeld⟩, ⟨_, PySem.W.mg_of X G nNotInside, qNotSealed_NotInside⟩, ⟨_, PySem.W.mg_of X G nNotSealed, qNotSealed_NotSealed⟩, ⟨_, PySem.W.mg_of X G nUnknownBox, qNotSealed_UnknownBox⟩, ⟨_, PySem.W.mg_of X G nUnknownHand, qNotSealed_UnknownHand⟩, ⟨_, PySem.W.mg_of X G nUnknownItem, qNotSealed_UnknownItem⟩, ⟨_, PySem.W.mg_of X G nUnknownSeal, qNotSealed_UnknownSeal⟩⟩
  have JIsSealed : ErrJ K mg CIsSealed CT 6 := ⟨⟨egaIsSealed, eggIsSealed, esbIsSealed, ehdIsSealed, ehaIsSealed, chn, cht, ehmIsSealed⟩, ⟨egaIsSealed, eggIsSealed, esbIsSealed, ehdIsSealed⟩, enPIsSealed, enIIsSealed, PySem.W.mg_of X G aCT, PySem.W.exm_ref wbe wcl wty ewsuIsSealed, PySem.W.mg_none_of X G zValueError, ekveIsSealed, ⟨_, PySem.W.mg_of X G nInsideItself, qIsSealed_InsideItself⟩, ⟨_, PySem.W.mg_of X G nInvalidCourse, qIsSealed_InvalidCourse⟩, ⟨_, PySem.W.mg_of X G nInvalidHands, qIsSealed_InvalidHands⟩, ⟨_, gCE, qIsSealed_InvalidHouse⟩, ⟨_, PySem.W.mg_of X G nInvalidLog, qIsSealed_InvalidLog⟩, ⟨_, PySem.W.mg_of X G nInvalidNumber, qIsSealed_InvalidNumber⟩, ⟨_, PySem.W.mg_of X G nIsSealed, qIsSealed_IsSealed⟩, ⟨_, PySem.W.mg_of X G nNoCourse, qIsSealed_NoCourse⟩, ⟨_, PySem.W.mg_of X G nNotHeld, qIsSealed_NotHeld⟩, ⟨_, PySem.W.mg_of X G nNotInside, qIsSealed_NotInside⟩, ⟨_, PySem.W.mg_of X G nNotSealed, qIsSealed_NotSealed⟩, ⟨_, PySem.W.mg_of X G nUnknownBox, qIsSealed_UnknownBox⟩, ⟨_, PySem.W.mg_of X G nUnknownHand, qIsSealed_UnknownHand⟩, ⟨_, PySem.W.mg_of X G nUnknownItem, qIsSealed_UnknownItem⟩, ⟨_, PySem.W.mg_of X G nUnknownSeal, qIsSealed_UnknownSeal⟩⟩
  have JNotInside : ErrJ K mg CNotInside CT 9 := ⟨⟨egaNotInside, eggNotInside, esbNotInside, ehdNotInside, ehaNotInside, chn, cht, ehmNotInside⟩, ⟨egaNotInside, eggNotInside, esbNotInside, ehdNotInside⟩, enPNotInside, enINotInside, PySem.W.mg_of X G aCT, PySem.W.exm_ref wbe wcl wty ewsuNotInside, PySem.W.mg_none_of X G zValueError, ekveNotInside, ⟨_, PySem.W.mg_of X G nInsideItself, qNotInside_InsideItself⟩, ⟨_, PySem.W.mg_of X G nInvalidCourse, qNotInside_InvalidCourse⟩, ⟨_, PySem.W.mg_of X G nInvalidHands, qNotInside_InvalidHands⟩, ⟨_, gCE, qNotInside_InvalidHouse⟩, ⟨_, PySem.W.mg_of X G nInvalidLog, qNotInside_InvalidLog⟩, ⟨_, PySem.W.mg_of X G nInvalidNumber, qNotInside_InvalidNumber⟩, ⟨_, PySem.W.mg_of X G nIsSealed, qNotInside_IsSealed⟩, ⟨_, PySem.W.mg_of X G nNoCourse, qNotInside_NoCourse⟩, ⟨_, PySem.W.mg_of X G nNotHeld, qNotInside_NotHeld⟩, ⟨_, PySem.W.mg_of X G nNotInside, qNotInside_NotInside⟩, ⟨_, PySem.W.mg_of X G nNotSealed, qNotInside_NotSealed⟩, ⟨_, PySem.W.mg_of X G nUnknownBox, qNotInside_UnknownBox⟩, ⟨_, PySem.W.mg_of X G nUnknownHand, qNotInside_UnknownHand⟩, ⟨_, PySem.W.mg_of X G nUnknownItem, qNotInside_UnknownItem⟩, ⟨_, PySem.W.mg_of X G nUnknownSeal, qNotInside_UnknownSeal⟩⟩
  obtain ⟨ce, hce⟩ : ∃ ce, ce = ce9 CUnknownHand CUnknownItem CUnknownBox CUnknownSeal CInsideItself CNotHeld CNotSealed CIsSealed CNotInside := ⟨_, rfl⟩
  have vUnknownHand : ce "UnknownHand" = CUnknownHand := by rw [hce]; exact ce9_UnknownHand CUnknownHand CUnknownItem CUnknownBox CUnknownSeal CInsideItself CNotHeld CNotSealed CIsSealed CNotInside
  have vUnknownItem : ce "UnknownItem" = CUnknownItem := by rw [hce]; exact ce9_UnknownItem CUnknownHand CUnknownItem CUnknownBox CUnknownSeal CInsideItself CNotHeld CNotSealed CIsSealed CNotInside
  have vUnknownBox : ce "UnknownBox" = CUnknownBox := by rw [hce]; exact ce9_UnknownBox CUnknownHand CUnknownItem CUnknownBox CUnknownSeal CInsideItself CNotHeld CNotSealed CIsSealed CNotInside
  have vUnknownSeal : ce "UnknownSeal" = CUnknownSeal := by rw [hce]; exact ce9_UnknownSeal CUnknownHand CUnknownItem CUnknownBox CUnknownSeal CInsideItself CNotHeld CNotSealed CIsSealed CNotInside
  have vInsideItself : ce "InsideItself" = CInsideItself := by rw [hce]; exact ce9_InsideItself CUnknownHand CUnknownItem CUnknownBox CUnknownSeal CInsideItself CNotHeld CNotSealed CIsSealed CNotInside
  have vNotHeld : ce "NotHeld" = CNotHeld := by rw [hce]; exact ce9_NotHeld CUnknownHand CUnknownItem CUnknownBox CUnknownSeal CInsideItself CNotHeld CNotSealed CIsSealed CNotInside
  have vNotSealed : ce "NotSealed" = CNotSealed := by rw [hce]; exact ce9_NotSealed CUnknownHand CUnknownItem CUnknownBox CUnknownSeal CInsideItself CNotHeld CNotSealed CIsSealed CNotInside
  have vIsSealed : ce "IsSealed" = CIsSealed := by rw [hce]; exact ce9_IsSealed CUnknownHand CUnknownItem CUnknownBox CUnknownSeal CInsideItself CNotHeld CNotSealed CIsSealed CNotInside
  have vNotInside : ce "NotInside" = CNotInside := by rw [hce]; exact ce9_NotInside CUnknownHand CUnknownItem CUnknownBox CUnknownSeal CInsideItself CNotHeld CNotSealed CIsSealed CNotInside
  have PUnknownHand : PErr K mg "UnknownHand" (ce "UnknownHand") := by rw [vUnknownHand]; exact ⟨eexUnknownHand, PySem.W.mg_of X G nUnknownHand, ekpUnknownHand, esbUnknownHand, etyUnknownHand⟩
  have PUnknownItem : PErr K mg "UnknownItem" (ce "UnknownItem") := by rw [vUnknownItem]; exact ⟨eexUnknownItem, PySem.W.mg_of X G nUnknownItem, ekpUnknownItem, esbUnknownItem, etyUnknownItem⟩
  have PUnknownBox : PErr K mg "UnknownBox" (ce "UnknownBox") := by rw [vUnknownBox]; exact ⟨eexUnknownBox, PySem.W.mg_of X G nUnknownBox, ekpUnknownBox, esbUnknownBox, etyUnknownBox⟩
  have PUnknownSeal : PErr K mg "UnknownSeal" (ce "UnknownSeal") := by rw [vUnknownSeal]; exact ⟨eexUnknownSeal, PySem.W.mg_of X G nUnknownSeal, ekpUnknownSeal, esbUnknownSeal, etyUnknownSeal⟩
  have PInsideItself : PErr K mg "InsideItself" (ce "InsideItself") := by rw [vInsideItself]; exact ⟨eexInsideItself, PySem.W.mg_of X G nInsideItself, ekpInsideItself, esbInsideItself, etyInsideItself⟩
  have PNotHeld : PErr K mg "NotHeld" (ce "NotHeld") := by rw [vNotHeld]; exact ⟨eexNotHeld, PySem.W.mg_of X G nNotHeld, ekpNotHeld, esbNotHeld, etyNotHeld⟩
  have PNotSealed : PErr K mg "NotSealed" (ce "NotSealed") := by rw [vNotSealed]; exact ⟨eexNotSealed, PySem.W.mg_of X G nNotSealed, ekpNotSealed, esbNotSealed, etyNotSealed⟩
  have PIsSealed : PErr K mg "IsSealed" (ce "IsSealed") := by rw [vIsSealed]; exact ⟨eexIsSealed, PySem.W.mg_of X G nIsSealed, ekpIsSealed, esbIsSealed, etyIsSealed⟩
  have PNotInside : PErr K mg "NotInside" (ce "NotInside") := by rw [vNotInside]; exact ⟨eexNotInside, PySem.W.mg_of X G nNotInside, ekpNotInside, esbNotInside, etyNotInside⟩
  have kn : ∀ z : Str, (z = "UnknownHand" ∨ z = "UnknownItem" ∨ z = "UnknownBox" ∨ z = "UnknownSeal" ∨ z = "InsideItself" ∨ z = "NotHeld" ∨ z = "NotSealed" ∨ z = "IsSealed" ∨ z = "NotInside") → Known K mg ce CT z := by
    intro z hz
    rcases hz with rfl | rfl | rfl | rfl | rfl | rfl | rfl | rfl | rfl
    · exact ⟨12, by rw [vUnknownHand]; exact JUnknownHand, by decide, ⟨by decide, by decide, by decide⟩, by decide +kernel⟩
    · exact ⟨13, by rw [vUnknownItem]; exact JUnknownItem, by decide, ⟨by decide, by decide, by decide⟩, by decide +kernel⟩
    · exact ⟨11, by rw [vUnknownBox]; exact JUnknownBox, by decide, ⟨by decide, by decide, by decide⟩, by decide +kernel⟩
    · exact ⟨14, by rw [vUnknownSeal]; exact JUnknownSeal, by decide, ⟨by decide, by decide, by decide⟩, by decide +kernel⟩
    · exact ⟨0, by rw [vInsideItself]; exact JInsideItself, by decide, ⟨by decide, by decide, by decide⟩, by decide +kernel⟩
    · exact ⟨8, by rw [vNotHeld]; exact JNotHeld, by decide, ⟨by decide, by decide, by decide⟩, by decide +kernel⟩
    · exact ⟨10, by rw [vNotSealed]; exact JNotSealed, by decide, ⟨by decide, by decide, by decide⟩, by decide +kernel⟩
    · exact ⟨6, by rw [vIsSealed]; exact JIsSealed, by decide, ⟨by decide, by decide, by decide⟩, by decide +kernel⟩
    · exact ⟨9, by rw [vNotInside]; exact JNotInside, by decide, ⟨by decide, by decide, by decide⟩, by decide +kernel⟩
  have PT : PartsF K w mg aP := ⟨fun k => by
    cases k
    · exact ⟨esP, nP_, _, pL, pK, p0, ⟨tp0, rfl⟩⟩
    · exact ⟨esP, nP_, _, pL, pK, p1, ⟨tp1, rfl⟩⟩
    · exact ⟨esP, nP_, _, pL, pK, p2, ⟨tp2, rfl⟩⟩, PySem.W.mg_of X G pA⟩
  refine ⟨PySem.W.fnOf "law" "law" (defArgs sLaw) (defBody sLaw) (defScope sLaw) .none kVL dcL pmL anL (.ref cd) ctL, [(cd, tb)], spLaw K tb, fun p hp => by rw [List.mem_singleton.mp hp]; exact hT, fun p hp => by rw [List.mem_singleton.mp hp]; exact ntb, fun p hp => by rw [List.mem_singleton.mp hp]; exact PySem.W.codeHd_of_K X hcd, fun s v => .of_eq rfl, fun H a ns hl _ hTb hS => ⟨a, ns, rfl, hTb (cd, tb) List.mem_cons_self, hS, hl, fun _ => rfl⟩, fun base hb hg hTB => ?_⟩
  have TB : LamX.TabB base mg cd tb := hTB (cd, tb) List.mem_cons_self
  have GN : FnOk l.prog w K mg base CX0 1 fm0 (PySem.W.fnOf "is_number" "is_number" (defArgs sNum) (defBody sNum) (defScope sNum) .none kVm0 dcm0 pmm0 anm0 cdm0 ctm0) ["value", "limit"] spNum := ok_num Fis_number B
  have GM : FnOk l.prog w K mg base CX0 1 fm1 (PySem.W.fnOf "how_many" "how_many" (defArgs sMany) (defBody sMany) (defScope sMany) .none kVm1 dcm1 pmm1 anm1 cdm1 ctm1) ["house", "word"] (spMany K C) := ok_many Fhow_many B hc
  have GP : FnOk l.prog w K mg base CX0 2 fm2 (PySem.W.fnOf "is_place" "is_place" (defArgs sIsPl) (defBody sIsPl) (defScope sIsPl) .none kVm2 dcm2 pmm2 anm2 cdm2 ctm2) ["place", "hands", "boxes"] (spIsPl K) := ok_ispl Fis_place Fis_number B gis_number bis_number
  have GI0 : FnOk l.prog w K mg base CX0 1 fI _ ["self", "part", "index"] (spIH CE) := ok_ih T xnP xnI
  have GB := ok_boxes (w := w) (base := base) Fneed_boxes B Z GP gis_place Fis_place.kp bis_place T GI0
  have GNH := ok_need (w := w) (base := base) Fneed_house B Z GP gis_place Fis_place.kp bis_place GN gis_number Fis_number.kp bis_number GB gneed_boxes Fneed_boxes.kp bneed_boxes T GI0
  have GH := ok_house (w := w) (base := base) Ft0 B hc GNH gneed_house Fneed_house.kp bneed_house
  have GT : FnOk l.prog w K mg base CX0 1 fm6 (PySem.W.fnOf "_law_take" "_law_take" (defArgs sTake) (defBody sTake) (defScope sTake) .none kVm6 dcm6 pmm6 anm6 cdm6 ctm6) ["_law_box", "_law_many"] spTake := ok_take F_law_take B
  have GPL := ok_places (w := w) (base := base) F_law_places GT g_law_take F_law_take.kp b_law_take
  have GLH := ok_lhouse (w := w) (base := base) F_law_house B GT g_law_take F_law_take.kp b_law_take GPL g_law_places F_law_places.kp b_law_places M GH gC bt0
  have GHa := ok_has (w := w) (base := base) Ft1 B GM ghow_many Fhow_many.kp bhow_many GN gis_number Fis_number.kp bis_number
  have GEq : FnOk l.prog w K mg base CX0 1 ft2 _ ["self", "other"] (spEqH K C) := ok_eqh Ft2 B hc hi gC
  have GBe : FnOk l.prog w K mg base CX0 1 fm5 (PySem.W.fnOf "_law_begun" "_law_begun" (defArgs sBegun) (defBody sBegun) (defScope sBegun) .none kVm5 dcm5 pmm5 anm5 cdm5 ctm5) ["_law_script"] (spBegun K) := ok_begun F_law_begun B
  have GWh : FnOk l.prog w K mg base CX0 1 fm11 (PySem.W.fnOf "_law_where" "_law_where" (defArgs sWhere) (defBody sWhere) (defScope sWhere) .none kVm11 dcm11 pmm11 anm11 cdm11 ctm11) ["_law_state", "_law_item"] (spWhere K) := ok_where F_law_where B
  have GSe : FnOk l.prog w K mg base CX0 1 fm12 (PySem.W.fnOf "_law_set" "_law_set" (defArgs sSet) (defBody sSet) (defScope sSet) .none kVm12 dcm12 pmm12 anm12 cdm12 ctm12) ["_law_state", "_law_item", "_law_place"] (spSet K) := ok_set F_law_set B
  have GBa := ok_bar (w := w) (base := base) F_law_bar B GWh g_law_where F_law_where.kp b_law_where
  have GNx := ok_next (w := w) (base := base) F_law_next B GSe g_law_set F_law_set.kp b_law_set
  have GDs := ok_deeds (w := w) (base := base) F_law_deeds B (PySem.W.mg_none_of X G zsorted) GBa g_law_bar F_law_bar.kp b_law_bar
  have GDr := ok_drawn (w := w) (base := base) F_law_drawn B (PySem.W.mg_none_of X G zmax) hc GT g_law_take F_law_take.kp b_law_take
  have GUn := ok_unk (w := w) (base := base) F_law_unknown B hc GHa at1 i1 bt1
  have NF : NumF l.prog w K mg base fm0 _ := ⟨GN, gis_number, Fis_number.kp, bis_number⟩
  have HF : HasF l.prog w K mg base C ft1 _ := ⟨GHa, at1, i1, bt1⟩
  have G1 := ok_nhand (w := w) (base := base) Fneed_hand hc NF PUnknownHand
  have G2 := ok_nitem (w := w) (base := base) Fneed_item HF PUnknownItem
  have G3 := ok_nload (w := w) (base := base) Fneed_load HF PUnknownItem
  have G4 := ok_nbox (w := w) (base := base) Fneed_box B hc NF PUnknownBox
  have G5 := ok_nseal (w := w) (base := base) Fneed_seal B hc NF PUnknownSeal
  have G6 : FnOk l.prog w K mg base CX0 1 fm23 (PySem.W.fnOf "place_in" "place_in" (defArgs sPlace) (defBody sPlace) (defScope sPlace) .none kVm23 dcm23 pmm23 anm23 cdm23 ctm23) ["state", "item"] (spWhere K) := ok_place Fplace_in PT
  have G7 : FnOk l.prog w K mg base CX0 1 fm24 (PySem.W.fnOf "with_place" "with_place" (defArgs sWith) (defBody sWith) (defScope sWith) .none kVm24 dcm24 pmm24 anm24 cdm24 ctm24) ["state", "item", "place"] (spWith K) := ok_with Fwith_place PT
  have G8 : FnOk l.prog w K mg base CX0 1 fm25 (PySem.W.fnOf "seal_on" "seal_on" (defArgs sOn) (defBody sOn) (defScope sOn) .none kVm25 dcm25 pmm25 anm25 cdm25 ctm25) ["state", "box"] (spOn K) := ok_on Fseal_on B
  have Q6 : PlF l.prog w K mg base fm23 _ := ⟨G6, gplace_in, Fplace_in.kp, bplace_in⟩
  have Q7 : WithF l.prog w K mg base fm24 _ := ⟨G7, gwith_place, Fwith_place.kp, bwith_place⟩
  have Q8 : OnF l.prog w K mg base fm25 _ := ⟨G8, gseal_on, Fseal_on.kp, bseal_on⟩
  have G9 := ok_held (w := w) (base := base) Fneed_held Q6 PNotHeld
  have Q9 : HeldF l.prog w K mg base (ce "NotHeld") fm30 _ := ⟨G9, gneed_held, Fneed_held.kp, bneed_held⟩
  have G10 := ok_bare (w := w) (base := base) Fneed_bare Q9 Q8 PIsSealed
  have Q10 : BareF l.prog w K mg base (ce "NotHeld") (ce "IsSealed") fm31 _ := ⟨G10, gneed_bare, Fneed_bare.kp, bneed_bare⟩
  have G11 := ok_break (w := w) (base := base) Fstate_behind_break Q9 Q8 Q7 PNotSealed
  have Q11 : BreakF l.prog w K mg base (ce "NotHeld") (ce "NotSealed") fm29 _ := ⟨G11, gstate_behind_break, Fstate_behind_break.kp, bstate_behind_break⟩
  have G12 := ok_behind (w := w) (base := base) Fstate_behind Q9 Q10 Q7 Q6 Q11 PNotInside
  have Q3 : NLoadF l.prog w K mg base C (ce "UnknownItem") fm20 _ := ⟨G3, gneed_load, Fneed_load.kp, bneed_load⟩
  have Q4 : NBoxF l.prog w K mg base C (ce "UnknownBox") fm21 _ := ⟨G4, gneed_box, Fneed_box.kp, bneed_box⟩
  have Q2 : NItemF l.prog w K mg base C (ce "UnknownItem") fm19 _ := ⟨G2, gneed_item, Fneed_item.kp, bneed_item⟩
  have Q1 : NHandF l.prog w K mg base C (ce "UnknownHand") fm18 _ := ⟨G1, gneed_hand, Fneed_hand.kp, bneed_hand⟩
  have Q5 : NSealF l.prog w K mg base C (ce "UnknownSeal") fm22 _ := ⟨G5, gneed_seal, Fneed_seal.kp, bneed_seal⟩
  have G13 := ok_nmove (w := w) (base := base) Fneed_move Q3 Q4 PInsideItself
  have Q13 : NMoveF l.prog w K mg base C ce fm27 _ := ⟨G13, gneed_move, Fneed_move.kp, bneed_move⟩
  have G14 := ok_ndeed (w := w) (base := base) Fneed_deed Q2 Q1 Q13 Q4 Q5 PUnknownHand
  have GW0 : FnOk l.prog w K mg base CX0 1 ft3 _ ["self", "house"] (spWInit K C CW) := ok_winit Ft3 hc wc
  have WM : WMk l.prog w K mg base C CW ft3 _ := ⟨MW, GW0, gW, bt3⟩
  have GCh := ok_wch (w := w) (base := base) Ft6 wc WM
  have CH : ChF l.prog w K mg base C CW ft6 _ := ⟨GCh, ⟨at6, i6, Ft6.kp⟩, bt6⟩
  have GWC := ok_wcall (w := w) (base := base) Ft4 wc ⟨G14, gneed_deed, Fneed_deed.kp, bneed_deed⟩ ⟨G12, gstate_behind, Fstate_behind.kp, bstate_behind⟩ CH
  have HE : HEqF l.prog w K mg base C ft2 _ := ⟨GEq, at2, i2, bt2⟩
  have GWE := ok_weq (w := w) (base := base) Ft5 B wc wi gW HE
  have LF : LawF l.prog w K mg base C CW CT ce fm5 fm6 fm7 fm9 fm10 fm15 fm16 fm17 fm13 fm14 ft4 ft5 ft3 ft6 ft2 (PySem.W.fnOf "_law_begun" "_law_begun" (defArgs sBegun) (defBody sBegun) (defScope sBegun) .none kVm5 dcm5 pmm5 anm5 cdm5 ctm5) (PySem.W.fnOf "_law_take" "_law_take" (defArgs sTake) (defBody sTake) (defScope sTake) .none kVm6 dcm6 pmm6 anm6 cdm6 ctm6) (PySem.W.fnOf "_law_alike" "_law_alike" (defArgs sAlike) (defBody sAlike) (defScope sAlike) .none kVm7 dcm7 pmm7 anm7 cdm7 ctm7) (PySem.W.fnOf "_law_house" "_law_house" (defArgs sHouse) (defBody sHouse) (defScope sHouse) .none kVm9 dcm9 pmm9 anm9 cdm9 ctm9) (PySem.W.fnOf "_law_error" "_law_error" (defArgs sErr) (defBody sErr) (defScope sErr) .none kVm10 dcm10 pmm10 anm10 cdm10 ctm10) _ _ _ _ _ _ _ _ _ _ :=
    { Bg := GBe, mBg := g_law_begun, kBg := F_law_begun.kp, bBg := b_law_begun, T := GT, mT := g_law_take, kT := F_law_take.kp, bT := b_law_take, A := ok_alike F_law_alike B g_law_alike b_law_alike, mA := g_law_alike, kA := F_law_alike.kp, bA := b_law_alike,
      LH := GLH, mLH := g_law_house, kLH := F_law_house.kp, bLH := b_law_house, E := F_law_error, mE := g_law_error, bE := b_law_error, wat := PySem.W.mg_of X G aCT, kn := kn,
      D := GDs, mD := g_law_deeds, kD := F_law_deeds.kp, bD := b_law_deeds, R := GDr, mR := g_law_drawn, kR := F_law_drawn.kp, bR := b_law_drawn, U := GUn, mU := g_law_unknown, kU := F_law_unknown.kp, bU := b_law_unknown,
      B := GBa, mB := g_law_bar, kB := F_law_bar.kp, bB := b_law_bar, N := GNx, mN := g_law_next, kN := F_law_next.kp, bN := b_law_next, hc := hc, WC := wc, W := GWC, Ws := at4, Wi := i4, Wf := fn4, bW := bt4, Q := GWE, Qs := at5, Qi := i5, bQ := bt5, WM := WM, CH := CH, HE := HE }
  exact ok_law LF B TB lL cL
end Kw

set_option Elab.async false
set_option linter.all false
open PySem PySem.W PyProof.Rows
set_option maxRecDepth 100000 in
set_option maxHeartbeats 0 in
theorem PySem.Challenge.cw_sealwatch_k02_whole_deeds_done_holds : PySem.Challenge.rw_sealwatch_k02_whole_deeds_done.Holds := by
  w_on; o_law; k_head; (case hw => w_witness2)
  k_fill
  refine LamX.walk_ofTs (l := PySem.Challenge.rw_sealwatch_k02_whole_deeds_done) (n := 63) (k := 9) (CX := fun _ => L2.CX0) (x := "_law_script") rfl (by decide) rfl ⟨rfl, by decide, by decide⟩ (fun w h Y => PySem.W.km_in_of Y) ?F (fun _ _ _ _ _ z => z)
  case F =>
    intro w mg fa h Y KX G hmg
    refine' Kw.all_mk (tb := 593) KX G hmg ?aC ?aCW ?aCE ?aCT ?am0 ?lm0 ?cm0 ?km0 ?am1 ?lm1 ?cm1 ?km1 ?am2 ?lm2 ?cm2 ?km2 ?am3 ?lm3 ?cm3 ?km3 ?am4 ?lm4 ?cm4 ?km4 ?am5 ?lm5 ?cm5 ?km5 ?am6 ?lm6 ?cm6 ?km6 ?am7 ?lm7 ?cm7 ?km7 ?am8 ?lm8 ?cm8 ?km8 ?am9 ?lm9 ?cm9 ?km9 ?am10 ?lm10 ?cm10 ?km10 ?am11 ?lm11 ?cm11 ?km11 ?am12 ?lm12 ?cm12 ?km12 ?am13 ?lm13 ?cm13 ?km13 ?am14 ?lm14 ?cm14 ?km14 ?am15 ?lm15 ?cm15 ?km15 ?am16 ?lm16 ?cm16 ?km16 ?am17 ?lm17 ?cm17 ?km17 ?am18 ?lm18 ?cm18 ?km18 ?am19 ?lm19 ?cm19 ?km19 ?am20 ?lm20 ?cm20 ?km20 ?am21 ?lm21 ?cm21 ?km21 ?am22 ?lm22 ?cm22 ?km22 ?am23 ?lm23 ?cm23 ?km23 ?am24 ?lm24 ?cm24 ?km24 ?am25 ?lm25 ?cm25 ?km25 ?am26 ?lm26 ?cm26 ?km26 ?am27 ?lm27 ?cm27 ?km27 ?am28 ?lm28 ?cm28 ?km28 ?am29 ?lm29 ?cm29 ?km29 ?am30 ?lm30 ?cm30 ?km30 ?am31 ?lm31 ?cm31 ?km31 ?at0 ?lt0 ?ct0 ?kt0 ?i0 ?at1 ?lt1 ?ct1 ?kt1 ?i1 ?at2 ?lt2 ?ct2 ?kt2 ?i2 ?at3 ?lt3 ?ct3 ?kt3 ?i3 ?at4 ?lt4 ?ct4 ?kt4 ?i4 ?at5 ?lt5 ?ct5 ?kt5 ?i5 ?at6 ?lt6 ?ct6 ?kt6 ?i6 ?fn4 ?aL ?lL ?cL ?chn ?cht ?hpg ?hhd ?hpo ?hsa ?hmk ?hkc ?hha ?hhm ?hkk ?vpg ?vhd ?vpo ?vsa ?vmk ?vkc ?vha ?vhm ?vkk ?nH ?nB ?nT ?nS ?nSt ?wnH ?wnS ?xL ?xv ?xa ?xsa ?xex ?xty ?xkc ?xtp ?xve ?xse ?xnP ?xnI ?xi ?xit ?xil ?xic ?xcl ?xcf ?xff ?xcc ?xtop ?wbe ?wcl ?wty ?nInsideItself ?nInvalidCourse ?nInvalidHands ?nInvalidLog ?nInvalidNumber ?nIsSealed ?nNoCourse ?nNotHeld ?nNotInside ?nNotSealed ?nUnknownBox ?nUnknownHand ?nUnknownItem ?nUnknownSeal ?eexUnknownHand ?ekpUnknownHand ?esbUnknownHand ?etyUnknownHand ?egaUnknownHand ?eggUnknownHand ?ehdUnknownHand ?ehaUnknownHand ?ehmUnknownHand ?enPUnknownHand ?enIUnknownHand ?ewsuUnknownHand ?ekveUnknownHand ?qUnknownHand_InsideItself ?qUnknownHand_InvalidCourse ?qUnknownHand_InvalidHands ?qUnknownHand_InvalidHouse ?qUnknownHand_InvalidLog ?qUnknownHand_InvalidNumber ?qUnknownHand_IsSealed ?qUnknownHand_NoCourse ?qUnknownHand_NotHeld ?qUnknownHand_NotInside ?qUnknownHand_NotSealed ?qUnknownHand_UnknownBox ?qUnknownHand_UnknownHand ?qUnknownHand_UnknownItem ?qUnknownHand_UnknownSeal ?eexUnknownItem ?ekpUnknownItem ?esbUnknownItem ?etyUnknownItem ?egaUnknownItem ?eggUnknownItem ?ehdUnknownItem ?ehaUnknownItem ?ehmUnknownItem ?enPUnknownItem ?enIUnknownItem ?ewsuUnknownItem ?ekveUnknownItem ?qUnknownItem_InsideItself ?qUnknownItem_InvalidCourse ?qUnknownItem_InvalidHands ?qUnknownItem_InvalidHouse ?qUnknownItem_InvalidLog ?qUnknownItem_InvalidNumber ?qUnknownItem_IsSealed ?qUnknownItem_NoCourse ?qUnknownItem_NotHeld ?qUnknownItem_NotInside ?qUnknownItem_NotSealed ?qUnknownItem_UnknownBox ?qUnknownItem_UnknownHand ?qUnknownItem_UnknownItem ?qUnknownItem_UnknownSeal ?eexUnknownBox ?ekpUnknownBox ?esbUnknownBox ?etyUnknownBox ?egaUnknownBox ?eggUnknownBox ?ehdUnknownBox ?ehaUnknownBox ?ehmUnknownBox ?enPUnknownBox ?enIUnknownBox ?ewsuUnknownBox ?ekveUnknownBox ?qUnknownBox_InsideItself ?qUnknownBox_InvalidCourse ?qUnknownBox_InvalidHands ?qUnknownBox_InvalidHouse ?qUnknownBox_InvalidLog ?qUnknownBox_InvalidNumber ?qUnknownBox_IsSealed ?qUnknownBox_NoCourse ?qUnknownBox_NotHeld ?qUnknownBox_NotInside ?qUnknownBox_NotSealed ?qUnknownBox_UnknownBox ?qUnknownBox_UnknownHand ?qUnknownBox_UnknownItem ?qUnknownBox_UnknownSeal ?eexUnknownSeal ?ekpUnknownSeal ?esbUnknownSeal ?etyUnknownSeal ?egaUnknownSeal ?eggUnknownSeal ?ehdUnknownSeal ?ehaUnknownSeal ?ehmUnknownSeal ?enPUnknownSeal ?enIUnknownSeal ?ewsuUnknownSeal ?ekveUnknownSeal ?qUnknownSeal_InsideItself ?qUnknownSeal_InvalidCourse ?qUnknownSeal_InvalidHands ?qUnknownSeal_InvalidHouse ?qUnknownSeal_InvalidLog ?qUnknownSeal_InvalidNumber ?qUnknownSeal_IsSealed ?qUnknownSeal_NoCourse ?qUnknownSeal_NotHeld ?qUnknownSeal_NotInside ?qUnknownSeal_NotSealed ?qUnknownSeal_UnknownBox ?qUnknownSeal_UnknownHand ?qUnknownSeal_UnknownItem ?qUnknownSeal_UnknownSeal ?eexInsideItself ?ekpInsideItself ?esbInsideItself ?etyInsideItself ?egaInsideItself ?eggInsideItself ?ehdInsideItself ?ehaInsideItself ?ehmInsideItself ?enPInsideItself ?enIInsideItself ?ewsuInsideItself ?ekveInsideItself ?qInsideItself_InsideItself ?qInsideItself_InvalidCourse ?qInsideItself_InvalidHands ?qInsideItself_InvalidHouse ?qInsideItself_InvalidLog ?qInsideItself_InvalidNumber ?qInsideItself_IsSealed ?qInsideItself_NoCourse ?qInsideItself_NotHeld ?qInsideItself_NotInside ?qInsideItself_NotSealed ?qInsideItself_UnknownBox ?qInsideItself_UnknownHand ?qInsideItself_UnknownItem ?qInsideItself_UnknownSeal ?eexNotHeld ?ekpNotHeld ?esbNotHeld ?etyNotHeld ?egaNotHeld ?eggNotHeld ?ehdNotHeld ?ehaNotHeld ?ehmNotHeld ?enPNotHeld ?enINotHeld ?ewsuNotHeld ?ekveNotHeld ?qNotHeld_InsideItself ?qNotHeld_InvalidCourse ?qNotHeld_InvalidHands ?qNotHeld_InvalidHouse ?qNotHeld_InvalidLog ?qNotHeld_InvalidNumber ?qNotHeld_IsSealed ?qNotHeld_NoCourse ?qNotHeld_NotHeld ?qNotHeld_NotInside ?qNotHeld_NotSealed ?qNotHeld_UnknownBox ?qNotHeld_UnknownHand ?qNotHeld_UnknownItem ?qNotHeld_UnknownSeal ?eexNotSealed ?ekpNotSealed ?esbNotSealed ?etyNotSealed ?egaNotSealed ?eggNotSealed ?ehdNotSealed ?ehaNotSealed ?ehmNotSealed ?enPNotSealed ?enINotSealed ?ewsuNotSealed ?ekveNotSealed ?qNotSealed_InsideItself ?qNotSealed_InvalidCourse ?qNotSealed_InvalidHands ?qNotSealed_InvalidHouse ?qNotSealed_InvalidLog ?qNotSealed_InvalidNumber ?qNotSealed_IsSealed ?qNotSealed_NoCourse ?qNotSealed_NotHeld ?qNotSealed_NotInside ?qNotSealed_NotSealed ?qNotSealed_UnknownBox ?qNotSealed_UnknownHand ?qNotSealed_UnknownItem ?qNotSealed_UnknownSeal ?eexIsSealed ?ekpIsSealed ?esbIsSealed ?etyIsSealed ?egaIsSealed ?eggIsSealed ?ehdIsSealed ?ehaIsSealed ?ehmIsSealed ?enPIsSealed ?enIIsSealed ?ewsuIsSealed ?ekveIsSealed ?qIsSealed_InsideItself ?qIsSealed_InvalidCourse ?qIsSealed_InvalidHands ?qIsSealed_InvalidHouse ?qIsSealed_InvalidLog ?qIsSealed_InvalidNumber ?qIsSealed_IsSealed ?qIsSealed_NoCourse ?qIsSealed_NotHeld ?qIsSealed_NotInside ?qIsSealed_NotSealed ?qIsSealed_UnknownBox ?qIsSealed_UnknownHand ?qIsSealed_UnknownItem ?qIsSealed_UnknownSeal ?eexNotInside ?ekpNotInside ?esbNotInside ?etyNotInside ?egaNotInside ?eggNotInside ?ehdNotInside ?ehaNotInside ?ehmNotInside ?enPNotInside ?enINotInside ?ewsuNotInside ?ekveNotInside ?qNotInside_InsideItself ?qNotInside_InvalidCourse ?qNotInside_InvalidHands ?qNotInside_InvalidHouse ?qNotInside_InvalidLog ?qNotInside_InvalidNumber ?qNotInside_IsSealed ?qNotInside_NoCourse ?qNotInside_NotHeld ?qNotInside_NotInside ?qNotInside_NotSealed ?qNotInside_UnknownBox ?qNotInside_UnknownHand ?qNotInside_UnknownItem ?qNotInside_UnknownSeal ?zisinstance ?zint ?zbool ?zlen ?zenumerate ?ztuple ?zlist ?zrange ?zstr ?zValueError ?zsuper ?zsorted ?zmax ?jh ?jb ?jt ?js ?pA ?pL ?pK ?p0 ?p1 ?p2 ?hcd ?ntb ?hT
    (case aC => k_is)
    (case aCW => k_is)
    (case aCE => k_is)
    (case aCT => k_is)
    (case am0 => k_is)
    (case lm0 => k_is)
    (case cm0 => k_is)
    (case km0 => k_is)
    (case am1 => k_is)
    (case lm1 => k_is)
    (case cm1 => k_is)
    (case km1 => k_is)
    (case am2 => k_is)
    (case lm2 => k_is)
    (case cm2 => k_is)
    (case km2 => k_is)
    (case am3 => k_is)
    (case lm3 => k_is)
    (case cm3 => k_is)
    (case km3 => k_is)
    (case am4 => k_is)
    (case lm4 => k_is)
    (case cm4 => k_is)
    (case km4 => k_is)
    (case am5 => k_is)
    (case lm5 => k_is)
    (case cm5 => k_is)
    (case km5 => k_is)
    (case am6 => k_is)
    (case lm6 => k_is)
    (case cm6 => k_is)
    (case km6 => k_is)
    (case am7 => k_is)
    (case lm7 => k_is)
    (case cm7 => k_is)
    (case km7 => k_is)
    (case am8 => k_is)
    (case lm8 => k_is)
    (case cm8 => k_is)
    (case km8 => k_is)
    (case am9 => k_is)
    (case lm9 => k_is)
    (case cm9 => k_is)
    (case km9 => k_is)
    (case am10 => k_is)
    (case lm10 => k_is)
    (case cm10 => k_is)
    (case km10 => k_is)
    (case am11 => k_is)
    (case lm11 => k_is)
    (case cm11 => k_is)
    (case km11 => k_is)
    (case am12 => k_is)
    (case lm12 => k_is)
    (case cm12 => k_is)
    (case km12 => k_is)
    (case am13 => k_is)
    (case lm13 => k_is)
    (case cm13 => k_is)
    (case km13 => k_is)
    (case am14 => k_is)
    (case lm14 => k_is)
    (case cm14 => k_is)
    (case km14 => k_is)
    (case am15 => k_is)
    (case lm15 => k_is)
    (case cm15 => k_is)
    (case km15 => k_is)
    (case am16 => k_is)
    (case lm16 => k_is)
    (case cm16 => k_is)
    (case km16 => k_is)
    (case am17 => k_is)
    (case lm17 => k_is)
    (case cm17 => k_is)
    (case km17 => k_is)
    (case am18 => k_is)
    (case lm18 => k_is)
    (case cm18 => k_is)
    (case km18 => k_is)
    (case am19 => k_is)
    (case lm19 => k_is)
    (case cm19 => k_is)
    (case km19 => k_is)
    (case am20 => k_is)
    (case lm20 => k_is)
    (case cm20 => k_is)
    (case km20 => k_is)
    (case am21 => k_is)
    (case lm21 => k_is)
    (case cm21 => k_is)
    (case km21 => k_is)
    (case am22 => k_is)
    (case lm22 => k_is)
    (case cm22 => k_is)
    (case km22 => k_is)
    (case am23 => k_is)
    (case lm23 => k_is)
    (case cm23 => k_is)
    (case km23 => k_is)
    (case am24 => k_is)
    (case lm24 => k_is)
    (case cm24 => k_is)
    (case km24 => k_is)
    (case am25 => k_is)
    (case lm25 => k_is)
    (case cm25 => k_is)
    (case km25 => k_is)
    (case am26 => k_is)
    (case lm26 => k_is)
    (case cm26 => k_is)
    (case km26 => k_is)
    (case am27 => k_is)
    (case lm27 => k_is)
    (case cm27 => k_is)
    (case km27 => k_is)
    (case am28 => k_is)
    (case lm28 => k_is)
    (case cm28 => k_is)
    (case km28 => k_is)
    (case am29 => k_is)
    (case lm29 => k_is)
    (case cm29 => k_is)
    (case km29 => k_is)
    (case am30 => k_is)
    (case lm30 => k_is)
    (case cm30 => k_is)
    (case km30 => k_is)
    (case am31 => k_is)
    (case lm31 => k_is)
    (case cm31 => k_is)
    (case km31 => k_is)
    (case at0 => k_is)
    (case lt0 => k_is)
    (case ct0 => k_is)
    (case kt0 => k_is)
    (case i0 => k_is)
    (case at1 => k_is)
    (case lt1 => k_is)
    (case ct1 => k_is)
    (case kt1 => k_is)
    (case i1 => k_is)
    (case at2 => k_is)
    (case lt2 => k_is)
    (case ct2 => k_is)
    (case kt2 => k_is)
    (case i2 => k_is)
    (case at3 => k_is)
    (case lt3 => k_is)
    (case ct3 => k_is)
    (case kt3 => k_is)
    (case i3 => k_is)
    (case at4 => k_is)
    (case lt4 => k_is)
    (case ct4 => k_is)
    (case kt4 => k_is)
    (case i4 => k_is)
    (case at5 => k_is)
    (case lt5 => k_is)
    (case ct5 => k_is)
    (case kt5 => k_is)
    (case i5 => k_is)
    (case at6 => k_is)
    (case lt6 => k_is)
    (case ct6 => k_is)
    (case kt6 => k_is)
    (case i6 => k_is)
    (case fn4 => k_is)
    (case aL => k_is)
    (case lL => k_is)
    (case cL => k_is)
    (case chn => k_is)
    (case cht => k_is)
    (case hpg => k_is)
    (case hhd => k_is)
    (case hpo => k_is)
    (case hsa => k_is)
    (case hmk => k_is)
    (case hkc => k_is)
    (case hha => k_is)
    (case hhm => k_is)
    (case hkk => kit_is)
    (case vpg => k_is)
    (case vhd => k_is)
    (case vpo => k_is)
    (case vsa => k_is)
    (case vmk => k_is)
    (case vkc => k_is)
    (case vha => k_is)
    (case vhm => k_is)
    (case vkk => kit_is)
    (case nH => k_is)
    (case nB => k_is)
    (case nT => k_is)
    (case nS => k_is)
    (case nSt => k_is)
    (case wnH => k_is)
    (case wnS => k_is)
    (case xL => k_is)
    (case xv => first | rfl | kernel_rfl | decide +kernel)
    (case xa => first | rfl | kernel_rfl | decide +kernel)
    (case xsa => k_is)
    (case xex => k_is)
    (case xty => k_is)
    (case xkc => k_is)
    (case xtp => k_is)
    (case xve => k_is)
    (case xse => k_is)
    (case xnP => k_is)
    (case xnI => k_is)
    (case xi => k_is)
    (case xit => k_is)
    (case xil => k_is)
    (case xic => k_is)
    (case xcl => k_is)
    (case xcf => first | rfl | kernel_rfl | decide +kernel)
    (case xff => first | rfl | kernel_rfl | decide +kernel)
    (case xcc => k_is)
    (case xtop => first | rfl | kernel_rfl | decide +kernel)
    (case wbe => k_is)
    (case wcl => k_is)
    (case wty => k_is)
    (case nInsideItself => k_is)
    (case nInvalidCourse => k_is)
    (case nInvalidHands => k_is)
    (case nInvalidLog => k_is)
    (case nInvalidNumber => k_is)
    (case nIsSealed => k_is)
    (case nNoCourse => k_is)
    (case nNotHeld => k_is)
    (case nNotInside => k_is)
    (case nNotSealed => k_is)
    (case nUnknownBox => k_is)
    (case nUnknownHand => k_is)
    (case nUnknownItem => k_is)
    (case nUnknownSeal => k_is)
    (case eexUnknownHand => first | rfl | kernel_rfl | decide +kernel)
    (case ekpUnknownHand => k_is)
    (case esbUnknownHand => k_is)
    (case etyUnknownHand => k_is)
    (case egaUnknownHand => k_is)
    (case eggUnknownHand => k_is)
    (case ehdUnknownHand => k_is)
    (case ehaUnknownHand => k_is)
    (case ehmUnknownHand => k_is)
    (case enPUnknownHand => k_is)
    (case enIUnknownHand => k_is)
    (case ewsuUnknownHand => k_is)
    (case ekveUnknownHand => kit_is)
    (case qUnknownHand_InsideItself => kit_is)
    (case qUnknownHand_InvalidCourse => kit_is)
    (case qUnknownHand_InvalidHands => kit_is)
    (case qUnknownHand_InvalidHouse => kit_is)
    (case qUnknownHand_InvalidLog => kit_is)
    (case qUnknownHand_InvalidNumber => kit_is)
    (case qUnknownHand_IsSealed => kit_is)
    (case qUnknownHand_NoCourse => kit_is)
    (case qUnknownHand_NotHeld => kit_is)
    (case qUnknownHand_NotInside => kit_is)
    (case qUnknownHand_NotSealed => kit_is)
    (case qUnknownHand_UnknownBox => kit_is)
    (case qUnknownHand_UnknownHand => kit_is)
    (case qUnknownHand_UnknownItem => kit_is)
    (case qUnknownHand_UnknownSeal => kit_is)
    (case eexUnknownItem => first | rfl | kernel_rfl | decide +kernel)
    (case ekpUnknownItem => k_is)
    (case esbUnknownItem => k_is)
    (case etyUnknownItem => k_is)
    (case egaUnknownItem => k_is)
    (case eggUnknownItem => k_is)
    (case ehdUnknownItem => k_is)
    (case ehaUnknownItem => k_is)
    (case ehmUnknownItem => k_is)
    (case enPUnknownItem => k_is)
    (case enIUnknownItem => k_is)
    (case ewsuUnknownItem => k_is)
    (case ekveUnknownItem => kit_is)
    (case qUnknownItem_InsideItself => kit_is)
    (case qUnknownItem_InvalidCourse => kit_is)
    (case qUnknownItem_InvalidHands => kit_is)
    (case qUnknownItem_InvalidHouse => kit_is)
    (case qUnknownItem_InvalidLog => kit_is)
    (case qUnknownItem_InvalidNumber => kit_is)
    (case qUnknownItem_IsSealed => kit_is)
    (case qUnknownItem_NoCourse => kit_is)
    (case qUnknownItem_NotHeld => kit_is)
    (case qUnknownItem_NotInside => kit_is)
    (case qUnknownItem_NotSealed => kit_is)
    (case qUnknownItem_UnknownBox => kit_is)
    (case qUnknownItem_UnknownHand => kit_is)
    (case qUnknownItem_UnknownItem => kit_is)
    (case qUnknownItem_UnknownSeal => kit_is)
    (case eexUnknownBox => first | rfl | kernel_rfl | decide +kernel)
    (case ekpUnknownBox => k_is)
    (case esbUnknownBox => k_is)
    (case etyUnknownBox => k_is)
    (case egaUnknownBox => k_is)
    (case eggUnknownBox => k_is)
    (case ehdUnknownBox => k_is)
    (case ehaUnknownBox => k_is)
    (case ehmUnknownBox => k_is)
    (case enPUnknownBox => k_is)
    (case enIUnknownBox => k_is)
    (case ewsuUnknownBox => k_is)
    (case ekveUnknownBox => kit_is)
    (case qUnknownBox_InsideItself => kit_is)
    (case qUnknownBox_InvalidCourse => kit_is)
    (case qUnknownBox_InvalidHands => kit_is)
    (case qUnknownBox_InvalidHouse => kit_is)
    (case qUnknownBox_InvalidLog => kit_is)
    (case qUnknownBox_InvalidNumber => kit_is)
    (case qUnknownBox_IsSealed => kit_is)
    (case qUnknownBox_NoCourse => kit_is)
    (case qUnknownBox_NotHeld => kit_is)
    (case qUnknownBox_NotInside => kit_is)
    (case qUnknownBox_NotSealed => kit_is)
    (case qUnknownBox_UnknownBox => kit_is)
    (case qUnknownBox_UnknownHand => kit_is)
    (case qUnknownBox_UnknownItem => kit_is)
    (case qUnknownBox_UnknownSeal => kit_is)
    (case eexUnknownSeal => first | rfl | kernel_rfl | decide +kernel)
    (case ekpUnknownSeal => k_is)
    (case esbUnknownSeal => k_is)
    (case etyUnknownSeal => k_is)
    (case egaUnknownSeal => k_is)
    (case eggUnknownSeal => k_is)
    (case ehdUnknownSeal => k_is)
    (case ehaUnknownSeal => k_is)
    (case ehmUnknownSeal => k_is)
    (case enPUnknownSeal => k_is)
    (case enIUnknownSeal => k_is)
    (case ewsuUnknownSeal => k_is)
    (case ekveUnknownSeal => kit_is)
    (case qUnknownSeal_InsideItself => kit_is)
    (case qUnknownSeal_InvalidCourse => kit_is)
    (case qUnknownSeal_InvalidHands => kit_is)
    (case qUnknownSeal_InvalidHouse => kit_is)
    (case qUnknownSeal_InvalidLog => kit_is)
    (case qUnknownSeal_InvalidNumber => kit_is)
    (case qUnknownSeal_IsSealed => kit_is)
    (case qUnknownSeal_NoCourse => kit_is)
    (case qUnknownSeal_NotHeld => kit_is)
    (case qUnknownSeal_NotInside => kit_is)
    (case qUnknownSeal_NotSealed => kit_is)
    (case qUnknownSeal_UnknownBox => kit_is)
    (case qUnknownSeal_UnknownHand => kit_is)
    (case qUnknownSeal_UnknownItem => kit_is)
    (case qUnknownSeal_UnknownSeal => kit_is)
    (case eexInsideItself => first | rfl | kernel_rfl | decide +kernel)
    (case ekpInsideItself => k_is)
    (case esbInsideItself => k_is)
    (case etyInsideItself => k_is)
    (case egaInsideItself => k_is)
    (case eggInsideItself => k_is)
    (case ehdInsideItself => k_is)
    (case ehaInsideItself => k_is)
    (case ehmInsideItself => k_is)
    (case enPInsideItself => k_is)
    (case enIInsideItself => k_is)
    (case ewsuInsideItself => k_is)
    (case ekveInsideItself => kit_is)
    (case qInsideItself_InsideItself => kit_is)
    (case qInsideItself_InvalidCourse => kit_is)
    (case qInsideItself_InvalidHands => kit_is)
    (case qInsideItself_InvalidHouse => kit_is)
    (case qInsideItself_InvalidLog => kit_is)
    (case qInsideItself_InvalidNumber => kit_is)
    (case qInsideItself_IsSealed => kit_is)
    (case qInsideItself_NoCourse => kit_is)
    (case qInsideItself_NotHeld => kit_is)
    (case qInsideItself_NotInside => kit_is)
    (case qInsideItself_NotSealed => kit_is)
    (case qInsideItself_UnknownBox => kit_is)
    (case qInsideItself_UnknownHand => kit_is)
    (case qInsideItself_UnknownItem => kit_is)
    (case qInsideItself_UnknownSeal => kit_is)
    (case eexNotHeld => first | rfl | kernel_rfl | decide +kernel)
    (case ekpNotHeld => k_is)
    (case esbNotHeld => k_is)
    (case etyNotHeld => k_is)
    (case egaNotHeld => k_is)
    (case eggNotHeld => k_is)
    (case ehdNotHeld => k_is)
    (case ehaNotHeld => k_is)
    (case ehmNotHeld => k_is)
    (case enPNotHeld => k_is)
    (case enINotHeld => k_is)
    (case ewsuNotHeld => k_is)
    (case ekveNotHeld => kit_is)
    (case qNotHeld_InsideItself => kit_is)
    (case qNotHeld_InvalidCourse => kit_is)
    (case qNotHeld_InvalidHands => kit_is)
    (case qNotHeld_InvalidHouse => kit_is)
    (case qNotHeld_InvalidLog => kit_is)
    (case qNotHeld_InvalidNumber => kit_is)
    (case qNotHeld_IsSealed => kit_is)
    (case qNotHeld_NoCourse => kit_is)
    (case qNotHeld_NotHeld => kit_is)
    (case qNotHeld_NotInside => kit_is)
    (case qNotHeld_NotSealed => kit_is)
    (case qNotHeld_UnknownBox => kit_is)
    (case qNotHeld_UnknownHand => kit_is)
    (case qNotHeld_UnknownItem => kit_is)
    (case qNotHeld_UnknownSeal => kit_is)
    (case eexNotSealed => first | rfl | kernel_rfl | decide +kernel)
    (case ekpNotSealed => k_is)
    (case esbNotSealed => k_is)
    (case etyNotSealed => k_is)
    (case egaNotSealed => k_is)
    (case eggNotSealed => k_is)
    (case ehdNotSealed => k_is)
    (case ehaNotSealed => k_is)
    (case ehmNotSealed => k_is)
    (case enPNotSealed => k_is)
    (case enINotSealed => k_is)
    (case ewsuNotSealed => k_is)
    (case ekveNotSealed => kit_is)
    (case qNotSealed_InsideItself => kit_is)
    (case qNotSealed_InvalidCourse => kit_is)
    (case qNotSealed_InvalidHands => kit_is)
    (case qNotSealed_InvalidHouse => kit_is)
    (case qNotSealed_InvalidLog => kit_is)
    (case qNotSealed_InvalidNumber => kit_is)
    (case qNotSealed_IsSealed => kit_is)
    (case qNotSealed_NoCourse => kit_is)
    (case qNotSealed_NotHeld => kit_is)
    (case qNotSealed_NotInside => kit_is)
    (case qNotSealed_NotSealed => kit_is)
    (case qNotSealed_UnknownBox => kit_is)
    (case qNotSealed_UnknownHand => kit_is)
    (case qNotSealed_UnknownItem => kit_is)
    (case qNotSealed_UnknownSeal => kit_is)
    (case eexIsSealed => first | rfl | kernel_rfl | decide +kernel)
    (case ekpIsSealed => k_is)
    (case esbIsSealed => k_is)
    (case etyIsSealed => k_is)
    (case egaIsSealed => k_is)
    (case eggIsSealed => k_is)
    (case ehdIsSealed => k_is)
    (case ehaIsSealed => k_is)
    (case ehmIsSealed => k_is)
    (case enPIsSealed => k_is)
    (case enIIsSealed => k_is)
    (case ewsuIsSealed => k_is)
    (case ekveIsSealed => kit_is)
    (case qIsSealed_InsideItself => kit_is)
    (case qIsSealed_InvalidCourse => kit_is)
    (case qIsSealed_InvalidHands => kit_is)
    (case qIsSealed_InvalidHouse => kit_is)
    (case qIsSealed_InvalidLog => kit_is)
    (case qIsSealed_InvalidNumber => kit_is)
    (case qIsSealed_IsSealed => kit_is)
    (case qIsSealed_NoCourse => kit_is)
    (case qIsSealed_NotHeld => kit_is)
    (case qIsSealed_NotInside => kit_is)
    (case qIsSealed_NotSealed => kit_is)
    (case qIsSealed_UnknownBox => kit_is)
    (case qIsSealed_UnknownHand => kit_is)
    (case qIsSealed_UnknownItem => kit_is)
    (case qIsSealed_UnknownSeal => kit_is)
    (case eexNotInside => first | rfl | kernel_rfl | decide +kernel)
    (case ekpNotInside => k_is)
    (case esbNotInside => k_is)
    (case etyNotInside => k_is)
    (case egaNotInside => k_is)
    (case eggNotInside => k_is)
    (case ehdNotInside => k_is)
    (case ehaNotInside => k_is)
    (case ehmNotInside => k_is)
    (case enPNotInside => k_is)
    (case enINotInside => k_is)
    (case ewsuNotInside => k_is)
    (case ekveNotInside => kit_is)
    (case qNotInside_InsideItself => kit_is)
    (case qNotInside_InvalidCourse => kit_is)
    (case qNotInside_InvalidHands => kit_is)
    (case qNotInside_InvalidHouse => kit_is)
    (case qNotInside_InvalidLog => kit_is)
    (case qNotInside_InvalidNumber => kit_is)
    (case qNotInside_IsSealed => kit_is)
    (case qNotInside_NoCourse => kit_is)
    (case qNotInside_NotHeld => kit_is)
    (case qNotInside_NotInside => kit_is)
    (case qNotInside_NotSealed => kit_is)
    (case qNotInside_UnknownBox => kit_is)
    (case qNotInside_UnknownHand => kit_is)
    (case qNotInside_UnknownItem => kit_is)
    (case qNotInside_UnknownSeal => kit_is)
    (case zisinstance => k_is)
    (case zint => k_is)
    (case zbool => k_is)
    (case zlen => k_is)
    (case zenumerate => k_is)
    (case ztuple => k_is)
    (case zlist => k_is)
    (case zrange => k_is)
    (case zstr => k_is)
    (case zValueError => k_is)
    (case zsuper => k_is)
    (case zsorted => k_is)
    (case zmax => k_is)
    (case jh => k_is)
    (case jb => k_is)
    (case jt => k_is)
    (case js => k_is)
    (case pA => k_is)
    (case pL => k_is)
    (case pK => first | exact ⟨⟨_, _, rfl, rfl⟩, ⟨_, _, rfl, rfl⟩, ⟨_, _, rfl, rfl⟩, trivial⟩ | decide +kernel)
    (case p0 => k_is)
    (case p1 => k_is)
    (case p2 => k_is)
    (case hcd => first | rfl | kernel_rfl | decide +kernel)
    (case ntb => first | rfl | kernel_rfl | decide +kernel)
    (case hT => exact PySem.W.km_tabs_of Y 593 (by decide))
#print axioms PySem.Challenge.cw_sealwatch_k02_whole_deeds_done_holds
