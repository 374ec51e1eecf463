import PyProof.Rows.All
import Wide.All
import OpenK.AllK
import Wide.FinOn
import PyProof.EqAt
import PyProof.EqKinds
import PyProof.TupleCall
import KE.KExcSuper
import HandS.Base
import HandS.Call
import HandS.List
import HandS.Ends
import HandS.Exc
import HandS.ExcInit
import KE.GoesMore
import HandS.Iter
import KE.KIsAll
import KE.KTryMore
import HandS.ExcIs
import HandS.Deep
import HandS.Words
import HandS.Strs
import HandS.ForExc
import HandS.Comp
import HandS.FStr
import HandS.Property
import HandS.IsInst
import HandS.TupAny
import HandS.RaiseMore
import PySem.Challenge.RW_sealwatch_k49_whole_boards
import HandS.StrMore
import HandS.Lambda
import HandS.ExcField
import PyProof.Rows.MatchSeqLen
import HandS.FStrTup
import HandS.Sort
import HandS.TupLe
import PyProof.P3Eq
import KE.KSortTup
import KE.KCallOwn
import HandS.TryOnly
import HandS.Conv
import PyProof.FString5
import HandS.SortRule
import HandS.SortOrd
import HandS.More
import HandS.EndTab
set_option Elab.async false
set_option linter.all false
set_option maxRecDepth 100000
set_option maxHeartbeats 4000000
/-! An own exception class (over own classes over ValueError) whose `__init__` begins with `super().__init__(text)` and then stores fields: its promise (FnOk), so that pmk_oex serves it. -/
namespace Kw
open PySem PySem.Spec PyProof.Rows L2

/-- the scope of such an __init__: parameters alone, the class's cell, the name super -/
structure SupScope (N : List Str) (sc : Scope) : Prop where
  kind : sc.kind = .function
  co : sc.isCoroutine = false
  gen : sc.isGenerator = false
  nd : N.Nodup
  par : ∀ x ∈ N, sc.names.lookup x = some .local
  nocell : ∀ y ∈ sc.names, y.2 ≠ .cell
  onlyFree : ∀ y, sc.names.lookup y = some .free → y = ("__class__" : Str)
  cls : sc.names.lookup ("__class__" : Str) = some .free
  sup : sc.names.lookup ("super" : Str) = some .globalImplicit

abbrev sEnv (qual : Str) (scope : Scope) (L f : Addr) (cd : Value) (cc : Addr) : Env := PySem.W.ksEnv qual scope L f cd cc

/-- the context of the body -/
def supCx (CX : CXT) (P : Program) (w : World) (K : PySem.W.Frag) (mg : Str → Option Value) (base : Heap) (N : List Str) (qual : Str) (scope : Scope) (f : Addr) (cd : Value) (cc : Addr) (A : Around) (outer : List Env) (s : Shared) (H : Hp) (E : XK) : Cx where
  prog := P
  w := w
  K := K
  mg := mg
  base := base
  A := A.deeper (sEnv qual scope s.heap.objs.size f cd cc)
  N := N
  s_0 := s
  H_0 := H
  env := sEnv qual scope s.heap.objs.size f cd cc
  outer := outer
  stack := sEnv qual scope s.heap.objs.size f cd cc :: outer
  ex := []
  calm := true
  fn := fun _ => false
  pn := []
  xe := fun e s' => wpAny (model P w) (A.deeper (sEnv qual scope s.heap.objs.size f cd cc)) (leaving (sEnv qual scope s.heap.objs.size f cd cc) e) (fun _ s'' => CX outer H s E e s'') (fun e' s'' => CX outer H s E e' s'') s'

section
variable {CX : CXT} {P : Program} {w : World} {K : PySem.W.Frag} {mg : Str → Option Value} {base : Heap} {N : List Str} {qual : Str} {scope : Scope} {f cc : Addr} {cd : Value} {A : Around} {outer : List Env} {s : Shared} {H : Hp} {E : XK}
theorem sup_start {us : List Value} {vs : List V} {h1 : Heap} {tk : Nat} {D : Addr} {ccl : Value} {ccd : Option Addr} {ccs : Array (Option Value)} (S : SupScope N scope) (hd : A.handled = none) (e0 : Env0 P w K mg base A outer s H) (hl : vs.length = N.length) (r : Vals vs us)
    (hcell : K.lookup cc = some ⟨ccl, ccd, .cell (some (.ref D)), ccs⟩)
    (hns : h1.Ns s.heap.objs.size (fun x => (N.zip us).reverse.lookup x)) (hk : ∀ b o, s.heap.get? b = some o → h1.get? b = some o) :
    Inv (supCx CX P w K mg base N qual scope f cd cc A outer s H E) [] (vs.map some) H { s with heap := h1, toks := tk } := by
  have noA : ∀ b : Addr, b ∉ (supCx CX P w K mg base N qual scope f cd cc A outer s H E).ex := fun b z => absurd (show b ∈ ([] : List Addr) from z) (by simp)
  have KX := e0.mod.kin
  have hcb := KX _ _ hcell
  have cells : ∀ {y c}, (supCx CX P w K mg base N qual scope f cd cc A outer s H E).env.cells.lookup y = some c → y = ("__class__" : Str) ∧ c = cc := fun {y c} h => by
    have h' : List.lookup y [(("__class__" : Str), cc)] = some c := h
    by_cases e : y = ("__class__" : Str)
    · subst e
      have q : List.lookup ("__class__" : Str) [(("__class__" : Str), cc)] = some cc := by simp [List.lookup]
      rw [q] at h'
      exact ⟨rfl, (Option.some.inj h').symm⟩
    · have q : (y == ("__class__" : Str)) = false := by simpa using e
      simp [List.lookup, q] at h'
  refine ⟨⟨e0.mod, S.kind, rfl, rfl, Nat.le_refl _, fun y z c h1 h2 => (cells h1).1.trans (cells h2).1.symm, fun y hy => ?_, fun y c h _ => Bool.noConfusion (show false = true from h), fun _ => hd, Around.frames_deeper e0.frames, .inr ⟨rfl, rfl⟩, fun b z => absurd z (noA b), e0.bs, e0.bsz, fun b _ _ => noA b, fun b z => absurd z (noA b), e0.funs, e0.frf⟩,
    rfl, e0.bare, Un.kept hk, ⟨_, hns, fun i y v h1 h2 h3 => ?_⟩, fun y c h => ?_, e0.hok.fresh (Nat.le_refl _), fun y c h => ?_, fun p hp => absurd (show p ∈ ([] : List (Addr × Obj)) from hp) (by simp), e0.hok.kept hk, ?_⟩
  · have hy : scope.names.lookup y = some .cell ∨ scope.names.lookup y = some .free := hy
    rcases hy with hy | hy
    · exact absurd rfl (S.nocell _ (PySem.mem_of_lookup hy))
    · have e := S.onlyFree y hy
      subst e
      exact ⟨cc, by show List.lookup ("__class__" : Str) [(("__class__" : Str), cc)] = some cc; simp [List.lookup]⟩
  · rw [List.getElem?_map] at h2
    cases e : vs[i]? with
    | none =>
      rw [e] at h2
      cases h2
    | some a =>
      rw [e] at h2
      cases h2
      obtain ⟨u, hu, rv⟩ := r.get e
      have hp : N[i]? = some y := h1
      refine ⟨u, rv, .inl ⟨S.par y (List.mem_of_getElem? hp), ?_⟩⟩
      have hlen := r.length
      -- the place of y in the reversed bindings
      have key : ∀ (N : List Str) (us : List Value) (i : Nat), N.Nodup → N[i]? = some y → us[i]? = some u → (N.zip us).reverse.lookup y = some u := by
        intro N
        induction N with
        | nil => intro us i _ h; simp at h
        | cons n N ih =>
          intro us i nd h1 h2
          cases us with
          | nil => simp at h2
          | cons u0 us =>
            rw [List.zip_cons_cons, List.reverse_cons]
            cases i with
            | zero =>
              simp at h1 h2
              subst h1 h2
              have hn : (N.zip us).reverse.lookup n = none := by
                have hnn := (List.nodup_cons.mp nd).1
                cases q : (N.zip us).reverse.lookup n with
                | none => rfl
                | some z =>
                  have hm := PySem.mem_of_lookup q
                  exact absurd (List.of_mem_zip (List.mem_reverse.mp hm)).1 hnn
              rw [List.lookup_append, hn]
              simp [List.lookup]
            | succ i =>
              have q := ih us i (List.nodup_cons.mp nd).2 (by simpa using h1) (by simpa using h2)
              rw [List.lookup_append, q]
              rfl
      exact key N us i S.nd hp hu
  · obtain ⟨_, rfl⟩ := cells h
    exact ⟨_, _, hk _ _ (e0.bs _ _ hcb).1, rfl⟩
  · obtain ⟨_, rfl⟩ := cells h
    exact (e0.bs _ _ hcb).2
  · show (vs.map some).length = N.length
    rw [List.length_map, hl]
end

/-! ### super().__init__(text) on an exception that is being made -/
/-- what the written part says: the class at C that is made, the class at D in whose body the __init__ stands (here the same) -/
structure SupC (prog : Program) (K : PySem.W.Frag) (mg : Str → Option Value) (C : Addr) : Prop where
  oex : OexC K C
  along : ∃ nm q N bs bm sn sub ab col dd k0 k1 k2 k3 k5, K.lookup C = some (excClassObj nm q C N bs bm true sn sub ab col dd k0 k1 k2 k3 k5 "ValueError.__new__") ∧ PySem.HandSPX.refsVE bm = true ∧
    PySem.W.alongIn K "__init__" ((((Value.ref C :: bm).dropWhile (· != .ref C)).drop 1)) = some (some (.builtin "ValueError.__init__"))
  tp : PySem.W.nsIn K cStatics "thirdparty.any" = some none
  sup : mg "super" = none
  isVE : PySem.W.subIn K (.ref C) (.type "ValueError") = some true
  self : PySem.W.mroIn K C (.ref C) = some true
  htop : (prog.main.scope.names.lookup ("super" : Str)).isSome = false

theorem boot_super : bootBuiltins "super" = some (.type "super") := by first | boot_by_name | rfl | kernel_rfl

section
variable {X : Cx} {pins : List (Addr × Obj)} {σ : L2.St} {H : Hp} {s : Shared} {a C : Addr} {E : Value → Shared → Prop} {A : Around}
/-- the built-in __init__, bound: nothing of it is told -/
theorem bw_ok {us : List Value} {u : Addr} {Q : Value → Shared → Prop} (T : OexC X.K C) (I : Inv X pins σ H s) (e : H a = some (exo a C none)) (hu : s.heap.get? u = some (PySem.W.kxs_mw "ValueError.__init__" a)) (hl : us.length ≤ sizeLine) (h : ∀ s', Inv X pins σ H s' → Q .none s') :
    wpAny (model X.prog X.w) A (call (.ref u) us) Q E s := by
  obtain ⟨nm, q, N, bs, bm, sn, sub, ab, col, dd, k0, k1, k2, k3, k5, hC, hbm⟩ := T.cls
  obtain ⟨t1, ho⟩ := exo_at I.hok e
  have hCk := I.kIn _ _ hC
  obtain ⟨hp, g, d, t, os⟩ := s
  have fin : ∀ h' : Heap, (∀ b o, b ≠ a → hp.get? b = some o → h'.get? b = some o) → h'.get? a = some (PySem.HandSPX.excO C hp.objs.size) → h'.get? hp.objs.size = some (PySem.W.excTup us) → Q .none ⟨h', g, d, t, os⟩ := fun h' k hx _ => by
    have J := I.write (t' := t) (x := a) (e := a) (o := exo a C none) (by rw [e]; exact True.intro) (.inl rfl) k ⟨_, hx⟩ (exo_ok hx)
    have eu : upd H a (exo a C none) = H := by
      funext b
      by_cases hb : b = a
      · rw [hb, upd_same, e]
      · rw [upd_ne hb]
    rw [eu] at J
    exact h _ J
  refine wpAny_call (codeAny_of_tree ?_)
  show wpAny _ A.in1 (callAny (.ref u) ⟨us, []⟩) _ _ _
  simp only [callAny]
  refine wpAny_bind (wpAny_load hu ?_)
  simp only [PySem.W.kxs_mw, show (Value.type "method-wrapper" == Value.type "method" || Value.type "method-wrapper" == Value.type "builtin_function_or_method" || Value.type "method-wrapper" == Value.type "method-wrapper") = true by decide, if_true]
  refine PySem.W.KFB.if_so (by decide) ?_
  refine wpAny_bind (PySem.W.check_bound_init F.excBase_ValueError.toExcCallFacts hCk ho rfl ?_)
  refine wpAny_bind (wpAny_pure (wpAny_pure ?_))
  refine ⟨plainId_quiet F.excBase_ValueError.init.plain _, codeAny_builtin F.excBase_ValueError.initEntry ?_⟩
  exact PySem.W.exc_init_tree (cls := .ref C) (t0 := t1) (dv := none) (c2 := .none) (c3 := .none) (b4 := .bool false) ho hl fin
end

/-! ### the body: super().__init__(e); the rest -/
/-- the reading: e a text, then self is an exception that is being made, then the rest -/
def tSup (C : Addr) (te : TE) (t : TS) : TS := fun D σ H => te σ H fun v H1 => (∃ z, v = .str z) ∧ ∃ a, σ[0]? = some (some (.ref a)) ∧ H1 a = some (exo a C none) ∧ t D σ H1
abbrev supCall (e : Expr) (p0 p1 p2 p3 : Pos) : Expr := .Call (.Attribute (.Call (.Name "super" p0) [] [] p1) "__init__" p2) [e] [] p3
section
variable {CX : CXT} {P : Program} {w : World} {K : PySem.W.Frag} {mg : Str → Option Value} {base : Heap} {k : Nat} {N : List Str} {name qual : Str} {scope : Scope} {params : Arguments} {f cc cda C : Addr} {ar : Arg} {vsC : Array Value} {fileS : Str} {tf : Tok}
  {dV kV doc pm ct oc ccl cl : Value} {an od cdd cld : Option Addr} {osl ccs csl : Array (Option Value)} {e : Expr} {rest : List Stmt} {p0 p1 p2 p3 p4 : Pos} {sp : Sp} {pl : Addr → Sem Bool}
theorem fn_super (T : SupC P K mg C)
    (lk : K.lookup f = some ⟨oc, od, .func (PySem.W.ksFn name qual params (.Expr (supCall e p0 p1 p2 p3) p4 :: rest) scope dV kV doc pm an (.ref cda) ct cc), osl⟩) (hcd : PySem.W.codeIn K (.ref cda) qual = true)
    (hp : (params.posonlyargs ++ params.args).head? = some ar) (hself : N[0]? = some ar.arg)
    (hcode : K.lookup cda = some ⟨ccl, cdd, .fields vsC, ccs⟩) (hvs : vsC[2]? = some (.str fileS tf)) (hfile : ((P.main.file : Str) == fileS) = true)
    (hcell : K.lookup cc = some ⟨cl, cld, .cell (some (.ref C)), csl⟩)
    (S : SupScope N scope) (len : ∀ vs H Q E, sp vs H Q E → vs.length = N.length)
    (hsw : ∀ L, swapsWith (supCall e p0 p1 p2 p3) none p4.line (sEnv qual scope L f (.ref cda) cc) = pure false)
    (hev : ∀ L, eval (supCall e p0 p1 p2 p3) (sEnv qual scope L f (.ref cda) cc) = (do
      let ov ← attributeBase (.Call (.Name "super" p0) [] [] p1) "__init__" (sEnv qual scope L f (.ref cda) cc) (eval (.Call (.Name "super" p0) [] [] p1) (sEnv qual scope L f (.ref cda) cc))
      standAt p2.atName
      let (g, first) ← holding [ov] (getMethod ov "__init__" (pl L))
      callWith p3 g first (backTo p3 (starEach [e] (sEnv qual scope L f (.ref cda) cc))) []))
    (hst : ∀ L, starEach [e] (sEnv qual scope L f (.ref cda) cc) = [(false, eval e (sEnv qual scope L f (.ref cda) cc))])
    (hbody : ∀ (A : Around) (outer : List Env) (s : Shared) (H : Hp) (vs : List V) (Q : VK) (E : XK), Room k (A.deeper (sEnv qual scope s.heap.objs.size f (.ref cda) cc)) → sp vs H Q E →
      ∃ te t, PE (supCx CX P w K mg base N qual scope f (.ref cda) cc A outer s H E) e te ∧ PSs (supCx CX P w K mg base N qual scope f (.ref cda) cc A outer s H E) rest t ∧
        (∃ a, vs[0]? = some (V.ref a) ∧ H a = some (exo a C none)) ∧ tSup C te t { nx := fun _ H' => Q .non H', rt := Q } (vs.map some) H) :
    FnOk P w K mg base CX (k + 1) f (PySem.W.ksFn name qual params (.Expr (supCall e p0 p1 p2 p3) p4 :: rest) scope dV kV doc pm an (.ref cda) ct cc) N sp := by
  refine ⟨len, fun A outer s H args us vs Q E hr e0 hb r hsp => ?_⟩
  have hl := len _ _ _ _ hsp
  have KX : K.In s.heap := e0.mod.kin.keeps fun b o e => (e0.bs b o e).1
  have lim : s.heap.NoLimit := e0.mod.nolimit.keeps fun b o e => (e0.bs b o e).1
  refine PySem.ks_codeAny_call_defAt (binds := N.zip us) hr.depth (KX _ _ lk) rfl lim (PySem.W.codeRec_of KX hcd) rfl hb S.nocell (fun y hy => S.par y.1 (List.of_mem_zip hy).1) (fun h1 hns hk => ?_) S.co S.gen S.kind
  obtain ⟨te, t, pe, pss, ⟨a, hva, hHa⟩, hq⟩ := hbody A outer s H vs Q E (hr.deeper _) hsp
  have I : L2.Inv (supCx CX P w K mg base N qual scope f (.ref cda) cc A outer s H E) [] (vs.map some) H { s with heap := h1, toks := s.toks + (N.zip us).length } := sup_start S hr.hd e0 hl r hcell hns hk
  have fin : ∀ {σ' : L2.St} {H' : Hp} {v : V} {u : Value} {s' : Shared}, L2.Inv (supCx CX P w K mg base N qual scope f (.ref cda) cc A outer s H E) [] σ' H' s' → RelV v u → Q v H' → CE outer P w H s Q u s' :=
    fun {σ' H' v u s'} J rv q => ⟨v, H', J.os, J.bare, J.base, J.hok, rv, q⟩
  show PySem.wpAt _ _ _ (execs _ (sEnv qual scope s.heap.objs.size f (.ref cda) cc)) _ _ _
  refine PySem.ks_wpAt_execs_cons (PySem.ks_wpAt_Expr_any (PySem.ks_wpAt_MethodCall (pl := pl s.heap.objs.size) ?_ (hev _)) I.quiet (hsw _))
  obtain ⟨nm, q, N', bs, bm, sn, sub, ab, col, dd, k0, k1, k2, k3, k5, hC, hbm, hal⟩ := T.along
  have KX1 : K.In h1 := KX.keeps hk
  have hcl : PySem.W.clsIn K C = some { name := nm, bases := bs, mro := .ref C :: bm, ns := N', qualname := q, hasDict := true, slotNames := sn, subclasses := sub, abstract := ab, collection := col, hasDel := false } := by unfold PySem.W.clsIn; rw [hC] <;> rfl
  have e0' : (vs.map some)[0]? = some (some (V.ref a)) := by rw [List.getElem?_map, hva]; rfl
  -- self, a
  obtain ⟨m, hnm, hlm⟩ := id I.loc
  obtain ⟨uS, ruS, lkS⟩ := hlm 0 ar.arg (V.ref a) hself e0' (.inl (S.par _ (List.mem_of_getElem? hself)))
  obtain rfl : uS = Value.ref a := ruS
  have hma : m ar.arg = some (.ref a) := by
    rcases lkS with ⟨_, z⟩ | ⟨z, _⟩
    · exact z
    · have z' : scope.names.lookup ar.arg = some .cell ∨ scope.names.lookup ar.arg = some .free := z
      rw [S.par _ (List.mem_of_getElem? hself)] at z'
      rcases z' with z' | z' <;> cases z'
  obtain ⟨t1, ho⟩ := exo_at I.hok hHa
  obtain ⟨mb, hmb, hmb2⟩ := I.mod.blt
  refine PySem.ks_wpAt_super_base (env := sEnv qual scope s.heap.objs.size f (.ref cda) cc) S.sup S.cls (by decide) rfl (KX1 _ _ lk) rfl hp rfl (KX1 _ _ hcode) rfl hvs hfile T.htop ?_
  refine PySem.W.ks_loadName_global S.kind S.sup (Calls.loadGlobal_builtin (env := sEnv qual scope s.heap.objs.size f (.ref cda) cc) (I.mod.glob.keeps I.bk) T.sup (hmb.keeps I.bk) ((hmb2 _ (by decide +kernel)).trans boot_super) ⟨rfl, ?_⟩)
  refine wpAny_loadName_free S.kind S.cls rfl ⟨_, KX1 _ _ hcell, rfl⟩ ?_
  refine wpAny_loadName_local S.kind (S.par _ (List.mem_of_getElem? hself)) hnm hma ?_
  obtain ⟨oD, hD1, hD2⟩ : ∃ oD, h1.get? C = some oD ∧ oD.data = .cls { name := nm, bases := bs, mro := .ref C :: bm, ns := N', qualname := q, hasDict := true, slotNames := sn, subclasses := sub, abstract := ab, collection := col, hasDel := false } := ⟨_, KX1 _ _ hC, rfl⟩
  refine PySem.ks_wpAny_isType_cls hD1 hD2 ⟨rfl, ?_⟩
  refine PySem.ks_wpAny_call_super hD1 hD2 ho rfl (fun c e => nomatch e) (PySem.W.looks_mroIn KX1 T.self) (fun h2 eso kk => ?_)
  -- the super object stands; its method
  have I2 := I.kept (t' := s.toks + (N.zip us).length) kk
  have KX2 : K.In h2 := KX1.keeps kk
  have ho2 := kk _ _ ho
  have It : PySem.W.InstAt h2 a { cls := .ref C, dict := none, data := .fields #[.ref t1, .none, .none, .none, .bool false, .none] } C none := ⟨ho2, rfl, rfl, trivial⟩
  refine PySem.W.kxs_getMethod PySem.W.kxs_ValueError eso (PySem.W.looks_opaque KX2 T.tp) (l₀ := .ref C :: bm) (fun A Q E s k q => wpAny_bind ((PySem.W.looks_clsIn KX2 hcl) A _ E s k (wpAny_pure q))) rfl KX2 hal (It.type.andThen (PySem.W.looks_subIn KX2 T.isVE)) (PySem.W.ks_ne KX2 It hcl) (by decide) ?_
  have I3 := I2.kept (t' := s.toks + (N.zip us).length + 1) (h' := h2.push (PySem.W.kxs_mw "ValueError.__init__" a)) fun b o e => Heap.get?_push_of_some _ e
  have hu : (h2.push (PySem.W.kxs_mw "ValueError.__init__" a)).get? h2.objs.size = some (PySem.W.kxs_mw "ValueError.__init__" a) := Heap.get?_push_at rfl rfl
  have I4 := I3.pins_of (pins' := [(h2.objs.size, PySem.W.kxs_mw "ValueError.__init__" a)]) (fun p hp => by
    obtain rfl := List.mem_singleton.mp hp
    exact ⟨hu, I2.hok.fresh (Nat.le_refl _), Nat.ne_of_gt I2.lt, I2.nofs (Nat.le_refl _), fun v z => nomatch z⟩)
  show wpAny _ _ (callWith p3 (.ref h2.objs.size) [] (backTo p3 (starEach [e] (sEnv qual scope s.heap.objs.size f (.ref cda) cc))) []) _ _ _
  have pa : PA (supCx CX P w K mg base N qual scope f (.ref cda) cc A outer s H E) [e] (tCons te tNil) := pa_cons pe pa_nil (hst _)
  have ru := pa.run p3 _ _ (vs.map some) H (fun ws H1 => match ws with | [v] => (∃ z, v = .str z) ∧ ∃ a, (vs.map some)[0]? = some (some (.ref a)) ∧ H1 a = some (exo a C none) ∧ t { nx := fun _ H' => Q .non H', rt := Q } (vs.map some) H1 | _ => False) I4 hq
  have ehs : starEach [e] (supCx CX P w K mg base N qual scope f (.ref cda) cc A outer s H E).env = [(false, eval e (sEnv qual scope s.heap.objs.size f (.ref cda) cc))] := hst _
  rw [ehs] at ru
  rw [hst]
  refine PySem.W.kxs_callWith (i := "ValueError.__init__") (x := a) rfl (Calls.evalArgs_plain (thn ru fun ws s5 hw => ?_))
  obtain ⟨vs5, H5, I5, r5, q5⟩ := hw
  have hu5 : s5.heap.get? h2.objs.size = some (PySem.W.kxs_mw "ValueError.__init__" a) := (I5.pin (h2.objs.size, PySem.W.kxs_mw "ValueError.__init__" a) (List.mem_append.mpr (.inr (List.mem_singleton.mpr rfl)))).1
  refine ⟨hu5, ?_⟩
  cases r5 with
  | nil => exact q5.elim
  | @cons v5 u5 vr ur rv rr =>
    cases rr with
    | cons _ _ => exact q5.elim
    | nil =>
      obtain ⟨_, a', ea', hH5, q5⟩ := q5
      have ea : a' = a := by
        have z := ea'.symm.trans e0'
        cases z
        rfl
      subst ea
      refine bw_ok (X := supCx CX P w K mg base N qual scope f (.ref cda) cc A outer s H E) T.oex I5 hH5 hu5 (by show 1 ≤ sizeLine; rw [sizeLine_eq]; decide) fun s6 I6 => ?_
      have I7 : L2.Inv (supCx CX P w K mg base N qual scope f (.ref cda) cc A outer s H E) [] (vs.map some) H5 s6 := I6.unpinned (pins := []) (pl := [(h2.objs.size, PySem.W.kxs_mw "ValueError.__init__" a')])
      show PySem.wpAt _ _ _ (execs rest _) _ _ _
      refine PySem.wpAt_of_wpAny (wpAny_mono (pss.run [] s6 (vs.map some) H5 _ I7 q5) (fun fl s' hs => ?_) fun _ _ x => x)
      cases fl with
      | ret u =>
        obtain ⟨v, σ', H', J, rv, q⟩ := hs
        exact fin J rv q
      | next =>
        obtain ⟨σ', H', J, q⟩ := hs
        exact fin (v := V.non) (u := Value.none) J rfl q
      | brk =>
        obtain ⟨_, _, _, q⟩ := hs
        exact False.elim q
      | cont =>
        obtain ⟨_, _, _, q⟩ := hs
        exact False.elim q
end
end Kw


set_option Elab.async false
set_option linter.all false
set_option maxRecDepth 100000
set_option maxHeartbeats 4000000
/-! More operators: `in` by an own `__contains__`, `==` by an own `__eq__`, enumerate(tuple), `in` over a tuple of data, list.count of bools. -/
namespace Kw
open PySem PySem.Spec PyProof.Rows L2
section
variable {X : Cx} {CX : CXT} {C f : Addr} {fd : FuncData} {k : Nat} {ps : List Str} {sp : Sp} {E : XK}
/-- x in o, o an object of C whose __contains__ keeps sp and gives a bool -/
def rInOwn (C : Addr) (sp : Sp) (E : XK) : R2 := fun x y H Q => ∃ b dx fs, y = .ref b ∧ H b = some (.ins C dx fs) ∧ sp [y, x] H (fun v H' => ∃ k, v = .bl k ∧ Q (.bl k) H') E
def rNotInOwn (C : Addr) (sp : Sp) (E : XK) : R2 := fun x y H Q => ∃ b dx fs, y = .ref b ∧ H b = some (.ins C dx fs) ∧ sp [y, x] H (fun v H' => ∃ k, v = .bl k ∧ Q (.bl (!k)) H') E
theorem op_inOwn (F : FnOk X.prog X.w X.K X.mg X.base CX k f fd ps sp) (hs : PySem.W.findIn X.K (.ref C) "__contains__" = some (some (.ref f))) (hf : PySem.W.isFn X.K (.ref f) = true) (hr : Room k X.A) (hb : Binds X.K fd ps []) (hx : Passes CX X E) :
    OpR X (compareOp .In) (rInOwn C sp E) := by
  intro pins s σ H x y v u Q I rx ry h
  obtain ⟨b, dx, fs, rfl, hH, hsp⟩ := h
  cases ry
  obtain ⟨mA, J, _⟩ := ins_get I.hok hH
  obtain ⟨od, J, _⟩ := J.look
  obtain ⟨m, hF⟩ := I.fr
  refine PySem.W.in_K hF I.ok.mod.kin J hs hf ?_
  refine thn (run_fn (vs := [.ref b, x]) (dvs := []) F hr hb .nil hx I (.cons rfl (.cons rx .nil)) hsp) fun w s1 hw => ?_
  obtain ⟨z, H1, I1, rz, kk, ez, q⟩ := hw
  subst ez
  obtain rfl : w = Value.bool kk := rz
  exact wpAny_truthy_bool ⟨V.bl _, H1, I1, rfl, q⟩
theorem op_notInOwn (F : FnOk X.prog X.w X.K X.mg X.base CX k f fd ps sp) (hs : PySem.W.findIn X.K (.ref C) "__contains__" = some (some (.ref f))) (hf : PySem.W.isFn X.K (.ref f) = true) (hr : Room k X.A) (hb : Binds X.K fd ps []) (hx : Passes CX X E) :
    OpR X (compareOp .NotIn) (rNotInOwn C sp E) := by
  intro pins s σ H x y v u Q I rx ry h
  obtain ⟨b, dx, fs, rfl, hH, hsp⟩ := h
  cases ry
  obtain ⟨mA, J, _⟩ := ins_get I.hok hH
  obtain ⟨od, J, _⟩ := J.look
  obtain ⟨m, hF⟩ := I.fr
  refine PySem.W.notIn_K hF I.ok.mod.kin J hs hf ?_
  refine thn (run_fn (vs := [.ref b, x]) (dvs := []) F hr hb .nil hx I (.cons rfl (.cons rx .nil)) hsp) fun w s1 hw => ?_
  obtain ⟨z, H1, I1, rz, kk, ez, q⟩ := hw
  subst ez
  obtain rfl : w = Value.bool kk := rz
  exact wpAny_truthy_bool ⟨V.bl _, H1, I1, rfl, q⟩
/-- o == p, o and p instances of C whose __eq__ keeps sp and gives a bool -/
def rEqOwn (C : Addr) (sp : Sp) (E : XK) : R2 := fun x y H Q => ∃ a b dx fs dy gs, x = .ref a ∧ y = .ref b ∧ H a = some (.ins C dx fs) ∧ H b = some (.ins C dy gs) ∧ sp [x, y] H (fun v H' => ∃ k, v = .bl k ∧ Q (.bl k) H') E
theorem op_eqOwn (F : FnOk X.prog X.w X.K X.mg X.base CX k f fd ps sp) (hs : PySem.W.findIn X.K (.ref C) "__eq__" = some (some (.ref f))) (hf : PySem.W.isFn X.K (.ref f) = true) (hr : Room k X.A) (hb : Binds X.K fd ps []) (hx : Passes CX X E) :
    OpR X (compareOp .Eq) (rEqOwn C sp E) := by
  intro pins s σ H x y v u Q I rx ry h
  obtain ⟨a, b, dx, fs, dy, gs, rfl, rfl, ha, hb', hsp⟩ := h
  cases rx
  cases ry
  obtain ⟨mA, J, _⟩ := ins_get I.hok ha
  obtain ⟨mB, J', _⟩ := ins_get I.hok hb'
  obtain ⟨od, J, _⟩ := J.look
  obtain ⟨od', J', _⟩ := J'.look
  obtain ⟨m, hF⟩ := I.fr
  show wpAny _ _ (richCompare .Eq (.ref a) (.ref b)) _ _ _
  refine PySem.W.cmp_K (op := .Eq) (tb := .ref C) hr.units0 hF I.ok.mod.kin J J'.type (by simp [PySem.W.notFirst]) hs hf ?_
  refine thn (run_fn (vs := [.ref a, .ref b]) (dvs := []) F hr hb .nil hx I (.cons rfl (.cons rfl .nil)) hsp) fun w s1 hw => ?_
  obtain ⟨z, H1, I1, rz, kk, ez, q⟩ := hw
  subst ez
  obtain rfl : w = Value.bool kk := rz
  exact ⟨V.bl _, H1, I1, rfl, q⟩
end

/-! ### enumerate(tuple) -/
theorem meets_enumerate_newT (l : Addr) (items : Array Value) :
    Meets (Builtin.«enumerate.__new__» ⟨[.type "enumerate", .ref l], []⟩) (fun _ R s => s.heap.IsTuple l items ∧
      R (.ok (.ret (.ref (s.heap.push { cls := .type "tuple_iterator", data := .fields #[.ref l, .int 0 0] }).objs.size)))
        { s with heap := (s.heap.push { cls := .type "tuple_iterator", data := .fields #[.ref l, .int 0 0] }).push { cls := .type "enumerate", data := .fields #[.none, .bool false, .ref s.heap.objs.size, rawInt 0, .none, .none] } }) :=
  .of_wp fun prog w A R s h => by
    obtain ⟨hp, g, d, tk, os⟩ := s; obtain ⟨hL, h⟩ := h
    have hsub := sub_enumerate
    have q1 : ∀ {A' : Around} {E : Value → Shared → Prop} {Q : Value → Shared → Prop}, Q (.ref hp.objs.size) ⟨hp.push { cls := .type "tuple_iterator", data := .fields #[.ref l, .int 0 0] }, g, d, tk, os⟩ → wpAny (model prog w) A' (pyIter (.ref l)) Q E ⟨hp, g, d, tk, os⟩ :=
      fun q => wpAny_pyIter_tuple hL q
    wp_walk using q1
    refine wpAny_stack_any fun st => wpAny_pure ?_
    split
    · rename_i c _ _ _ _ _
      cases (c == Value.type "enumerate")
      · wp_walk using q1
        exact ⟨_, rfl, h⟩
      · wp_walk using q1
        exact ⟨_, rfl, h⟩
    · wp_walk using q1
      exact ⟨_, rfl, h⟩
theorem call_enumerate_tuple {prog : Program} {w : World} {A : Around} {E : Value → Shared → Prop} {s : Shared} {l : Addr} {items : Array Value} {Q : Value → Shared → Prop} (hL : s.heap.IsTuple l items)
    (h : ∀ h', IsEnum h' (s.heap.objs.size + 1) s.heap.objs.size 0 .none → h'.IsTupleIter s.heap.objs.size l 0 → h'.objs.size = s.heap.objs.size + 2 →
      (∀ b o, s.heap.get? b = some o → h'.get? b = some o) → Q (.ref (s.heap.objs.size + 1)) { s with heap := h' }) :
    wpAny (model prog w) A (call (.type "enumerate") [.ref l]) Q E s := by
  refine callType_new F.called_enumerate (by decide) (F.typeCall_enumerate_1 _) (F.newCall_enumerate_1 _) (fun obj => F.args_object_init_2 obj _) F.entry_enumerate_new
    (meets_enumerate_newT l items) ⟨hL, ?_⟩
  have hz : (s.heap.push { cls := .type "tuple_iterator", data := .fields #[.ref l, .int 0 0] }).objs.size = s.heap.objs.size + 1 := Heap.size_push ..
  show _ ∧ _
  rw [hz]
  have he : IsEnum ((s.heap.push { cls := .type "tuple_iterator", data := .fields #[.ref l, .int 0 0] }).push
      { cls := .type "enumerate", data := .fields #[.none, .bool false, .ref s.heap.objs.size, rawInt 0, .none, .none] }) (s.heap.objs.size + 1) s.heap.objs.size 0 .none := by
    have := Heap.get?_push_size (s.heap.push { cls := .type "tuple_iterator", data := .fields #[.ref l, .int 0 0] })
      (o := { cls := .type "enumerate", data := .fields #[.none, .bool false, .ref s.heap.objs.size, rawInt 0, .none, .none] }) rfl
    rw [hz] at this; exact this
  refine ⟨⟨_, he, rfl⟩, h _ he ⟨_, Heap.get?_push_of_some _ (Heap.get?_push_size _ rfl), rfl, rfl⟩ (by rw [Heap.size_push, hz]) fun b o x => Heap.get?_push_of_some _ (Heap.get?_push_of_some _ x)⟩
/-- the tuple at a, each item in a new pair -/
def Itet (K : PySem.W.Frag) (a : Addr) : It :=
  ⟨fun i H => ∃ (xs : List V) (x : V), SqT K H a xs ∧ xs[i]? = some x, fun i H v H' => ∃ T x, v = .ref T ∧ H T = none ∧ H' = upd H T (.tup [.int (i : Nat), x]) ∧ ∀ xs, SqT K H a xs → xs[i]? = some x, fun i H => ∃ xs : List V, SqT K H a xs ∧ xs.length ≤ i⟩
theorem turn_enumT {P : Program} {w : World} {K : PySem.W.Frag} {elts : List Expr} {kk : Nat} {tpos : Pos} (a e it : Addr) :
    Turn P w K (.Tuple elts kk tpos) (Itet K a) [e, it] e (fun i h => (∃ old, IsEnum h e it ((i : Nat) : Int) old) ∧ h.IsTupleIter it a i ∧ e ≠ it) where
  mem := by simp
  obj := fun i h st b hb => by
    obtain ⟨⟨old, he⟩, ⟨o, ho, hc, hd⟩, _⟩ := st
    have e' : b = e ∨ b = it := by simpa using hb
    rcases e' with z | z
    · rw [z]; exact ⟨_, he, fun v q => nomatch q⟩
    · rw [z]; exact ⟨o, ho, fun v q => by rw [hd] at q; cases q⟩
  keep := fun i h h' st k => let ⟨⟨old, he⟩, hi, hne⟩ := st; ⟨⟨old, k e (by simp) _ he⟩, hi.at fun o q => k it (by simp) o q, hne⟩
  item := by
    intro X hP hw hK hc i pins s σ H E I hf st hg
    subst hP hw hK
    obtain ⟨⟨old, he⟩, hit, hne⟩ := st
    obtain ⟨xs, x, hq, hx⟩ := hg
    obtain ⟨its, rv, p, hz⟩ := I.tuple hq
    obtain ⟨u, hu, ru⟩ := rv.get hx
    have hel : e < s.heap.objs.size := Heap.lt_size he
    have hil : it < s.heap.objs.size := by obtain ⟨_, q, _⟩ := hit; exact Heap.lt_size q
    have hat : a ≠ it := fun z => by
      obtain ⟨o1, q1, c1, _⟩ := p
      obtain ⟨o2, q2, c2, _⟩ := hit
      rw [z, q2] at q1
      have q3 := Option.some.inj q1
      subst q3
      rw [c2] at c1
      have c3 : Value.type "tuple_iterator" = Value.type "tuple" := c1
      revert c3
      decide
    have hea : e ≠ a := fun z => by
      obtain ⟨o1, q1, c1, _⟩ := p
      rw [← z] at q1
      have q2 := Option.some.inj (he.symm.trans q1)
      subst q2
      have c3 : Value.type "enumerate" = Value.type "tuple" := c1
      revert c3
      decide
    have hlt : i < its.toArray.size := by
      have z := (List.getElem?_eq_some_iff.mp hu).1
      simpa using z
    refine wpAny_pyNext_enum_itemD (Draws.tuple (prog := X.prog) (w := X.w) (A := X.A.in1) (show X.A.in1.handled = none from I.ok.hd hc) it a hat its.toArray) he ⟨hit, p⟩ hlt hne (by simp [hne, hea]) fun x' h' tk hP ho hst' hT hsz hk => ?_
    have ex : x' = u := by
      have z : its[i]? = some x' := by simpa using hP
      rw [hu] at z
      exact (Option.some.inj z).symm
    subst ex
    refine ⟨_, rfl, wpAny_letOwnedTupleGo_enum (s := { s with heap := h', toks := tk + 1 }) ho fun h'' he' sb => ?_⟩
    have hT2 : h''.get? s.heap.objs.size = some { cls := .type "tuple", data := .seq #[.int i tk, x'] } := (sb.2 _ (Nat.ne_of_gt hel)).trans hT
    have new : ObjOk X.prog X.w (upd H s.heap.objs.size (.tup [.int (i : Nat), x])) h'' s.heap.objs.size (.tup [.int (i : Nat), x]) :=
      ⟨by show 2 ≤ sizeLine; decide, [.int i tk, x'], .cons ⟨_, rfl⟩ (.cons ru .nil), ⟨_, hT2, rfl, _, rfl⟩⟩
    have I1 : L2.Inv X pins σ (upd H s.heap.objs.size (.tup [.int (i : Nat), x])) { s with heap := h'', toks := tk + 1 } :=
      I.turnedNew (ch := [e, it]) (fun b ob hb q => (sb.2 b (fun z => hb (by simp [z]))).trans (hk b ob (fun z => hb (by simp [z])) (fun z => hb (by simp [z])) q)) hf (Nat.le_refl _) new
    refine ⟨.ref s.heap.objs.size, _, I1, rfl, ⟨_, x, rfl, I.hok.fresh (Nat.le_refl _), rfl, fun ys hy => by rw [I.tuple_inj hy hq]; exact hx⟩, ⟨⟨x', ?_⟩, hst'.1.at fun o q => (sb.2 it (Ne.symm hne)).trans q, hne⟩, fun b hb => ?_⟩
    · have e1 : ((i + 1 : Nat) : Int) = (i : Int) + 1 := by omega
      rw [e1]; exact he'
    · have hb' : b < s.heap.objs.size := by
        have e' : b = e ∨ b = it := by simpa using hb
        rcases e' with z | z
        · rw [z]; exact hel
        · rw [z]; exact hil
      rw [upd_ne (Nat.ne_of_lt hb')]
      exact (hf b hb).1
  done := by
    intro X hP hw hK hc i pins s σ H E I hf st hg
    subst hP hw hK
    obtain ⟨⟨old, he⟩, hit, hne⟩ := st
    obtain ⟨xs, hq, hx⟩ := hg
    obtain ⟨its, rv, p, hz⟩ := I.tuple hq
    have hat : a ≠ it := fun z => by
      obtain ⟨o1, q1, c1, _⟩ := p
      obtain ⟨o2, q2, c2, _⟩ := hit
      rw [z, q2] at q1
      have q3 := Option.some.inj q1
      subst q3
      rw [c2] at c1
      have c3 : Value.type "tuple_iterator" = Value.type "tuple" := c1
      revert c3
      decide
    obtain ⟨f0, f1, f2, f3, f4, f5⟩ := hf it (by simp)
    have hl := rv.length
    have hT : s.TypeIs (.ref e) "enumerate" := ⟨_, he, rfl⟩
    unfold pyNext
    refine wpAny_bind (wpAny_attempt (wpAny_callSpecial?_slot (name := Str.ofString "__next__") hT F.slot_enumerate_next
      (wpAny_call_entry F.slot_enumerate_next hT F.entry_enumerate_next ?_ (F.args_enumerate_next_1 _))))
    show wpAny _ _ (field (.ref e) 2 >>= _) _ _ _
    refine wpAny_bind (wpAny_field he rfl (x := .ref it) rfl ?_)
    refine wpAny_bind (wpAny_nextOf_tuple_end (show X.A.in1.handled = none from I.ok.hd hc) hit p (by simp; omega) fun h' x he' hx' => ?_)
    obtain ⟨o, ho, hcx⟩ := hx'
    refine wpAny_bind (wpAny_isInstance (T := "StopIteration") (b := true) ⟨o, ho, hcx⟩ isSubtype_stop ?_)
    exact wpAny_pure ⟨rfl, I.turned (t' := s.toks) (fun b o hb q => he' b o hb q) f0 f1 f3 f4 f5⟩
  self := fun A i s Q E st h => let ⟨⟨_, he⟩, _⟩ := st; wpAny_pyIter_enum he h

def iEnumT (K : PySem.W.Frag) (ta : TA) : TI := fun σ H R => ta σ H fun vs H1 => ∃ a xs, vs = [.ref a] ∧ SqT K H1 a xs ∧ R (Itet K a) H1
theorem pi_enumT {X : Cx} {e : Expr} {ta : TA} {p pos tpos : Pos} {elts : List Expr} {kk : Nat} (hg : Gl X "enumerate") (hm : X.mg "enumerate" = none) (ha : PA X [e] ta) (hs : starEach [e] X.env = [(false, eval e X.env)] := by rfl) :
    PI X (.Tuple elts kk tpos) (.Call (.Name "enumerate" p) [e] [] pos) (iEnumT X.K ta) := by
  refine ⟨fun pins s σ H R I h => ?_⟩
  refine Call_ (ld_blt I hg hm boot_enumerate (PyProof.Rows.callWith_type1 (thn (ha.run pos pins s σ H _ I h) fun us s1 ⟨vs, H1, I1, r1, q1⟩ => ?_) hs rfl))
  obtain ⟨a, xs, ex, hq, q⟩ := q1
  subst ex
  cases r1 with
  | cons r rr =>
    cases rr
    cases r
    obtain ⟨its, rv, p', hz⟩ := I1.tuple hq
    refine call_enumerate_tuple p' fun h' he hit hsz hk => wpAny_pyIter_enum he ?_
    have I2 : L2.Inv X pins σ H1 { s1 with heap := h' } := I1.kept (t' := s1.toks) hk
    refine ⟨s1.heap.objs.size + 1, [s1.heap.objs.size + 1, s1.heap.objs.size], _, _, H1, rfl, I2, turn_enumT a (s1.heap.objs.size + 1) s1.heap.objs.size, ⟨⟨.none, he⟩, hit, Nat.succ_ne_self _⟩, fun b hb => ?_, q⟩
    have e' : b = s1.heap.objs.size + 1 ∨ b = s1.heap.objs.size := by simpa using hb
    have hle : s1.heap.objs.size ≤ b := by
      rcases e' with z | z
      · rw [z]; exact Nat.le_add_right _ _
      · rw [z]; exact Nat.le_refl _
    exact I1.fpOk hle (I1.hok.fresh hle)
/-- a for over enumerate(tuple), the invariant Pv by the turn -/
theorem for_enumT {K : PySem.W.Frag} {a : Addr} {xs : List V} {g : TG} {tb : TS} {D : Ends} {σ : L2.St} {H : Hp} (Pv : Nat → L2.St → Hp → Prop) (h0 : Pv 0 σ H) (hl : ∀ i σ H, i ≤ xs.length → Pv i σ H → SqT K H a xs)
    (hs : ∀ i x σ H T, xs[i]? = some x → Pv i σ H → H T = none → g (.ref T) σ (upd H T (.tup [.int (i : Nat), x])) fun σ2 H2 => tb { D with nx := Pv (i + 1), ct := Pv (i + 1), bk := D.nx } σ2 H2)
    (hd : ∀ σ H, Pv xs.length σ H → D.nx σ H) :
    ∃ W : Nat → Nat → L2.St → Hp → Prop, (∃ m, W 0 m σ H) ∧ ∀ i m σ H, W i m σ H →
      ((Itet K a).stop i H ∧ D.nx σ H) ∨ ((Itet K a).go i H ∧ ∃ N : L2.St → Hp → Prop, (∀ σ' H', N σ' H' → ∃ m', m' < m ∧ W (i + 1) m' σ' H') ∧ ∀ x H', (Itet K a).yld i H x H' → g x σ H' fun σ2 H2 => tb { D with nx := N, ct := N, bk := D.nx } σ2 H2) := by
  refine ⟨fun i m σ H => m = xs.length - i ∧ i ≤ xs.length ∧ Pv i σ H, ⟨xs.length, by simp, Nat.zero_le _, h0⟩, ?_⟩
  rintro i m σ H ⟨rfl, hi, p⟩
  have q := hl i σ H hi p
  by_cases hlt : i < xs.length
  · refine .inr ⟨⟨xs, xs[i], q, by simp [hlt]⟩, Pv (i + 1), fun σ' H' p' => ⟨xs.length - (i + 1), by omega, rfl, hlt, p'⟩, fun x H' y => ?_⟩
    obtain ⟨T, x', ev, hT, eH, hx⟩ := y
    subst ev eH
    exact hs i x' σ H T (hx xs q) p hT
  · have e : i = xs.length := by omega
    subst e
    exact .inl ⟨⟨xs, q, Nat.le_refl _⟩, hd σ H p⟩
end Kw


set_option Elab.async false
set_option linter.all false
set_option maxRecDepth 100000
set_option maxHeartbeats 4000000
namespace Kw
open PySem PySem.Spec PyProof.Rows L2
section
variable {X : Cx}
/-- x in t, t a tuple of data of any depth -/
def rInDT (K : PySem.W.Frag) (neg : Bool) : R2 := fun x y H Q => ∃ d ds, Dp K H x d ∧ Dp K H y (.tuple ds) ∧ SeqAt.shaped d = true ∧ SeqAt.shaped (.tuple ds) = true ∧ Q (.bl (if neg then !(ds.any fun z => PyData.eqv z d) else ds.any fun z => PyData.eqv z d)) H
theorem op_inDT (hu : X.A.units + 65 < cLine) : OpR X (compareOp .In) (rInDT X.K false) := by
  intro pins s σ H x y v u Q I rx ry h
  obtain ⟨d, ds, hd, he, sd, se, q⟩ := h
  obtain ⟨as, r1⟩ := Dp.reads I d x v hd rx
  obtain ⟨bs, r2⟩ := Dp.reads I (.tuple ds) y u he ry
  exact SeqAt.in_tuple_reads r2 r1 (SeqAt.canLay_of_shaped se) (SeqAt.canLay_of_shaped sd) (room_in_shaped sd hu) ⟨.bl _, H, I, rfl, q⟩
theorem op_notInDT (hu : X.A.units + 65 < cLine) : OpR X (compareOp .NotIn) (rInDT X.K true) := by
  intro pins s σ H x y v u Q I rx ry h
  obtain ⟨d, ds, hd, he, sd, se, q⟩ := h
  obtain ⟨as, r1⟩ := Dp.reads I d x v hd rx
  obtain ⟨bs, r2⟩ := Dp.reads I (.tuple ds) y u he ry
  exact SeqAt.notIn_tuple_reads r2 r1 (SeqAt.canLay_of_shaped se) (SeqAt.canLay_of_shaped sd) (room_in_shaped sd hu) ⟨.bl _, H, I, rfl, q⟩
/-- xs.count(b), xs a list of bools -/
def rCntB (K : PySem.W.Frag) : V → List V → Hp → VK → Prop := fun x xs H Q => ∃ (p : Addr) (bs : List Bool) (b : Bool), x = .ref p ∧ xs = [.bl b] ∧ SqL K H p (bs.map V.bl) ∧ Q (.int (bs.count b : Nat)) H
def eqb (b : Bool) (v : Value) : Bool := match v with
  | .bool c => c == b
  | _ => false
theorem mt_countB : MtR X "list.count" (rCntB X.K) := by
  intro pins s σ H x xs v us Q I rx rxs h
  obtain ⟨p, bs, b, rfl, rfl, hs, q⟩ := h
  cases rx
  obtain ⟨u, rfl, ru⟩ := rxs.one
  obtain rfl : u = Value.bool b := ru
  obtain ⟨its, rv, ⟨⟨cls, dd, data, sl⟩, n, ho, hc, hdn, hd⟩, hlen⟩ := I.list hs
  simp only at hc hd
  subst hc hd
  have hi : its = bs.map Value.bool := rv.bls
  refine call_meets PySem.F.slot_list_count ⟨_, ho, rfl⟩ PySem.F.entry_list_count (PySem.F.args_list_count_2 _ _)
    (SeqAt.list_countAt p its.toArray n dd sl (.bool b) (eqb b)) ⟨ho, fun y hy => ?_, ?_⟩
  · have hy' : y ∈ its := by simpa using hy
    rw [hi] at hy'
    obtain ⟨c, _, rfl⟩ := List.mem_map.mp hy'
    have g := eqAt_V (A := X.A.in1) (s := s) (y := V.bl c) (x := V.bl b) (u := Value.bool c) (v := Value.bool b) rfl rfl rfl rfl
    have e : eqV (V.bl c) (V.bl b) = eqb b (Value.bool c) := by cases b <;> cases c <;> rfl
    rw [← e]
    exact g
  · have ec : its.toArray.toList.countP (eqb b) = bs.count b := by
      rw [hi]
      show (bs.map Value.bool).countP (eqb b) = bs.count b
      rw [List.countP_map]
      rfl
    refine ⟨.int (bs.count b : Nat), H, I.tok _, ⟨s.toks, ?_⟩, q⟩
    show Value.int ((its.toArray.toList.countP (eqb b) : Nat) : Int) s.toks = Value.int ((bs.count b : Nat) : Int) s.toks
    rw [ec]
end

/-! ### isinstance of a caught error of an own class, with a dict of its own or without -/
section
open PySem.W
variable {prog : Program} {w : World} {A : Around} {E : Value → Shared → Prop} {s : Shared} {K : Frag} {x D : Addr} {ox : Obj}
theorem findObj_dataO {C : Addr} {name : Str} {a g : Value} {od : Option Obj} (hc : (clsIn K C).isSome = true) (ha : findIn K (.ref C) name = some (some a)) (hg : specialIn K a "__get__" = some (some g)) (ht : takesIn K a = some true) : findObj K C od name = some (.bind g a) := by
  obtain ⟨cd, hc⟩ := Option.isSome_iff_exists.mp hc
  unfold findObj
  rw [hc, Option.bind_some, ha, Option.bind_some]
  simp [hg, ht]
theorem kin_classO {od : Option Obj} {Q : Option Value → Shared → Prop} (hga : findIn K (.ref D) "__getattribute__" = some (some (.builtin "BaseException.__getattribute__"))) (hgt : findIn K (.ref D) "__getattr__" = some none) (hsub : subIn K (.ref D) (.type "BaseException") = some true)
    (hdct : hasDictIn K D = true) (ha : findIn K (.ref D) "__class__" = some (some (.builtin "object.__class__")))
    (hn : specialIn K (.builtin "object.__class__") "__get__" = some (some (.builtin "getset_descriptor.__get__"))) (htk : takesIn K (.builtin "object.__class__") = some true) (hm : mroIn K D (.type "object") = some true)
    (X : K.In s.heap) (I : InstAt s.heap x ox D od) (h : Q (some (.ref D)) { s with toks := s.toks + 1 }) : wpAny (model prog w) A (getAttr? (.ref x) "__class__") Q E s := by
  have hf : findObj K D od "__class__" = some (.bind (.builtin "getset_descriptor.__get__") (.builtin "object.__class__")) := findObj_dataO (by obtain ⟨cd, hc, _⟩ := any_some hdct; rw [hc]; rfl) ha hn htk
  obtain ⟨hp, g, d, t, os⟩ := s
  have L0 := I.type (M := model prog w)
  have L1 := looks_findIn (M := model prog w) X hga
  have L2' := looks_findIn (M := model prog w) X hgt
  have L3 := looks_find (M := model prog w) X I hf
  have sub : Looks (model prog w) hp (isInstance (.ref x) (.type "BaseException")) true := L0.andThen (looks_subIn X hsub)
  have hx0 : (false && onTheHeap (Value.builtin "BaseException.__getattribute__")) = false := rfl
  have hx2 : (Value.builtin "BaseException.__getattribute__" == Value.builtin "object.__getattribute__") = false := by decide +kernel
  have hx1 : (onTheHeap (Value.ref D) && Value.builtin "BaseException.__getattribute__" == Value.builtin "object.__getattribute__") = false := by rw [hx2]; rfl
  unfold getAttr? getAttrBy? getAttrBy
  refine wpAny_bind (wpAny_mkText (wpAny_bind (wpAny_attempt (wpAny_holding (wpAny_bind (L0.at (wpAny_bind (L1.at ?_))))))))
  show wpAny _ _ (if (onTheHeap (Value.ref D) && Value.builtin "BaseException.__getattribute__" == Value.builtin "object.__getattribute__") = true then _ else _) _ _ _
  rw [hx1, if_neg Bool.false_ne_true]
  unfold getAttrByItsOwn hookBefore
  refine wpAny_bind ?_
  rw [if_pos (show onTheHeap (Value.ref D) = true from rfl)]
  refine L2'.at ?_
  refine wpAny_bind (wpAny_attempt (wpAny_holding ?_))
  unfold callGetattribute
  rw [hx0, if_neg Bool.false_ne_true]
  unfold boundAndCalled
  rw [PySem.F.excAttr_ValueError.ga.bind (.ref x)]
  refine wpAny_bind (wpAny_pure ?_)
  show wpAny _ _ (call (.builtin "BaseException.__getattribute__") [.ref x, .str "__class__" t]) _ _ _
  refine wpAny_call (PySem.codeAny_call_builtin PySem.F.excAttr_ValueError.ga.plain PySem.F.entry_bexc_ga ?_)
  refine @check_slot (model prog w) _ _ ⟨hp, g, d, t + 1, os⟩ "BaseException.__getattribute__" "BaseException" "__getattribute__" (.ref x) [.str "__class__" t] [] _ (by decide +kernel) (by decide +kernel) sub (PySem.F.args_bexc_ga (.ref x) (.str "__class__" t)) ?_
  unfold Builtin.«object.__getattribute__»
  refine wpAny_bind (wpAny_of_eq (a := ((Value.ref x : Value), [Value.str "__class__" t])) (by first | rfl | (simp only [slotArgs]; rfl)) ?_)
  refine wpAny_bind (wpAny_pure (wpAny_bind (L0.at (wpAny_bind (L3.at ?_)))))
  show wpAny _ _ (holding [Value.builtin "object.__class__"] (call (.builtin "getset_descriptor.__get__") [.builtin "object.__class__", .ref x, .ref D]) >>= ret) _ _ _
  refine wpAny_bind (wpAny_holding (wpAny_call (class_get (s := ⟨hp, g, d, t + 1, os⟩) (ox := ox) (od := od) X I hm ?_)))
  refine wpAny_pure ?_
  show wpAny _ _ (handedOut (.ref D)) _ _ _
  rw [handedOut_of (v := .ref D) rfl]
  first
    | exact wpAny_pure (wpAny_pure h)
    | exact wpAny_pure h
    | exact wpAny_pure (wpAny_bind (wpAny_pure (wpAny_pure h)))
theorem kitx_excO (hga : findIn K (.ref D) "__getattribute__" = some (some (.builtin "BaseException.__getattribute__"))) (hgt : findIn K (.ref D) "__getattr__" = some none) (hsub : subIn K (.ref D) (.type "BaseException") = some true) (hdct : hasDictIn K D = true) (ha : findIn K (.ref D) "__class__" = some (some (.builtin "object.__class__")))
    (hn : specialIn K (.builtin "object.__class__") "__get__" = some (some (.builtin "getset_descriptor.__get__"))) (htk : takesIn K (.builtin "object.__class__") = some true) (hm : mroIn K D (.type "object") = some true) :
    KitX K (.ref x) (.ref D) (fun h => ∃ od, InstAt h x ox D od) where
  ty := fun _ _ _ ⟨_, I⟩ => I.type
  it := fun _ _ X _ => by
    obtain ⟨cdD, hcD, _⟩ := any_some hdct
    unfold clsIn at hcD
    split at hcD
    · rename_i c' d' cd' sl' ho
      intro A' Q' E' s' k q
      unfold isType loadHead
      exact wpAny_bind (wpAny_loadPart (k _ _ (X _ _ ho)) (wpAny_pure q))
    · cases hcD
  ne := fun h tp dd its n sl X htp => by
    obtain ⟨cdD, hcD, _⟩ := any_some hdct
    refine Bool.eq_false_iff.mpr fun q => ?_
    have e : D = tp := Value.ref.inj (beq_iff_eq.mp q)
    subst e
    unfold clsIn at hcD
    split at hcD
    · rename_i c' d' cd' sl' ho
      have z := (X _ _ ho).symm.trans htp
      cases z
    · cases hcD
  ca := fun X ⟨_, I⟩ k => kin_classO hga hgt hsub hdct ha hn htk hm X I k
end
/-- the suite's error stands at a: its class D, its dict none or an error's dict -/
theorem call_isO {X : Cx} {a D : Addr} {dd : Option Addr} {oe : Obj} {pn : List (Addr × Obj)} (C : ExcC X.K D) (hz : Zc (.ref D) dd oe) (hf : ∃ vs, oe.data = .fields vs) :
    CallR (X.suite a ((a, oe) :: pn)) (.builtin "isinstance") (fun xs H Q => (∀ d, dd = some d → ∃ fs, H d = some (.xd fs)) ∧ rIsE X.K D a xs H Q) := by
  intro pins s σ H xs us Q I r h
  obtain ⟨hd, c, cv, b, rfl, hcv, e, q⟩ := h
  cases r with
  | cons rx rr =>
    cases rr with
    | cons rt rr =>
      cases rr
      cases rx
      have ec := hcv _ rt
      subst ec
      obtain ⟨hget, _⟩ := I.pin (a, oe) (List.mem_append.mpr (.inl List.mem_cons_self))
      obtain ⟨vs, hv⟩ := hf
      have J : ∃ od, PySem.W.InstAt s.heap a oe D od := by
        obtain ⟨h1, h2⟩ := hz
        have hn : PySem.W.notCls oe = true := by unfold PySem.W.notCls; rw [hv] <;> rfl
        cases dd with
        | none => exact ⟨none, hget, h1, hn, by rw [show oe.dict = none from h2]; trivial⟩
        | some d =>
          obtain ⟨fs, hfs⟩ := hd d rfl
          obtain ⟨mA, ⟨o, es, ep, ho, hr⟩, _⟩ := (show ObjOk X.prog X.w H s.heap d (.xd fs) from I.hok d _ hfs)
          exact ⟨some o, hget, h1, hn, by rw [h2]; exact ho⟩
      exact PySem.W.kia_one (kitx_excO C.hg C.hk C.hs C.hd C.ha C.hn C.ht C.hm) I.kIn J e (fun z => nomatch z) fun tk => ⟨.bl b, H, I.kept (t' := tk) fun _ _ z => z, rfl, q⟩
end Kw


set_option Elab.async false
set_option linter.all false
set_option maxRecDepth 100000
set_option maxHeartbeats 4000000
/-! Data on the heap and what stays. -/
namespace Kw
open PySem PySem.Spec PyProof.Rows L2

/-- all stays but the lists at b and l, and the tables -/
structure Kp (b l : Addr) (H H' : Hp) : Prop where
  nl : ∀ a o, H a = some o → (∀ xs, o ≠ .lst xs) → (∀ ps, o ≠ .tbl ps) → H' a = some o
  ls : ∀ a xs, H a = some (.lst xs) → a ≠ b → a ≠ l → H' a = some (.lst xs)
theorem Kp.refl (b l : Addr) (H : Hp) : Kp b l H H := ⟨fun _ _ h _ _ => h, fun _ _ h _ _ => h⟩
theorem Kp.trans {b l : Addr} {H H1 H2 : Hp} (x : Kp b l H H1) (y : Kp b l H1 H2) : Kp b l H H2 :=
  ⟨fun a o h n t => y.nl a o (x.nl a o h n t) n t, fun a xs h n t => y.ls a xs (x.ls a xs h n t) n t⟩
theorem Kp.same {b l : Addr} {H H' : Hp} (e : Same H H') : Kp b l H H' := ⟨fun a o h _ _ => e a o h, fun a xs h _ _ => e a _ h⟩
theorem same_upd {H : Hp} {p : Addr} {o : HO} (h : H p = none) : Same H (upd H p o) := fun a u e => by
  rw [upd_ne (ne_of_none e h)]
  exact e
theorem Same.upd2 {H H' : Hp} {p : Addr} {o : HO} (e : Same H H') (h : H' p = none) : Same H (upd H' p o) := e.trans (same_upd h)
theorem free_kp {b l : Addr} {H H' : Hp} (k : Kp b l H H') {p : Addr} (h : H' p = none) (hb : ∃ xs, H' b = some (.lst xs)) (hl : ∃ xs, H' l = some (.lst xs)) (ht : ∀ a ps, H a = some (.tbl ps) → ∃ ps', H' a = some (.tbl ps')) : H p = none := by
  cases q : H p with
  | none => rfl
  | some o =>
    have nb : p ≠ b := fun z => by
      obtain ⟨xs, e⟩ := hb
      rw [z, e] at h
      cases h
    have nl : p ≠ l := fun z => by
      obtain ⟨xs, e⟩ := hl
      rw [z, e] at h
      cases h
    by_cases hls : ∃ xs, o = .lst xs
    · obtain ⟨xs, rfl⟩ := hls
      rw [k.ls p xs q nb nl] at h
      cases h
    · by_cases htb : ∃ ps, o = .tbl ps
      · obtain ⟨ps, rfl⟩ := htb
        obtain ⟨ps', e⟩ := ht p ps q
        rw [e] at h
        cases h
      · rw [k.nl p o q (fun xs z => hls ⟨xs, z⟩) (fun ps z => htb ⟨ps, z⟩)] at h
        cases h

/-! data without lists -/
mutual
def noL : PyData → Bool
  | .none => true
  | .bool _ => true
  | .int _ => true
  | .str _ => true
  | .tuple ds => noLs ds
  | .list _ => false
  | .dict _ => false
def noLs : List PyData → Bool
  | [] => true
  | d :: ds => noL d && noLs ds
end
/-- what is not a list or a table stays -/
def Nl (H H' : Hp) : Prop := ∀ a o, H a = some o → (∀ xs, o ≠ .lst xs) → (∀ ps, o ≠ .tbl ps) → H' a = some o
theorem SqT.nl {K : PySem.W.Frag} {H H' : Hp} {a : Addr} {xs : List V} (k : Nl H H') (h : SqT K H a xs) : SqT K H' a xs := by
  rcases h with (h | ⟨o, h⟩) | h
  · exact .inl (.inl (k _ _ h (fun _ z => nomatch z) fun _ z => nomatch z))
  · exact .inl (.inr ⟨o, k _ _ h (fun _ z => nomatch z) fun _ z => nomatch z⟩)
  · exact .inr h
theorem SqT.same {K : PySem.W.Frag} {H H' : Hp} {a : Addr} {xs : List V} (k : Same H H') (h : SqT K H a xs) : SqT K H' a xs := SqT.nl (fun a o e _ _ => k a o e) h
mutual
theorem Dp.nl {K : PySem.W.Frag} {H H' : Hp} (k : Nl H H') : ∀ (d : PyData) (v : V), noL d = true → Dp K H v d → Dp K H' v d
  | .none, _, _, h => by cases h; exact .non
  | .bool b, _, _, h => by cases h; exact .bl b
  | .int i, _, _, h => by cases h; exact .int i
  | .str x, _, _, h => by cases h; exact .str x
  | .list ds, _, n, _ => by simp [noL] at n
  | .tuple ds, _, n, h => by
    cases h with
    | tup hs ha => exact .tup (SqT.nl k hs) (Dp.nls k ds _ (by simpa [noL] using n) ha)
  | .dict _, _, n, _ => by simp [noL] at n
theorem Dp.nls {K : PySem.W.Frag} {H H' : Hp} (k : Nl H H') : ∀ (ds : List PyData) (vs : List V), noLs ds = true → DpAll K H vs ds → DpAll K H' vs ds
  | [], _, _, h => by cases h; exact .nil
  | d :: ds, _, n, h => by
    cases h with
    | cons h1 h2 =>
      have n' : noL d = true ∧ noLs ds = true := by simpa [noLs] using n
      exact .cons (Dp.nl k d _ n'.1 h1) (Dp.nls k ds _ n'.2 h2)
end
/-- tuples that are read stay -/
def Tp (H H' : Hp) : Prop := ∀ a xs, Rd H a (.tup xs) → Rd H' a (.tup xs)
mutual
theorem Dp.tp {K : PySem.W.Frag} {H H' : Hp} (k : Tp H H') : ∀ (d : PyData) (v : V), noL d = true → Dp K H v d → Dp K H' v d
  | .none, _, _, h => by cases h; exact .non
  | .bool b, _, _, h => by cases h; exact .bl b
  | .int i, _, _, h => by cases h; exact .int i
  | .str x, _, _, h => by cases h; exact .str x
  | .list ds, _, n, _ => by simp [noL] at n
  | .tuple ds, _, n, h => by
    cases h with
    | tup hs ha => exact .tup (hs.elim (fun r => .inl (k _ _ r)) .inr) (Dp.tps k ds _ (by simpa [noL] using n) ha)
  | .dict _, _, n, _ => by simp [noL] at n
theorem Dp.tps {K : PySem.W.Frag} {H H' : Hp} (k : Tp H H') : ∀ (ds : List PyData) (vs : List V), noLs ds = true → DpAll K H vs ds → DpAll K H' vs ds
  | [], _, _, h => by cases h; exact .nil
  | d :: ds, _, n, h => by
    cases h with
    | cons h1 h2 =>
      have n' : noL d = true ∧ noLs ds = true := by simpa [noLs] using n
      exact .cons (Dp.tp k d _ n'.1 h1) (Dp.tps k ds _ n'.2 h2)
end
mutual
theorem Dp.same {K : PySem.W.Frag} {H H' : Hp} (k : Same H H') : ∀ (d : PyData) (v : V), Dp K H v d → Dp K H' v d
  | .none, _, h => by cases h; exact .non
  | .bool b, _, h => by cases h; exact .bl b
  | .int i, _, h => by cases h; exact .int i
  | .str x, _, h => by cases h; exact .str x
  | .list ds, _, h => by
    cases h with
    | lst hs ha => exact .lst (k.seq hs) (Dp.sames k ds _ ha)
  | .tuple ds, _, h => by
    cases h with
    | tup hs ha => exact .tup (SqT.same k hs) (Dp.sames k ds _ ha)
  | .dict _, _, h => by cases h
theorem Dp.sames {K : PySem.W.Frag} {H H' : Hp} (k : Same H H') : ∀ (ds : List PyData) (vs : List V), DpAll K H vs ds → DpAll K H' vs ds
  | [], _, h => by cases h; exact .nil
  | d :: ds, _, h => by
    cases h with
    | cons h1 h2 => exact .cons (Dp.same k d _ h1) (Dp.sames k ds _ h2)
end
theorem DpAll.len {K : PySem.W.Frag} {H : Hp} : ∀ {vs : List V} {ds : List PyData}, DpAll K H vs ds → vs.length = ds.length
  | _, _, .nil => rfl
  | _, _, .cons _ h => by simp [DpAll.len h]
theorem DpAll.get {K : PySem.W.Frag} {H : Hp} : ∀ {vs : List V} {ds : List PyData} {i : Nat} {x : V}, DpAll K H vs ds → vs[i]? = some x → ∃ d, ds[i]? = some d ∧ Dp K H x d
  | _, _, _, _, .nil, e => by simp at e
  | _, _, 0, _, .cons h _, e => by
    simp at e
    subst e
    exact ⟨_, rfl, h⟩
  | _, _, i + 1, x, .cons _ t, e => by
    obtain ⟨d, h1, h2⟩ := DpAll.get (i := i) (x := x) t (by simpa using e)
    exact ⟨d, by simpa using h1, h2⟩
theorem DpAll.app {K : PySem.W.Frag} {H : Hp} : ∀ {vs ws : List V} {ds es : List PyData}, DpAll K H vs ds → DpAll K H ws es → DpAll K H (vs ++ ws) (ds ++ es)
  | _, _, _, _, .nil, h => h
  | _, _, _, _, .cons h t, k => .cons h (DpAll.app t k)
theorem DpAll.take {K : PySem.W.Frag} {H : Hp} : ∀ {vs : List V} {ds : List PyData} (n : Nat), DpAll K H vs ds → DpAll K H (vs.take n) (ds.take n)
  | _, _, 0, _ => .nil
  | _, _, _ + 1, .nil => .nil
  | _, _, n + 1, .cons h t => .cons h (DpAll.take n t)
theorem noLs_map {α : Type} (f : α → PyData) (h : ∀ a, noL (f a) = true) : ∀ l : List α, noLs (l.map f) = true
  | [] => rfl
  | a :: l => by simp [noLs, h a, noLs_map f h l]

/-! ### places -/
inductive Wd where
  | hand | box | gone
  deriving DecidableEq
def Wd.str : Wd → Str
  | .hand => "hand"
  | .box => "box"
  | .gone => "gone"
abbrev Pl := Wd × Int
def plD (p : Pl) : PyData := .tuple [.str p.1.str, .int p.2]
def plsD (ps : List Pl) : PyData := .tuple (ps.map plD)
theorem wd_ok (w : Wd) : PyData.strOk w.str = true := by cases w <;> decide +kernel
theorem wd_inj {u v : Wd} (h : u.str = v.str) : u = v := by cases u <;> cases v <;> first | rfl | (revert h; decide +kernel)
theorem noL_pl (p : Pl) : noL (plD p) = true := rfl
theorem noL_pls (ps : List Pl) : noL (plsD ps) = true := noLs_map plD noL_pl ps
theorem lay_pl (p : Pl) : PyData.canLay0 (plD p) = true := by simp [plD, PyData.canLay0, PyData.canLayAll0, wd_ok]
theorem lay_pls : ∀ ps : List Pl, PyData.canLayAll0 (ps.map plD) = true
  | [] => rfl
  | p :: ps => by simp [PyData.canLayAll0, lay_pl p, lay_pls ps]
theorem depth_pl (p : Pl) : PyData.depth (plD p) = 1 := by simp [plD, PyData.depth, PyData.depthAll]
theorem depth_pls : ∀ ps : List Pl, PyData.depthAll (ps.map plD) ≤ 1
  | [] => by simp [PyData.depthAll]
  | p :: ps => by
    have := depth_pls ps
    have := depth_pl p
    simp [PyData.depthAll]
    omega
theorem shaped_pl (p : Pl) : SeqAt.shaped (plD p) = true := by simp [SeqAt.shaped, lay_pl, depth_pl]
theorem shaped_pls (ps : List Pl) : SeqAt.shaped (plsD ps) = true := by
  have h1 := lay_pls ps
  have h2 := depth_pls ps
  simp [SeqAt.shaped, plsD, PyData.canLay0, PyData.depth, h1]
  omega
theorem eqv_pl (p q : Pl) : PyData.eqv (plD p) (plD q) = decide (p = q) := by
  obtain ⟨u, i⟩ := p
  obtain ⟨v, j⟩ := q
  by_cases h1 : u = v
  · subst h1
    by_cases h2 : i = j
    · subst h2
      simp [plD, PyData.eqv, PyData.eqvAll]
    · simp [plD, PyData.eqv, PyData.eqvAll, h2]
  · have h3 : ¬ u.str = v.str := fun z => h1 (wd_inj z)
    simp [plD, PyData.eqv, PyData.eqvAll, h1, h3]
theorem pl_at {K : PySem.W.Frag} {H : Hp} {x : V} {p : Pl} (h : Dp K H x (plD p)) : ∃ a, x = .ref a ∧ SqT K H a [.str p.1.str, .int p.2] := by
  cases h with
  | tup hs ha =>
    cases ha with
    | cons h1 h2 =>
      cases h1
      cases h2 with
      | cons h3 h4 =>
        cases h3
        cases h4
        exact ⟨_, rfl, hs⟩
theorem pls_at {K : PySem.W.Frag} {H : Hp} {x : V} {ps : List Pl} (h : Dp K H x (plsD ps)) : ∃ a xs, x = .ref a ∧ SqT K H a xs ∧ DpAll K H xs (ps.map plD) ∧ xs.length = ps.length := by
  cases h with
  | tup hs ha => exact ⟨_, _, rfl, hs, ha, by rw [DpAll.len ha, List.length_map]⟩
theorem pls_get {K : PySem.W.Frag} {H : Hp} {xs : List V} {ps : List Pl} {i : Nat} {x : V} (h : DpAll K H xs (ps.map plD)) (e : xs[i]? = some x) : ∃ p, ps[i]? = some p ∧ Dp K H x (plD p) := by
  obtain ⟨d, h1, h2⟩ := DpAll.get h e
  rw [List.getElem?_map] at h1
  cases q : ps[i]? with
  | none =>
    rw [q] at h1
    cases h1
  | some p =>
    rw [q] at h1
    cases h1
    exact ⟨p, rfl, h2⟩
end Kw


set_option Elab.async false
set_option linter.all false
set_option maxRecDepth 100000
set_option maxHeartbeats 4000000
namespace Kw
open PySem PySem.Spec PyProof.Rows L2
theorem room_in2 {A : Around} {a b : PyData} (h : SeqAt.shaped b = true) (hu : A.units + 65 < cLine) (n : Nat) : A.units + 1 + min n b.depth < cLine := by
  have h1 := SeqAt.depth_of_shaped h
  have h2 : min n b.depth ≤ b.depth := Nat.min_le_right _ _
  omega
section
variable {X : Cx}
/-- t.index(x), t a tuple of data: the first place of an equal one -/
def rIndexT (K : PySem.W.Frag) : V → List V → Hp → VK → Prop := fun x xs H Q => ∃ (a : Addr) (y : V) (d : PyData) (ds : List PyData) (j : Nat) (z : PyData), x = V.ref a ∧ xs = [y] ∧ Dp K H (V.ref a) (.tuple ds) ∧ Dp K H y d ∧
  SeqAt.shaped (.tuple ds) = true ∧ SeqAt.shaped d = true ∧ ds[j]? = some z ∧ PyData.eqv z d = true ∧ (∀ (m : Nat) (z' : PyData), m < j → ds[m]? = some z' → PyData.eqv z' d = false) ∧ Q (.int (j : Nat)) H
theorem mt_indexT (hu : X.A.units + 65 < cLine) : MtR X "tuple.index" (rIndexT X.K) := by
  intro pins s σ H x xs v us Q I rx rxs h
  obtain ⟨a, y, d, ds, j, z, rfl, rfl, hl, hy, sl, sd, hz, hzj, hno, q⟩ := h
  cases rx
  cases rxs with
  | cons ry rt =>
    rename_i uy ut
    cases rt
    obtain ⟨bs, r1⟩ := Dp.reads I d y uy hy ry
    have hxs : PyData.canLayAll0 ds = true := SeqAt.canLay_of_shaped sl
    cases hl with
    | tup hs ha =>
      obtain ⟨its, rv, ⟨⟨cls, dd, data, sls⟩, ho, hc, n, hdt⟩, hlen⟩ := I.tuple hs
      simp only at hc hdt
      subst hc hdt
      obtain ⟨as, h4⟩ := Dp.readsAll I ds _ its ha rv
      have hroom : X.A.units + 1 + min (PyData.depthAll ds) d.depth < cLine := room_in2 (a := d) sd hu _
      have hn : its.length = ds.length := SeqAt.ReadsAll.length ds its as h4
      have hmap : its.map (SeqAt.readOf s.heap) = ds := SeqAt.readsAll_map ds its as hxs h4
      obtain ⟨hjd, _⟩ := List.getElem?_eq_some_iff.mp hz
      have hjl : j < its.length := by omega
      have hj : j < its.toArray.size := by simpa using hjl
      have at_ : ∀ (m : Nat) (hm : m < its.toArray.size) (z' : PyData), ds[m]? = some z' → SeqAt.readOf s.heap its.toArray[m] = z' := by
        intro m hm z' hz'
        have hml : m < its.length := by simpa using hm
        rw [← hmap, List.getElem?_map, List.getElem?_eq_getElem hml] at hz'
        have e1 : SeqAt.readOf s.heap its[m] = z' := Option.some.inj (show some (SeqAt.readOf s.heap its[m]) = some z' from hz')
        simpa using e1
      refine call_meets PySem.F.slot_tuple_index ⟨_, ho, rfl⟩ PySem.F.entry_tuple_index (PySem.F.args_tuple_index_2 _ _)
        (TI.tuple_indexAt a its.toArray n dd sls uy (fun u => PyData.eqv (SeqAt.readOf s.heap u) d) j hj ?_ ?_) ⟨ho, SeqAt.items_eqAt (vs := its.toArray) (show ReadsAll s.heap its.toArray.toList ds as from h4) r1 hxs (SeqAt.canLay_of_shaped sd) hroom, ?_⟩
      · show PyData.eqv (SeqAt.readOf s.heap its.toArray[j]) d = true
        rw [at_ j hj z hz]
        exact hzj
      · intro m hm hmj
        have hmd : m < ds.length := by omega
        have hz' : ds[m]? = some ds[m] := List.getElem?_eq_getElem hmd
        show PyData.eqv (SeqAt.readOf s.heap its.toArray[m]) d = false
        rw [at_ m hm _ hz']
        exact hno m _ hmj hz'
      · exact ⟨.int (j : Nat), H, I.tok _, ⟨_, rfl⟩, q⟩
end
end Kw


set_option Elab.async false
set_option linter.all false
set_option maxRecDepth 100000
set_option maxHeartbeats 4000000
namespace Kw
open PySem PySem.Spec PyProof.Rows L2
/-- a tuple that was made here and bears no dict: it may be asked for its methods -/
def Fz (H : Hp) (a : Addr) (xs : List V) : Prop := ∃ o : Obj, H a = some (.frz o (.tup xs)) ∧ o.cls = .type "tuple" ∧ o.dict = none
theorem Fz.sq {K : PySem.W.Frag} {H : Hp} {a : Addr} {xs : List V} (h : Fz H a xs) : SqT K H a xs := by
  obtain ⟨o, h, _⟩ := h
  exact .inl (.inr ⟨o, h⟩)
theorem Fz.nl {H H' : Hp} {a : Addr} {xs : List V} (k : Nl H H') (h : Fz H a xs) : Fz H' a xs := by
  obtain ⟨o, h, c, d⟩ := h
  exact ⟨o, k _ _ h (fun _ z => nomatch z) (fun _ z => nomatch z), c, d⟩
section
variable {X : Cx}
/-- tuple(l), l a list: the new tuple, with what it is kept -/
theorem call_tupleF : CallR X (.type "tuple") (fun xs H Q => ∃ p ys, xs = [.ref p] ∧ SqL X.K H p ys ∧ ∀ (l : Addr) (o : Obj), H l = none → o.cls = .type "tuple" → o.dict = none → Q (.ref l) (L2.upd H l (.frz o (.tup ys)))) := by
  intro pins s σ H xs us Q I r h
  obtain ⟨p, ys, rfl, hq, q⟩ := h
  obtain ⟨u, rfl, rx⟩ := vals1 r
  cases rx
  obtain ⟨its, r', pl, hz⟩ := I.list hq
  have hlen := r'.length
  refine call_tuple_list pl.isList (fun h' kp => ?_) (by simp only [List.size_toArray] <;> omega)
  have I1 : Inv X pins σ H { s with heap := h' } := I.kept (t' := s.toks) kp
  have g : (h'.push { cls := .type "tuple", data := .seq its.toArray }).get? h'.objs.size = some ({ cls := .type "tuple", data := .seq its.toArray } : Obj) := Heap.get?_push_size _ rfl
  have I2 : Inv X pins σ (L2.upd H h'.objs.size (.frz { cls := .type "tuple", data := .seq its.toArray } (.tup ys))) { s with heap := h'.push { cls := .type "tuple", data := .seq its.toArray } } :=
    I1.laid (t' := s.toks) (fun b o e => Heap.get?_push_of_some _ e) (Nat.le_refl _) (show ObjOk X.prog X.w _ _ _ (.frz _ (.tup ys)) from ⟨g, hz, its, r', IsTup.new _ _⟩)
  exact ⟨.ref h'.objs.size, _, I2, rfl, q _ _ (I1.hok.fresh (Nat.le_refl _)) rfl rfl⟩
variable {o e : Expr} {es : List Expr} {to : TE} {t : TA} {name : Str} {apos cpos : Pos} {id : String} {r : V → List V → Hp → VK → Prop}
/-- o.m(..), o such a tuple -/
def tBMF (r : V → List V → Hp → VK → Prop) (to : TE) (t : TA) : TE := fun σ H Q => to σ H fun x H1 => (∃ a xs, x = .ref a ∧ Fz H1 a xs) ∧ t σ H1 fun ys H2 => r x ys H2 Q
theorem pe_bmF (slot : Slot "tuple" name id) (hty : typeOf (.builtin id) = pure (.type "method_descriptor")) (hm : MtR X id r) (ho : PE X o to) (ha : PA X (e :: es) t)
    (hbase : attributeBase o name X.env (eval o X.env) = eval o X.env := by rfl)
    (hfew : ((backTo cpos (starEach (e :: es) X.env)).all (fun x => !x.1) && (backToKw cpos (keywordEach [] X.env)).all (fun x => x.1.isSome)
      && decide ((e :: es).length + ([] : List Keyword).length + (if ([] : List Keyword).isEmpty then 0 else 1) < 30)) = true := by rfl)
    (hline : (apos.endLine == cpos.line) = true := by rfl) (hs : starEach (e :: es) X.env = (false, eval e X.env) :: starEach es X.env := by rfl) (hplain : (backTo cpos (starEach es X.env)).any (·.1) = false := by rfl) :
    PE X (.Call (.Attribute o name apos) (e :: es) [] cpos) (tBMF r to t) := by
  refine ⟨fun pins s σ H Q I h => ?_⟩
  refine wpAny_Call_method_late hbase hfew hline rfl (thn (ho.run pins s σ H _ I h) fun v s1 hv => ?_)
  obtain ⟨x, H1, I1, r1, ⟨a, xs, rfl, ob, hf, hc, hd⟩, q1⟩ := hv
  cases r1
  obtain ⟨hg, _⟩ := I1.hok a _ hf
  refine ⟨"tuple", id, PySem.F.plainAttrs_tuple, slot, hty, ⟨ob, hg, hc⟩, fun b eb => ?_, ?_⟩
  · cases eb
    exact ⟨ob, hg, hd⟩
  have hA := ha.run cpos pins s1 σ H1 _ I1 q1
  rw [hs] at hA ⊢
  refine Calls.callWith_builtin (by show (false || (backTo cpos (starEach es X.env)).any (·.1)) = false; rw [hplain] <;> rfl) (Calls.evalArgs_plain ?_)
  exact thn hA fun us s2 hu => by
    obtain ⟨vs, H2, I2, r2, q2⟩ := hu
    exact hm pins s2 σ H2 (.ref a) vs (.ref a) us _ I2 rfl r2 q2
end
end Kw


set_option Elab.async false
set_option linter.all false
set_option maxRecDepth 100000
set_option maxHeartbeats 4000000
namespace Kw
open PySem PySem.Spec PyProof.Rows L2

def top (i : Nat) : Stmt := PySem.Challenge.pw_sealwatch_k49_whole_boards.main.body.getD i (.Pass ⟨0, 0, 0, 0⟩)
abbrev sIH : Stmt := inClass (top 8) 0
abbrev sNum : Stmt := top 19
abbrev sMany : Stmt := top 20
abbrev sInit : Stmt := inClass (top 31) 0
abbrev sHas : Stmt := inClass (top 31) 2
abbrev sEqH : Stmt := inClass (top 31) 3
abbrev sNeed : Stmt := top 32
abbrev sBoxes : Stmt := top 33
abbrev sIsPl : Stmt := top 34

/-! ### the built-in names that the module leaves alone -/
structure Bt (mg : Str → Option Value) : Prop where
  isi : mg "isinstance" = none
  int : mg "int" = none
  bool : mg "bool" = none
  len : mg "len" = none
  enu : mg "enumerate" = none
  tup : mg "tuple" = none
  lst : mg "list" = none
  rng : mg "range" = none
  str : mg "str" = none

section
variable {P : Program} {w : World} {K : PySem.W.Frag} {mg : Str → Option Value} {base : Heap}
/-! ### is_number -/
def numOk (n l : Int) : Bool := decide (0 ≤ n) && decide (n < l)
def spNum : Sp := fun vs H Q _ => ∃ n l : Int, vs = [.int n, .int l] ∧ Q (.bl (numOk n l)) H
theorem scNum : FnScope ["value", "limit"] ["value", "limit"] (defScope sNum) := ⟨rfl, rfl, rfl, by decide +kernel, rfl, by decide +kernel, by decide +kernel⟩
theorem ok_num {f : Addr} {fd : FuncData} (F : Fun K "is_number" "is_number" sNum f fd) (B : Bt mg) : FnOk P w K mg base CX0 1 f fd ["value", "limit"] spNum := by
  refine F.ok scNum (fun vs H Q E h => ?_) (fun cdv A outer s H vs Q E hr h => ?_)
  · obtain ⟨n, l, rfl, _⟩ := h
    rfl
  · obtain ⟨n, l, rfl, k⟩ := h
    refine ⟨_, pss_one (ps_ret (pe_and (pe_callB call_isi (by rfl) B.isi (by decide +kernel) (pa_cons (pv 0) (pa_cons (pe_bltn (v := .ty "int") (by rfl) B.int (by decide +kernel) rfl) pa_nil)))
      (pe_and (pe_not (pe_callB call_isi (by rfl) B.isi (by decide +kernel) (pa_cons (pv 0) (pa_cons (pe_bltn (v := .ty "bool") (by rfl) B.bool (by decide +kernel) rfl) pa_nil))))
        (pe_one (pe_chain op_le op_lt pe_int (pv 0) (pv 1)))))), ?_⟩
    refine ⟨_, rfl, _, _, _, _, true, rfl, .ty "int", .base (.int n), kit_ty (by decide +kernel), _, rfl, iteT ?_⟩
    refine ⟨_, rfl, _, _, _, _, false, rfl, .ty "bool", .base (.int n), kit_ty (by decide +kernel), _, rfl, _, rfl, iteT ?_⟩
    refine ⟨_, rfl, _, _, rfl, rfl, _, rfl, ?_⟩
    unfold numOk at k
    by_cases c : (0 : Int) ≤ n
    · rw [decide_eq_true c] at k ⊢
      refine iteT ⟨_, rfl, _, _, rfl, rfl, ?_⟩
      exact k
    · rw [decide_eq_false c] at k ⊢
      exact iteF k

/-! ### houses -/
structure Hs where
  hands : Int
  bs : List Pl
  ts : List Pl
  ss : List Pl
def stD (d : Hs) : PyData := .tuple [plsD d.bs, plsD d.ts, plsD d.ss]
def hsFs (n : Int) (vb vt vs vst : V) : List (Str × V) := putF "state" vst (putF "seals" vs (putF "things" vt (putF "boxes" vb (putF "hands" (.int n) []))))
theorem fs_hands (n : Int) (vb vt vs vst : V) : (hsFs n vb vt vs vst).lookup ("hands" : Str) = some (.int n) := by
  unfold hsFs
  rw [lookup_putF, if_neg (by decide +kernel), lookup_putF, if_neg (by decide +kernel), lookup_putF, if_neg (by decide +kernel), lookup_putF, if_neg (by decide +kernel), lookup_putF, if_pos rfl]
theorem fs_boxes (n : Int) (vb vt vs vst : V) : (hsFs n vb vt vs vst).lookup ("boxes" : Str) = some vb := by
  unfold hsFs
  rw [lookup_putF, if_neg (by decide +kernel), lookup_putF, if_neg (by decide +kernel), lookup_putF, if_neg (by decide +kernel), lookup_putF, if_pos rfl]
theorem fs_things (n : Int) (vb vt vs vst : V) : (hsFs n vb vt vs vst).lookup ("things" : Str) = some vt := by
  unfold hsFs
  rw [lookup_putF, if_neg (by decide +kernel), lookup_putF, if_neg (by decide +kernel), lookup_putF, if_pos rfl]
theorem fs_seals (n : Int) (vb vt vs vst : V) : (hsFs n vb vt vs vst).lookup ("seals" : Str) = some vs := by
  unfold hsFs
  rw [lookup_putF, if_neg (by decide +kernel), lookup_putF, if_pos rfl]
theorem fs_state (n : Int) (vb vt vs vst : V) : (hsFs n vb vt vs vst).lookup ("state" : Str) = some vst := by
  unfold hsFs
  rw [lookup_putF, if_pos rfl]
structure HouseAt (K : PySem.W.Frag) (C : Addr) (H : Hp) (h : Addr) (d : Hs) : Prop where
  ex : ∃ dx vb vt vs vst, H h = some (.ins C dx (hsFs d.hands vb vt vs vst)) ∧ Dp K H vb (plsD d.bs) ∧ Dp K H vt (plsD d.ts) ∧ Dp K H vs (plsD d.ss) ∧ Dp K H vst (stD d)
theorem noL_st (d : Hs) : noL (stD d) = true := by simp [stD, noL, noLs, noL_pls]
theorem HouseAt.nl {K : PySem.W.Frag} {C : Addr} {H H' : Hp} {h : Addr} {d : Hs} (k : Nl H H') (x : HouseAt K C H h d) : HouseAt K C H' h d := by
  obtain ⟨dx, vb, vt, vs, vst, h0, h1, h2, h3, h4⟩ := x.ex
  exact ⟨dx, vb, vt, vs, vst, k _ _ h0 (fun _ z => nomatch z) (fun _ z => nomatch z), Dp.nl k _ _ (noL_pls _) h1, Dp.nl k _ _ (noL_pls _) h2, Dp.nl k _ _ (noL_pls _) h3, Dp.nl k _ _ (noL_st _) h4⟩
/-! ### a state of which the row of seals may be asked for its methods -/
def Fv (H : Hp) (v : V) : Prop := ∃ a xs, v = .ref a ∧ Fz H a xs
theorem Fv.nl {H H' : Hp} {v : V} (k : Nl H H') (h : Fv H v) : Fv H' v := by
  obtain ⟨a, xs, e, f⟩ := h
  exact ⟨a, xs, e, f.nl k⟩
structure StF (K : PySem.W.Frag) (H : Hp) (v : V) (d : Hs) : Prop where
  ex : ∃ a v1 v2 v3, v = .ref a ∧ SqT K H a [v1, v2, v3] ∧ Dp K H v1 (plsD d.bs) ∧ Dp K H v2 (plsD d.ts) ∧ Dp K H v3 (plsD d.ss) ∧ Fv H v3
theorem StF.dp {K : PySem.W.Frag} {H : Hp} {v : V} {d : Hs} (x : StF K H v d) : Dp K H v (stD d) := by
  obtain ⟨a, v1, v2, v3, rfl, s, d1, d2, d3, _⟩ := x.ex
  exact .tup s (.cons d1 (.cons d2 (.cons d3 .nil)))
theorem StF.nl {K : PySem.W.Frag} {H H' : Hp} {v : V} {d : Hs} (k : Nl H H') (x : StF K H v d) : StF K H' v d := by
  obtain ⟨a, v1, v2, v3, e, s, d1, d2, d3, f⟩ := x.ex
  exact ⟨a, v1, v2, v3, e, SqT.nl k s, Dp.nl k _ _ (noL_pls _) d1, Dp.nl k _ _ (noL_pls _) d2, Dp.nl k _ _ (noL_pls _) d3, f.nl k⟩
theorem StF.same {K : PySem.W.Frag} {H H' : Hp} {v : V} {d : Hs} (k : Same H H') (x : StF K H v d) : StF K H' v d := x.nl fun a o h _ _ => k a o h
def HouseF (K : PySem.W.Frag) (C : Addr) (H : Hp) (h : Addr) (d : Hs) : Prop := ∃ dx vb vt vs vst, H h = some (.ins C dx (hsFs d.hands vb vt vs vst)) ∧ StF K H vst d
theorem HouseF.nl {K : PySem.W.Frag} {C : Addr} {H H' : Hp} {h : Addr} {d : Hs} (k : Nl H H') (x : HouseF K C H h d) : HouseF K C H' h d := by
  obtain ⟨dx, vb, vt, vs, vst, h0, h1⟩ := x
  exact ⟨dx, vb, vt, vs, vst, k _ _ h0 (fun _ z => nomatch z) (fun _ z => nomatch z), h1.nl k⟩
/-- what the class House must say -/
structure HouseC (K : PySem.W.Frag) (C : Addr) : Prop where
  cl : Cls K C
  nH : NoAttr K C "hands"
  nB : NoAttr K C "boxes"
  nT : NoAttr K C "things"
  nS : NoAttr K C "seals"
  nSt : NoAttr K C "state"
/-! ### how_many -/
def manyOf (d : Hs) (w : Str) : Nat := if w = "box" then d.bs.length else if w = "seal" then d.ss.length else if w = "thing" then d.ts.length else 0
def spMany (K : PySem.W.Frag) (C : Addr) : Sp := fun vs H Q _ => ∃ (h : Addr) (d : Hs) (w : Str), vs = [.ref h, .str w] ∧ HouseAt K C H h d ∧ Q (.int (manyOf d w)) H
theorem scMany : FnScope ["house", "word"] ["house", "word"] (defScope sMany) := ⟨rfl, rfl, rfl, by decide +kernel, rfl, by decide +kernel, by decide +kernel⟩
theorem ok_many {f C : Addr} {fd : FuncData} (F : Fun K "how_many" "how_many" sMany f fd) (B : Bt mg) (T : HouseC K C) : FnOk P w K mg base CX0 1 f fd ["house", "word"] (spMany K C) := by
  refine F.ok scMany (fun vs H Q E h => ?_) (fun cdv A outer s H vs Q E hr h => ?_)
  · obtain ⟨h, d, w, rfl, _⟩ := h
    rfl
  · obtain ⟨h, d, w, rfl, hd, k⟩ := h
    obtain ⟨dx, vb, vt, vs, vst, h0, h1, h2, h3, h4⟩ := hd.ex
    obtain ⟨ab, xb, eb, qb, db, lb⟩ := pls_at h1
    obtain ⟨at', xt, et, qt, dt, lt⟩ := pls_at h2
    obtain ⟨as, xs, es, qs, ds, ls⟩ := pls_at h3
    subst eb et es
    refine ⟨_, pss_cons (ps_if (pt_cmpR op_eq (pv 1) pe_str (nomark _)) (pss_one (ps_ret (pe_callB call_len_seq (by rfl) B.len PySem.boot_len (pa_cons (pe_fld (pv 0) rfl) pa_nil)))) pss_nil)
      (pss_cons (ps_if (pt_cmpR op_eq (pv 1) pe_str (nomark _)) (pss_one (ps_ret (pe_callB call_len_seq (by rfl) B.len PySem.boot_len (pa_cons (pe_fld (pv 0) rfl) pa_nil)))) pss_nil)
      (pss_cons (ps_if (pt_cmpR op_eq (pv 1) pe_str (nomark _)) (pss_one (ps_ret (pe_callB call_len_seq (by rfl) B.len PySem.boot_len (pa_cons (pe_fld (pv 0) rfl) pa_nil)))) pss_nil)
      (pss_one (ps_ret pe_int)))), ?_⟩
    have e0 : ∀ (z : Str), decide ((V.str w) = V.str z) = decide (w = z) := fun z => by
      by_cases c : w = z
      · rw [decide_eq_true c, c]; exact decide_eq_true rfl
      · rw [decide_eq_false c]; exact decide_eq_false fun q => c (V.str.inj q)
    refine ⟨_, rfl, rfl, _, rfl, ?_⟩
    rw [e0]
    unfold manyOf at k
    refine ite2 (fun c => ?_) (fun c => ?_)
    · have c' := of_decide_eq_true c
      rw [if_pos c', ← lb] at k
      exact ⟨_, rfl, h, C, dx, _, _, rfl, h0, T.cl, T.nB, fs_boxes _ _ _ _ _, _, _, rfl, .inr qb, k⟩
    have c' : ¬ w = "box" := fun z => c (decide_eq_true z)
    rw [if_neg c'] at k
    refine ⟨_, rfl, rfl, _, rfl, ?_⟩
    rw [e0]
    refine ite2 (fun c => ?_) (fun c => ?_)
    · have c' := of_decide_eq_true c
      rw [if_pos c', ← ls] at k
      exact ⟨_, rfl, h, C, dx, _, _, rfl, h0, T.cl, T.nS, fs_seals _ _ _ _ _, _, _, rfl, .inr qs, k⟩
    have c' : ¬ w = "seal" := fun z => c (decide_eq_true z)
    rw [if_neg c'] at k
    refine ⟨_, rfl, rfl, _, rfl, ?_⟩
    rw [e0]
    refine ite2 (fun c => ?_) (fun c => ?_)
    · have c' := of_decide_eq_true c
      rw [if_pos c', ← lt] at k
      exact ⟨_, rfl, h, C, dx, _, _, rfl, h0, T.cl, T.nT, fs_things _ _ _ _ _, _, _, rfl, .inr qt, k⟩
    have c' : ¬ w = "thing" := fun z => c (decide_eq_true z)
    rw [if_neg c'] at k
    exact k
/-! ### is_place -/
def plOk (p : Pl) (hands boxes : Int) : Bool := if p.1 = .hand then numOk p.2 hands else decide (p.1 = .box) && numOk p.2 boxes
def spIsPl (K : PySem.W.Frag) : Sp := fun vs H Q _ => ∃ (x : V) (p : Pl) (n m : Int), vs = [x, .int n, .int m] ∧ Dp K H x (plD p) ∧ Q (.bl (plOk p n m)) H
theorem scIsPl : FnScope ["place", "hands", "boxes", "word", "number"] ["place", "hands", "boxes"] (defScope sIsPl) := ⟨rfl, rfl, rfl, by decide +kernel, rfl, by decide +kernel, by decide +kernel⟩
theorem decS (a b : Str) : decide ((V.str a) = V.str b) = decide (a = b) := by
  by_cases c : a = b
  · rw [decide_eq_true c, c]; exact decide_eq_true rfl
  · rw [decide_eq_false c]; exact decide_eq_false fun q => c (V.str.inj q)
theorem ok_ispl {f g : Addr} {fd fdg : FuncData} (F : Fun K "is_place" "is_place" sIsPl f fd) (FG : Fun K "is_number" "is_number" sNum g fdg) (B : Bt mg) (mG : mg "is_number" = some (.ref g)) (bG : Binds K fdg ["value", "limit"] []) : FnOk P w K mg base CX0 2 f fd ["place", "hands", "boxes"] (spIsPl K) := by
  have G : FnOk P w K mg base CX0 1 g fdg ["value", "limit"] spNum := ok_num FG B
  refine F.ok scIsPl (fun vs H Q E h => ?_) (fun cdv A outer s H vs Q E hr h => ?_)
  · obtain ⟨x, p, n, m, rfl, _⟩ := h
    rfl
  · obtain ⟨x, p, n, m, rfl, hp, k⟩ := h
    obtain ⟨a, rfl, q⟩ := pl_at hp
    refine ⟨_, pss_cons (ps_asg (pv 0) (pg_tup (by rfl) (pgs_cons (pg_name (i := 3) scIsPl.nd rfl (.inl rfl)) (pgs_cons (pg_name (i := 4) scIsPl.nd rfl (.inl rfl)) pgs_nil))))
      (pss_cons (ps_if (pt_cmpR op_eq (pv 3) pe_str (nomark _)) (pss_one (ps_ret (pe_call G hr rfl mG FG.kp bG .nil pass0 (pa_cons (pv 4) (pa_cons (pv 1) pa_nil))))) pss_nil)
      (pss_one (ps_ret (pe_and (pe_cmpR op_eq (pv 3) pe_str (nomark _)) (pe_one (pe_call G hr rfl mG FG.kp bG .nil pass0 (pa_cons (pv 4) (pa_cons (pv 2) pa_nil)))))))), ?_⟩
    refine ⟨_, rfl, a, _, rfl, q, rfl, _, _, rfl, _, _, rfl, rfl, ?_⟩
    refine ⟨_, rfl, rfl, _, rfl, ?_⟩
    rw [decS]
    unfold plOk at k
    obtain ⟨u, i⟩ := p
    cases u with
    | hand =>
      rw [if_pos rfl] at k
      refine iteT ⟨_, rfl, _, rfl, i, n, rfl, k⟩
    | box =>
      rw [if_neg (show ¬ Wd.box = Wd.hand by decide)] at k
      refine iteF ⟨_, rfl, rfl, true, rfl, iteT ⟨_, rfl, _, rfl, i, m, rfl, k⟩⟩
    | gone =>
      rw [if_neg (show ¬ Wd.gone = Wd.hand by decide)] at k
      exact iteF ⟨_, rfl, rfl, false, rfl, iteF k⟩

/-! ### InvalidHouse(part, index) -/
theorem onlyFree_by {sc : Scope} (h : (sc.names.all fun p => !decide (p.2 = .free) || decide (p.1 = ("__class__" : Str))) = true) : ∀ y, sc.names.lookup y = some .free → y = ("__class__" : Str) := fun y hy => by
  have m := PySem.mem_of_lookup hy
  have q := List.all_eq_true.mp h _ m
  simpa using q
/-- what the written part says of such a class, its __init__ (the text st, bound under qual), the method's cell -/
structure ExcI (P : Program) (K : PySem.W.Frag) (mg : Str → Option Value) (x qual : Str) (st : Stmt) (C f : Addr) (fd : FuncData) : Prop where
  sup : SupC P K mg C
  at_ : PySem.W.findIn K (.ref C) "__init__" = some (some (.ref f))
  ty : PySem.W.typeIn K (.ref f) = some (.type "function")
  mgC : mg x = some (.ref C)
  ex : ∃ (oc : Value) (od : Option Addr) (kV doc pm : Value) (an : Option Addr) (ct : Value) (osl : Array (Option Value)) (cc cda : Addr), fd = PySem.W.ksFn "__init__" qual (defArgs st) (defBody st) (defScope st) .none kV doc pm an (.ref cda) ct cc ∧
    K.lookup f = some ⟨oc, od, .func fd, osl⟩ ∧ PySem.W.codeIn K (.ref cda) qual = true ∧
    (∃ ccl cdd vsC ccs fileS tf, K.lookup cda = some ⟨ccl, cdd, .fields vsC, ccs⟩ ∧ vsC[2]? = some (.str fileS tf) ∧ ((P.main.file : Str) == fileS) = true) ∧
    (∃ cl cld csl, K.lookup cc = some ⟨cl, cld, .cell (some (.ref C)), csl⟩)
  bind : Binds K fd (["self", "part", "index"] : List Str) []
def ihFs (z : Str) (i : Int) : List (Str × V) := [("index", .int i), ("part", .str z)]
def spIH (C : Addr) : Sp := fun vs H Q _ => ∃ (a : Addr) (z : Str) (i : Int), vs = [.ref a, .str z, .int i] ∧ H a = some (exo a C none) ∧ z.length ≤ 1000 ∧ 0 ≤ i ∧ i ≤ 1000 ∧
  ∀ dx, H dx = none → dx ≠ a → Q .non (upd (upd (upd H dx (exd dx [("part", .str z)])) a (exo a C (some dx))) dx (exd dx (ihFs z i)))
theorem scIH : SupScope ["self", "part", "index"] (defScope sIH) :=
  ⟨rfl, rfl, rfl, by decide +kernel, by decide +kernel, by decide +kernel, onlyFree_by (by decide +kernel), by decide +kernel, by decide +kernel⟩
theorem log2_small {i : Int} (h0 : 0 ≤ i) (h1 : i ≤ 1000) : i.natAbs.log2 < 1920 := by
  have h2 : i.natAbs ≤ 1000 := by omega
  by_cases h3 : i.natAbs = 0
  · rw [h3]; decide
  · have := (Nat.log2_lt h3 (k := 10)).mpr (by omega)
    omega
theorem digits_small {i : Int} (h0 : 0 ≤ i) (h1 : i ≤ 1000) : (toString i : Str).length ≤ 4 := toString_length_le h0 (k := 4) (by decide) (by omega)
theorem ok_ih {CX : CXT} {C f : Addr} {fd : FuncData} (T : ExcI P K mg "InvalidHouse" "InvalidHouse.__init__" sIH C f fd) (nP : PySem.W.findIn K (.ref C) "part" = some none) (nI : PySem.W.findIn K (.ref C) "index" = some none) :
    FnOk P w K mg base CX 1 f fd ["self", "part", "index"] (spIH C) := by
  obtain ⟨oc, od, kV, doc, pm, an, ct, osl, cc, cda, rfl, lk, hcd, ⟨ccl, cdd, vsC, ccs, fileS, tf, hcode, hvs, hfile⟩, ⟨cl, cld, csl, hcell⟩⟩ := T.ex
  refine fn_super (pl := fun _ => _) T.sup lk hcd rfl rfl hcode hvs hfile hcell scIH (fun vs H Q E h => ?_) (fun _ => rfl) (fun _ => rfl) (fun _ => rfl) (fun A outer s H vs Q E hr h => ?_)
  · obtain ⟨a, z, i, rfl, _⟩ := h
    rfl
  · obtain ⟨a, z, i, rfl, ha, hz, hi0, hi1, k⟩ := h
    refine ⟨_, _, pe_joined (.cons (pe_fmt (pv 1)) (.cons pe_str (.cons (pe_fmt (pv 2)) .nil))), pss_cons (ps_ost (pv 0) (pv 1)) (pss_one (ps_ost (pv 0) (pv 2))), ⟨a, rfl, ha⟩, ?_⟩
    have l1 : (Str.empty : Str).length = 0 := rfl
    have l2 : (": wrong at index " : Str).length = 17 := by decide +kernel
    have l3 := digits_small hi0 hi1
    have l4 : ∀ a b : Str, (a ++ b).length = a.length + b.length := Str.length_append
    have l5 := sizeLine_eq
    have hs : H a ≠ none := by rw [ha]; intro q; cases q
    refine ⟨_, rfl, .inl ⟨z, rfl, by omega, z, rfl, by rw [l4]; omega, _, rfl, by rw [l4, l4]; omega, _, rfl, .inr ⟨i, rfl, log2_small hi0 hi1, _, rfl, by rw [l4, l4, l4]; omega, ⟨_, rfl⟩, a, rfl, ha, ?_⟩⟩⟩
    refine ⟨_, rfl, _, rfl, a, C, rfl, T.sup.oex, nP, .inl ⟨ha, fun dx hd ne => ?_⟩⟩
    refine ⟨_, rfl, _, rfl, a, C, rfl, T.sup.oex, nI, .inr ⟨dx, [("part", .str z)], upd_same, by rw [upd_ne ne, upd_same], (by show 1 ≤ 900; decide), ?_⟩⟩
    exact k dx hd ne

/-! ### what is raised -/
/-- InvalidHouse(part, i) is let out -/
def Ri (C : Addr) (z : Str) (i : Nat) (H : Hp) (E : XK) : Prop := ∀ dd H', Same H H' → H' dd = some (.xd (ihFs z i)) → E (.ref C) (some dd) H'
theorem Ri.same {C : Addr} {z : Str} {i : Nat} {H H' : Hp} {E : XK} (e : Same H H') (r : Ri C z i H E) : Ri C z i H' E := fun dd H2 e2 h => r dd H2 (e.trans e2) h
/-- the reading of InvalidHouse(z, i), told by Ri -/
theorem ih_made {C : Addr} {H : Hp} {E : XK} {z : Str} {i : Nat} (hz : z.length ≤ 1000) (hi : i ≤ 1000) (r : Ri C z i H E) :
    ∀ a, H a = none → spIH C (.ref a :: ([.str z, .int i] ++ [])) (upd H a (exo a C none))
      (fun v H2 => v = .non ∧ ∃ (d : Addr) (fs : List (Str × V)), H2 a = some (exo a C (some d)) ∧ H2 d = some (exd d fs) ∧ H d = none ∧ E (.ref C) (some d) (upd (del H2 a) d (.xd fs))) (fun _ _ _ => False) := fun a ha => by
  refine ⟨a, z, i, rfl, upd_same, hz, by omega, by omega, fun dx hd ne => ⟨rfl, dx, _, by rw [upd_ne ne.symm, upd_same], upd_same, by rw [upd_ne ne] at hd; exact hd, ?_⟩⟩
  have hdx : H dx = none := by rw [upd_ne ne] at hd; exact hd
  refine r dx _ (fun b o e => ?_) upd_same
  have n1 : b ≠ dx := ne_of_none e hdx
  have n2 : b ≠ a := ne_of_none e ha
  rw [upd_ne n1, del_ne n2, upd_ne n1, upd_ne n2, upd_ne n1, upd_ne n2]
  exact e
def firstBad (f : Nat → Pl → Bool) : Nat → List Pl → Option Nat
  | _, [] => none
  | i, p :: r => if f i p = true then some i else firstBad f (i + 1) r
/-- the search, seen from turn i on -/
theorem bad_at {f : Nat → Pl → Bool} {ps : List Pl} {i : Nat} {p : Pl} (h : ps[i]? = some p) : firstBad f i (ps.drop i) = if f i p = true then some i else firstBad f (i + 1) (ps.drop (i + 1)) := by
  obtain ⟨hl, he⟩ := List.getElem?_eq_some_iff.mp h
  rw [List.drop_eq_getElem_cons hl, he]
  rfl
theorem bad_end {f : Nat → Pl → Bool} {ps : List Pl} : firstBad f ps.length (ps.drop ps.length) = none := by
  rw [List.drop_length]
  rfl
def badB (n : Int) (i : Nat) (p : Pl) : Bool := decide (i = 3) || !plOk p n i
def badBoxes (n : Int) (bs : List Pl) : Option Nat := if bs.length = 0 then some 0 else firstBad (badB n) 0 bs
def spBoxes (K : PySem.W.Frag) (C : Addr) : Sp := fun vs H Q E => ∃ (n : Int) (x : V) (bs : List Pl), vs = [.int n, x] ∧ Dp K H x (plsD bs) ∧ bs.length ≤ 100 ∧
  (∀ i, badBoxes n bs = some i → Ri C "boxes" i H E) ∧ (badBoxes n bs = none → ∀ H', Same H H' → Q .non H')
/-- the module's constants -/
structure Cs (mg : Str → Option Value) : Prop where
  h : ∃ t, mg "MOST_HANDS" = some (.int 4 t)
  b : ∃ t, mg "MOST_BOXES" = some (.int 3 t)
  t : ∃ t, mg "MOST_THINGS" = some (.int 4 t)
  s : ∃ t, mg "MOST_SEALS" = some (.int 3 t)
theorem scBoxes : FnScope ["hands", "boxes", "index", "place"] ["hands", "boxes"] (defScope sBoxes) := ⟨rfl, rfl, rfl, by decide +kernel, rfl, by decide +kernel, by decide +kernel⟩
theorem ok_boxes {f g C fI : Addr} {fd fdg fdI : FuncData} (F : Fun K "need_boxes" "need_boxes" sBoxes f fd) (B : Bt mg) (Z : Cs mg) (G : FnOk P w K mg base CX0 2 g fdg ["place", "hands", "boxes"] (spIsPl K)) (mG : mg "is_place" = some (.ref g)) (kG : PySem.W.keepIn K (.ref g) = true) (bG : Binds K fdg ["place", "hands", "boxes"] [])
    (T : ExcI P K mg "InvalidHouse" "InvalidHouse.__init__" sIH C fI fdI) (GI : FnOk P w K mg base CX0 1 fI fdI ["self", "part", "index"] (spIH C)) : FnOk P w K mg base (L2.CX P w) 3 f fd ["hands", "boxes"] (spBoxes K C) := by
  obtain ⟨tb, mB⟩ := Z.b
  refine F.okX scBoxes (fun vs H Q E h => ?_) (fun cdv A outer s H vs Q E hr h => ?_)
  · obtain ⟨n, x, bs, rfl, _⟩ := h
    rfl
  · obtain ⟨n, x, bs, rfl, hx, hl, kE, kQ⟩ := h
    obtain ⟨ab, xb, rfl, qb, db, lb⟩ := pls_at hx
    have tk : Takes (cxOf (L2.CX P w) P w K mg base ["hands", "boxes", "index", "place"] "need_boxes" (defScope sBoxes) f cdv A outer s H E) (fun cls d _ H => E cls d H) := takes_of rfl rfl rfl rfl
    refine ⟨_, pss_cons (ps_if (pt_cmpR op_eq (pe_callB call_len_seq (by rfl) B.len PySem.boot_len (pa_cons (pv 1) pa_nil)) pe_int (nomark _)) (pss_one (ps_raise rfl tk (pmk_oex T.sup.oex T.at_ T.ty GI hr T.bind .nil pass0 rfl T.mgC (pa_cons pe_str (pa_cons pe_int pa_nil))))) pss_nil)
      (pss_one (ps_for (passes_of rfl) rfl (pi_enumT (by rfl) B.enu (pa_cons (pv 1) pa_nil)) (pg_tup (by rfl) (pgs_cons (pg_name (i := 2) scBoxes.nd rfl (.inl rfl)) (pgs_cons (pg_name (i := 3) scBoxes.nd rfl (.inl rfl)) pgs_nil)))
        (pss_one (ps_if (PW.pt (pw_or (pt_cmpR op_eq (pv 2) (pe_glob (v := .int 3) rfl mB ⟨_, rfl⟩) (nomark _)) (pw_or1 (pt_not (pt_val (pe_call G hr rfl mG kG bG .nil pass0 (pa_cons (pv 3) (pa_cons (pv 0) (pa_cons (pv 2) pa_nil)))))))))
          (pss_one (ps_raise rfl tk (pmk_oex T.sup.oex T.at_ T.ty GI hr T.bind .nil pass0 rfl T.mgC (pa_cons pe_str (pa_cons (pv 2) pa_nil))))) pss_nil)))), ?_⟩
    refine ⟨_, rfl, _, _, rfl, .inr qb, rfl, _, rfl, ?_⟩
    rw [lb]
    unfold badBoxes at kE kQ
    have i0 : decide ((V.int (bs.length : Nat)) = V.int 0) = decide (bs.length = 0) := by
      by_cases c : bs.length = 0
      · rw [decide_eq_true c, c]; rfl
      · rw [decide_eq_false c]; exact decide_eq_false fun q => c (by have := V.int.inj q; omega)
    rw [i0]
    refine ite2 (fun c => ?_) (fun c => ?_)
    · have c' := of_decide_eq_true c
      rw [if_pos c'] at kE
      exact ⟨(by show 2 ≤ 1000; decide), ih_made (by decide +kernel) (by decide) (kE 0 rfl)⟩
    have c' : ¬ bs.length = 0 := fun z => c (decide_eq_true z)
    rw [if_neg c'] at kE kQ
    refine ⟨_, rfl, ab, xb, rfl, qb, for_enumT (K := K) (a := ab) (xs := xb) (fun i σ H2 => ∃ v1 v2 : Option V, σ = [some (.int n), some (.ref ab), v1, v2] ∧ Same H H2 ∧ firstBad (badB n) 0 bs = firstBad (badB n) i (bs.drop i))
      ⟨none, none, rfl, Same.refl H, by rw [List.drop_zero]⟩ (fun i σ H2 _ ⟨_, _, _, e, _⟩ => SqT.same e qb) ?_ ?_⟩
    · rintro i y σ H2 T' hi ⟨v1, v2, rfl, e, hb⟩ hT
      obtain ⟨p, hp, hy⟩ := pls_get db hi
      have e2 : Same H (upd H2 T' (.tup [.int (i : Nat), y])) := Same.upd2 e hT
      refine ⟨T', _, rfl, SqT.of upd_same, rfl, _, _, rfl, _, _, rfl, rfl, ?_⟩
      have hi100 : i < bs.length := (List.getElem?_eq_some_iff.mp hp).1
      rw [bad_at hp] at hb
      refine ⟨_, rfl, rfl, _, rfl, ?_⟩
      have i3 : decide ((V.int (i : Nat)) = V.int 3) = decide (i = 3) := by
        by_cases c : i = 3
        · rw [decide_eq_true c, c]; rfl
        · rw [decide_eq_false c]; exact decide_eq_false fun q => c (by have := V.int.inj q; omega)
      rw [i3]
      have raised : badB n i p = true → ∀ Q', (∀ cls d H', E cls d H' → Q' cls d H') → Ri C "boxes" i (upd H2 T' (.tup [.int (i : Nat), y])) Q' := fun hbad Q' hQ' => by
        rw [if_pos hbad] at hb
        exact fun dd H' e' hdd => hQ' _ _ _ (kE i hb dd H' (e2.trans e') hdd)
      unfold badB at raised hb
      by_cases c3 : i = 3
      · rw [decide_eq_true c3] at raised ⊢
        refine iteT (iteT ?_)
        exact ⟨_, rfl, (by show 2 ≤ 1000; decide), ih_made (by decide +kernel) (by omega) (raised rfl _ fun _ _ _ h => h)⟩
      · rw [decide_eq_false c3] at raised hb ⊢
        refine iteF ⟨_, rfl, _, rfl, _, rfl, _, p, n, i, rfl, Dp.nl (fun a o h _ _ => e2 a o h) _ _ (noL_pl p) hy, _, rfl, ?_⟩
        cases cp : plOk p n i with
        | false =>
          rw [cp] at raised
          refine iteT ?_
          exact ⟨_, rfl, (by show 2 ≤ 1000; decide), ih_made (by decide +kernel) (by omega) (raised rfl _ fun _ _ _ h => h)⟩
        | true =>
          rw [cp] at hb
          refine iteF ?_
          exact ⟨_, _, rfl, e2, hb⟩
    · rintro σ H2 ⟨v1, v2, rfl, e, hb⟩
      rw [lb, bad_end] at hb
      exact kQ hb H2 e

/-! ### need_house -/
def badT (n m : Int) (i : Nat) (p : Pl) : Bool := decide (i = 4) || !plOk p n m
def badS (n m : Int) (ss : List Pl) (i : Nat) (p : Pl) : Bool := (decide (i = 3) || !plOk p n m) || (decide (p.1 = .box) && (ss.take i).any fun q => decide (q = p))
def errOf (n : Int) (bs ts ss : List Pl) : Option (Str × Nat) :=
  if (!numOk n 5 || decide (n = 0)) = true then some ("hands", 0) else
  match badBoxes n bs with
  | some i => some ("boxes", i)
  | none =>
    match firstBad (badT n bs.length) 0 ts with
    | some i => some ("things", i)
    | none =>
      match firstBad (badS n bs.length ss) 0 ss with
      | some i => some ("seals", i)
      | none => none
def spNeed (K : PySem.W.Frag) (C : Addr) : Sp := fun vs H Q E => ∃ (n : Int) (x y z : V) (bs ts ss : List Pl), vs = [.int n, x, y, z] ∧ Dp K H x (plsD bs) ∧ Dp K H y (plsD ts) ∧ Dp K H z (plsD ss) ∧ bs.length ≤ 100 ∧ ts.length ≤ 100 ∧ ss.length ≤ 100 ∧
  (∀ z i, errOf n bs ts ss = some (z, i) → Ri C z i H E) ∧ (errOf n bs ts ss = none → ∀ H', Same H H' → Q .non H')
theorem decI (i j : Nat) : decide ((V.int (i : Int)) = V.int (j : Int)) = decide (i = j) := by
  by_cases c : i = j
  · rw [decide_eq_true c, c]; exact decide_eq_true rfl
  · rw [decide_eq_false c]; exact decide_eq_false fun q => c (by have := V.int.inj q; omega)
theorem decZ (i j : Int) : decide ((V.int i) = V.int j) = decide (i = j) := by
  by_cases c : i = j
  · rw [decide_eq_true c, c]; exact decide_eq_true rfl
  · rw [decide_eq_false c]; exact decide_eq_false fun q => c (V.int.inj q)
theorem any_pl (p : Pl) : ∀ l : List Pl, ((l.map plD).any fun z => PyData.eqv z (plD p)) = l.any fun q => decide (q = p)
  | [] => rfl
  | a :: l => by
    rw [List.map_cons, List.any_cons, List.any_cons, any_pl p l, eqv_pl]
theorem same_nl {H H' : Hp} (e : Same H H') : Nl H H' := fun a o h _ _ => e a o h
theorem scNeed : FnScope ["hands", "boxes", "things", "seals", "index", "place"] ["hands", "boxes", "things", "seals"] (defScope sNeed) := ⟨rfl, rfl, rfl, by decide +kernel, rfl, by decide +kernel, by decide +kernel⟩
theorem ok_need {f g gb gn C fI : Addr} {fd fdg fdb fdn fdI : FuncData} (F : Fun K "need_house" "need_house" sNeed f fd) (B : Bt mg) (Z : Cs mg)
    (G : FnOk P w K mg base CX0 2 g fdg ["place", "hands", "boxes"] (spIsPl K)) (mG : mg "is_place" = some (.ref g)) (kG : PySem.W.keepIn K (.ref g) = true) (bG : Binds K fdg ["place", "hands", "boxes"] [])
    (GN : FnOk P w K mg base CX0 1 gn fdn ["value", "limit"] spNum) (mN : mg "is_number" = some (.ref gn)) (kN : PySem.W.keepIn K (.ref gn) = true) (bN : Binds K fdn ["value", "limit"] [])
    (GB : FnOk P w K mg base (L2.CX P w) 3 gb fdb ["hands", "boxes"] (spBoxes K C)) (mB : mg "need_boxes" = some (.ref gb)) (kB : PySem.W.keepIn K (.ref gb) = true) (bB : Binds K fdb ["hands", "boxes"] [])
    (T : ExcI P K mg "InvalidHouse" "InvalidHouse.__init__" sIH C fI fdI) (GI : FnOk P w K mg base CX0 1 fI fdI ["self", "part", "index"] (spIH C)) : FnOk P w K mg base (L2.CX P w) 4 f fd ["hands", "boxes", "things", "seals"] (spNeed K C) := by
  obtain ⟨th, mH⟩ := Z.h
  obtain ⟨tt, mT⟩ := Z.t
  obtain ⟨ts', mS⟩ := Z.s
  refine F.okX scNeed (fun vs H Q E h => ?_) (fun cdv A outer s H vs Q E hr h => ?_)
  · obtain ⟨n, x, y, z, bs, ts, ss, rfl, _⟩ := h
    rfl
  · obtain ⟨n, x, y, z, bs, ts, ss, rfl, hx, hy, hz, hl1, hl2, hl3, kE, kQ⟩ := h
    obtain ⟨ab, xb, rfl, qb, db, lb⟩ := pls_at hx
    obtain ⟨at', xt, rfl, qt, dt, lt⟩ := pls_at hy
    obtain ⟨as, xs, rfl, qs, ds, ls⟩ := pls_at hz
    have hr2 : Room 2 _ := hr.mono (by decide)
    have hr1 : Room 1 _ := hr.mono (by decide)
    have hu65 : (cxOf (L2.CX P w) P w K mg base ["hands", "boxes", "things", "seals", "index", "place"] "need_house" (defScope sNeed) f cdv A outer s H E).A.units + 65 < cLine := by have := hr.un; show (A.deeper _).units + 65 < cLine; omega
    have tk : Takes (cxOf (L2.CX P w) P w K mg base ["hands", "boxes", "things", "seals", "index", "place"] "need_house" (defScope sNeed) f cdv A outer s H E) (fun cls d _ H => E cls d H) := takes_of rfl rfl rfl rfl
    refine ⟨_, pss_cons (ps_if (PW.pt (pw_or (pt_not (pt_val (pe_call GN hr1 rfl mN kN bN .nil pass0 (pa_cons (pv 0) (pa_cons (pe_op op_add (pe_glob (v := .int 4) rfl mH ⟨_, rfl⟩) pe_int) pa_nil))))) (pw_or1 (pt_cmpR op_eq (pv 0) pe_int (nomark _)))))
        (pss_one (ps_raise rfl tk (pmk_oex T.sup.oex T.at_ T.ty GI hr2 T.bind .nil pass0 rfl T.mgC (pa_cons pe_str (pa_cons pe_int pa_nil))))) pss_nil)
      (pss_cons (ps_expr (pe_call GB hr rfl mB kB bB .nil (passes_call tk (fun _ _ _ _ h => h)) (pa_cons (pv 0) (pa_cons (pv 1) pa_nil))))
      (pss_cons (ps_for (passes_of rfl) rfl (pi_enumT (by rfl) B.enu (pa_cons (pv 2) pa_nil)) (pg_tup (by rfl) (pgs_cons (pg_name (i := 4) scNeed.nd rfl (.inl rfl)) (pgs_cons (pg_name (i := 5) scNeed.nd rfl (.inl rfl)) pgs_nil)))
        (pss_one (ps_if (PW.pt (pw_or (pt_cmpR op_eq (pv 4) (pe_glob (v := .int 4) rfl mT ⟨_, rfl⟩) (nomark _)) (pw_or1 (pt_not (pt_val (pe_call G hr2 rfl mG kG bG .nil pass0 (pa_cons (pv 5) (pa_cons (pv 0) (pa_cons (pe_callB call_len_seq (by rfl) B.len PySem.boot_len (pa_cons (pv 1) pa_nil)) pa_nil)))))))))
          (pss_one (ps_raise rfl tk (pmk_oex T.sup.oex T.at_ T.ty GI hr2 T.bind .nil pass0 rfl T.mgC (pa_cons pe_str (pa_cons (pv 4) pa_nil))))) pss_nil)))
      (pss_one (ps_for (passes_of rfl) rfl (pi_enumT (by rfl) B.enu (pa_cons (pv 3) pa_nil)) (pg_tup (by rfl) (pgs_cons (pg_name (i := 4) scNeed.nd rfl (.inl rfl)) (pgs_cons (pg_name (i := 5) scNeed.nd rfl (.inl rfl)) pgs_nil)))
        (pss_cons (ps_if (PW.pt (pw_or (pt_cmpR op_eq (pv 4) (pe_glob (v := .int 3) rfl mS ⟨_, rfl⟩) (nomark _)) (pw_or1 (pt_not (pt_val (pe_call G hr2 rfl mG kG bG .nil pass0 (pa_cons (pv 5) (pa_cons (pv 0) (pa_cons (pe_callB call_len_seq (by rfl) B.len PySem.boot_len (pa_cons (pv 1) pa_nil)) pa_nil)))))))))
          (pss_one (ps_raise rfl tk (pmk_oex T.sup.oex T.at_ T.ty GI hr2 T.bind .nil pass0 rfl T.mgC (pa_cons pe_str (pa_cons (pv 4) pa_nil))))) pss_nil)
        (pss_one (ps_if (PW.pt (pw_and (pt_cmpR op_eq (pe_ix ix_tup (pv 5) pe_int (fun _ _ => rfl)) pe_str (nomark _)) (pw_and1 (pt_cmpR (op_inDT hu65) (pv 5) (pe_slice sl_tupA (pv 3) po_none (po_some (pv 4))) (by rfl)))))
          (pss_one (ps_raise rfl tk (pmk_oex T.sup.oex T.at_ T.ty GI hr2 T.bind .nil pass0 rfl T.mgC (pa_cons pe_str (pa_cons (pv 4) pa_nil))))) pss_nil))))))), ?_⟩
    refine ⟨_, rfl, _, _, rfl, rfl, n, 5, rfl, _, rfl, ?_⟩
    unfold errOf at kE kQ
    by_cases c0 : (!numOk n 5 || decide (n = 0)) = true
    · rw [if_pos c0] at kE
      have rz : tMkO C (spIH C) [] (tCons (tC (.str "hands")) (tCons (tC (.int 0)) tNil)) (start ["hands", "boxes", "things", "seals", "index", "place"] [.int n, .ref ab, .ref at', .ref as]) H (fun cls d H' => E cls d H') :=
        ⟨(by show 2 ≤ 1000; decide), ih_made (by decide +kernel) (by decide) (kE _ 0 rfl)⟩
      cases c1 : numOk n 5 with
      | false => exact iteT (iteT rz)
      | true =>
        refine iteF ⟨_, rfl, rfl, _, rfl, ?_⟩
        rw [decZ]
        rw [c1] at c0
        have c2 : decide (n = 0) = true := c0
        rw [c2]
        exact iteT rz
    rw [if_neg c0] at kE kQ
    have c1 : numOk n 5 = true := by
      cases c : numOk n 5 with
      | true => rfl
      | false => rw [c] at c0; exact absurd rfl c0
    have c2 : decide (n = 0) = false := by
      cases c : decide (n = 0) with
      | false => rfl
      | true => rw [c1, c] at c0; exact absurd rfl c0
    rw [c1]
    refine iteF ⟨_, rfl, rfl, _, rfl, ?_⟩
    rw [decZ, c2]
    refine iteF ?_
    -- need_boxes(hands, boxes)
    refine ⟨_, rfl, _, rfl, n, .ref ab, bs, rfl, hx, hl1, fun i hi => ?_, fun hb H1 e1 => ?_⟩
    · rw [hi] at kE
      exact kE _ i rfl
    rw [hb] at kE kQ
    have eqH : ∀ (m : Nat), decide ((V.int (m : Nat)) = V.int 4) = decide (m = 4) := fun m => decI m 4
    have eqH3 : ∀ (m : Nat), decide ((V.int (m : Nat)) = V.int 3) = decide (m = 3) := fun m => decI m 3
    -- for index, place in enumerate(things)
    refine ⟨_, rfl, at', xt, rfl, SqT.same e1 qt, for_enumT (K := K) (a := at') (xs := xt) (fun i σ H2 => ∃ v1 v2 : Option V, σ = [some (.int n), some (.ref ab), some (.ref at'), some (.ref as), v1, v2] ∧ Same H H2 ∧ firstBad (badT n bs.length) 0 ts = firstBad (badT n bs.length) i (ts.drop i))
      ⟨none, none, rfl, e1, by rw [List.drop_zero]⟩ (fun i σ H2 _ ⟨_, _, _, e, _⟩ => SqT.same e qt) ?_ ?_⟩
    · rintro i y σ H2 T' hi ⟨v1, v2, rfl, e, hb2⟩ hT
      obtain ⟨p, hp, hy2⟩ := pls_get dt hi
      have e2 : Same H (upd H2 T' (.tup [.int (i : Nat), y])) := Same.upd2 e hT
      refine ⟨T', _, rfl, SqT.of upd_same, rfl, _, _, rfl, _, _, rfl, rfl, ?_⟩
      have hi100 : i < ts.length := (List.getElem?_eq_some_iff.mp hp).1
      rw [bad_at hp] at hb2
      refine ⟨_, rfl, rfl, _, rfl, ?_⟩
      rw [eqH]
      have raised : badT n bs.length i p = true → Ri C "things" i (upd H2 T' (.tup [.int (i : Nat), y])) E := fun hbad => by
        rw [if_pos hbad] at hb2
        rw [hb2] at kE
        exact fun dd H' e' hdd => kE _ i rfl dd H' (e2.trans e') hdd
      unfold badT at raised hb2
      by_cases c3 : i = 4
      · rw [decide_eq_true c3] at raised ⊢
        refine iteT (iteT ?_)
        exact ⟨_, rfl, (by show 2 ≤ 1000; decide), ih_made (by decide +kernel) (by omega) (raised rfl)⟩
      · rw [decide_eq_false c3] at raised hb2 ⊢
        refine iteF ⟨_, rfl, _, rfl, _, rfl, ab, xb, rfl, .inr (SqT.same e2 qb), _, p, n, xb.length, rfl, Dp.nl (same_nl e2) _ _ (noL_pl p) hy2, _, rfl, ?_⟩
        rw [lb]
        cases cp : plOk p n bs.length with
        | false =>
          rw [cp] at raised
          refine iteT ?_
          exact ⟨_, rfl, (by show 2 ≤ 1000; decide), ih_made (by decide +kernel) (by omega) (raised rfl)⟩
        | true =>
          rw [cp] at hb2
          exact iteF ⟨_, _, rfl, e2, hb2⟩
    rintro σ H2 ⟨v1, v2, rfl, e, hb2⟩
    rw [lt, bad_end] at hb2
    rw [hb2] at kE kQ
    -- for index, place in enumerate(seals)
    refine ⟨_, rfl, as, xs, rfl, SqT.same e qs, for_enumT (K := K) (a := as) (xs := xs) (fun i σ H2 => ∃ v1 v2 : Option V, σ = [some (.int n), some (.ref ab), some (.ref at'), some (.ref as), v1, v2] ∧ Same H H2 ∧ firstBad (badS n bs.length ss) 0 ss = firstBad (badS n bs.length ss) i (ss.drop i))
      ⟨_, _, rfl, e, by rw [List.drop_zero]⟩ (fun i σ H2 _ ⟨_, _, _, e, _⟩ => SqT.same e qs) ?_ ?_⟩
    · rintro i y σ H3 T' hi ⟨v1, v2, rfl, e, hb2⟩ hT
      obtain ⟨p, hp, hy2⟩ := pls_get ds hi
      have e2 : Same H (upd H3 T' (.tup [.int (i : Nat), y])) := Same.upd2 e hT
      refine ⟨T', _, rfl, SqT.of upd_same, rfl, _, _, rfl, _, _, rfl, rfl, ?_⟩
      have hi100 : i < ss.length := (List.getElem?_eq_some_iff.mp hp).1
      rw [bad_at hp] at hb2
      refine ⟨_, rfl, rfl, _, rfl, ?_⟩
      rw [eqH3]
      have raised : badS n bs.length ss i p = true → ∀ H', Same H H' → Ri C "seals" i H' E := fun hbad H' eh => by
        rw [if_pos hbad] at hb2
        rw [hb2] at kE
        exact fun dd H'' e' hdd => kE _ i rfl dd H'' (eh.trans e') hdd
      unfold badS at raised hb2
      by_cases c3 : i = 3
      · rw [decide_eq_true c3] at raised ⊢
        refine iteT (iteT ?_)
        exact ⟨_, rfl, (by show 2 ≤ 1000; decide), ih_made (by decide +kernel) (by omega) (raised rfl _ e2)⟩
      · rw [decide_eq_false c3] at raised hb2 ⊢
        refine iteF ⟨_, rfl, _, rfl, _, rfl, ab, xb, rfl, .inr (SqT.same e2 qb), _, p, n, xb.length, rfl, Dp.nl (same_nl e2) _ _ (noL_pl p) hy2, _, rfl, ?_⟩
        rw [lb]
        cases cp : plOk p n bs.length with
        | false =>
          rw [cp] at raised
          refine iteT ?_
          exact ⟨_, rfl, (by show 2 ≤ 1000; decide), ih_made (by decide +kernel) (by omega) (raised rfl _ e2)⟩
        | true =>
          rw [cp] at raised hb2
          refine iteF ?_
          -- if place[0] == 'box' and place in seals[:index]
          obtain ⟨ap, rfl, qp⟩ := pl_at (Dp.nl (same_nl e2) _ _ (noL_pl p) hy2)
          refine ⟨_, rfl, ap, _, 0, _, rfl, rfl, qp, rfl, rfl, _, rfl, ?_⟩
          rw [decS]
          cases cw : p.1 with
          | hand =>
            rw [cw] at hb2
            exact iteF (iteF ⟨_, _, rfl, e2, hb2⟩)
          | gone =>
            rw [cw] at hb2
            exact iteF (iteF ⟨_, _, rfl, e2, hb2⟩)
          | box =>
            rw [cw] at raised hb2
            have hxl : i < xs.length := by omega
            refine iteT ⟨_, rfl, _, rfl, _, rfl, _, rfl, as, xs, rfl, SqT.same e2 qs, fun hw => ?_, fun hw T2 hT2 => ?_⟩
            · exfalso
              have h1 := hw.2
              rw [HT.sIx_nat] at h1
              omega
            · have e3 : Same H (upd (upd H3 T' (.tup [.int (i : Nat), .ref ap])) T2 (.tup (cutV xs none (some (i : Int))))) := Same.upd2 e2 hT2
              have ecut : cutV xs none (some (i : Int)) = xs.take i := by
                unfold cutV
                rw [HT.sIx_none, HT.sIx_nat, List.drop_zero, Nat.sub_zero, Nat.min_eq_left (by omega)]
              rw [ecut] at e3 ⊢
              refine ⟨plD p, (ss.take i).map plD, Dp.nl (same_nl e3) _ _ (noL_pl p) hy2, .tup (SqT.of upd_same) ?_, shaped_pl p, shaped_pls (ss.take i), _, rfl, ?_⟩
              · rw [List.map_take]
                exact DpAll.take i (Dp.sames e3 _ _ ds)
              · rw [any_pl]
                cases ca : (ss.take i).any fun q => decide (q = p) with
                | true =>
                  rw [ca] at raised
                  refine iteT ?_
                  exact ⟨_, rfl, (by show 2 ≤ 1000; decide), ih_made (by decide +kernel) (by omega) (raised rfl _ e3)⟩
                | false =>
                  rw [ca] at hb2
                  exact iteF ⟨_, _, rfl, e3, hb2⟩
    rintro σ H3 ⟨v1, v2, rfl, e, hb3⟩
    rw [ls, bad_end] at hb3
    rw [hb3] at kQ
    exact kQ rfl H3 e
end
end Kw


set_option Elab.async false
set_option linter.all false
set_option maxRecDepth 100000
set_option maxHeartbeats 4000000
namespace Kw
open PySem PySem.Spec PyProof.Rows L2
section
variable {P : Program} {w : World} {K : PySem.W.Frag} {mg : Str → Option Value} {base : Heap}
/-! ### House(hands, boxes, things, seals) -/
/-- all but what stands at h -/
def But (h : Addr) (H H' : Hp) : Prop := ∀ a o, H a = some o → a ≠ h → H' a = some o
def spHouse (K : PySem.W.Frag) (C CE : Addr) : Sp := fun vs H Q E => ∃ (h dx : Addr) (n : Int) (x y z : V) (bs ts ss : List Pl), vs = [.ref h, .int n, x, y, z] ∧ H h = some (.ins C dx []) ∧ Dp K H x (plsD bs) ∧ Dp K H y (plsD ts) ∧ Dp K H z (plsD ss) ∧ bs.length ≤ 100 ∧ ts.length ≤ 100 ∧ ss.length ≤ 100 ∧
  (∀ z i, errOf n bs ts ss = some (z, i) → Ri CE z i H E) ∧ (errOf n bs ts ss = none → ∀ H', But h H H' → HouseAt K C H' h ⟨n, bs, ts, ss⟩ → (Fv H z → HouseF K C H' h ⟨n, bs, ts, ss⟩) → Q .non H')
theorem scInit : FnScope ["self", "hands", "boxes", "things", "seals"] ["self", "hands", "boxes", "things", "seals"] (defScope sInit) := ⟨rfl, rfl, rfl, by decide +kernel, rfl, by decide +kernel, by decide +kernel⟩
theorem ok_house {f g C CE : Addr} {fd fdg : FuncData} (F : Fun K "__init__" "House.__init__" sInit f fd) (B : Bt mg) (T : HouseC K C)
    (G : FnOk P w K mg base (L2.CX P w) 4 g fdg ["hands", "boxes", "things", "seals"] (spNeed K CE)) (mG : mg "need_house" = some (.ref g)) (kG : PySem.W.keepIn K (.ref g) = true) (bG : Binds K fdg ["hands", "boxes", "things", "seals"] []) :
    FnOk P w K mg base (L2.CX P w) 5 f fd ["self", "hands", "boxes", "things", "seals"] (spHouse K C CE) := by
  refine F.okX scInit (fun vs H Q E h => ?_) (fun cdv A outer s H vs Q E hr h => ?_)
  · obtain ⟨h, dx, n, x, y, z, bs, ts, ss, rfl, _⟩ := h
    rfl
  · obtain ⟨h, dx, n, x, y, z, bs, ts, ss, rfl, hh, hx, hy, hz, hl1, hl2, hl3, kE, kQ⟩ := h
    obtain ⟨ab, xb, rfl, qb, db, lb⟩ := pls_at hx
    obtain ⟨at', xt, rfl, qt, dt, lt⟩ := pls_at hy
    obtain ⟨as, xs, rfl, qs, ds, ls⟩ := pls_at hz
    have tk : Takes (cxOf (L2.CX P w) P w K mg base ["self", "hands", "boxes", "things", "seals"] "House.__init__" (defScope sInit) f cdv A outer s H E) (fun cls d _ H => E cls d H) := takes_of rfl rfl rfl rfl
    refine ⟨_, pss_cons (ps_expr (pe_call G hr rfl mG kG bG .nil (passes_call tk (fun _ _ _ _ h => h)) (pa_cons (pv 1) (pa_cons (pv 2) (pa_cons (pv 3) (pa_cons (pv 4) pa_nil))))))
      (pss_cons (ps_fld (pv 0) (pv 1) rfl)
      (pss_cons (ps_fld (pv 0) (pe_callTy call_tuple_of (by rfl) B.tup (by decide +kernel) (pa_cons (pv 2) pa_nil)) rfl)
      (pss_cons (ps_fld (pv 0) (pe_callTy call_tuple_of (by rfl) B.tup (by decide +kernel) (pa_cons (pv 3) pa_nil)) rfl)
      (pss_cons (ps_fld (pv 0) (pe_callTy call_tuple_of (by rfl) B.tup (by decide +kernel) (pa_cons (pv 4) pa_nil)) rfl)
      (pss_one (ps_fld (pv 0) (pe_tup (pa_cons (pe_fld (pv 0) rfl) (pa_cons (pe_fld (pv 0) rfl) (pa_cons (pe_fld (pv 0) rfl) pa_nil)))) rfl)))))), ?_⟩
    refine ⟨_, rfl, _, rfl, _, rfl, _, rfl, n, .ref ab, .ref at', .ref as, bs, ts, ss, rfl, hx, hy, hz, hl1, hl2, hl3, kE, fun he H1 e1 => ?_⟩
    have h1 := e1 _ _ hh
    have tu : ∀ {a : Addr} {us : List V} {o : HO}, SqT K H a us → SqT K (upd H1 h o) a us := fun {a us o} q => by
      rcases SqT.same e1 q with (q | ⟨ob, q⟩) | q
      · exact .inl (.inl (by rw [upd_ne (ne_of q h1 (by intro z; cases z))]; exact q))
      · exact .inl (.inr ⟨ob, by rw [upd_ne (ne_of q h1 (by intro z; cases z))]; exact q⟩)
      · exact .inr q
    refine ⟨_, rfl, _, rfl, h, C, dx, _, rfl, h1, T.cl, T.nH, (by show 0 < 1000; decide), ?_⟩
    refine ⟨_, rfl, ab, xb, rfl, .inr ⟨tu qb, _, rfl, h, C, dx, _, rfl, upd_same, T.cl, T.nB, (by show 1 < 1000; decide), ?_⟩⟩
    rw [upd_upd]
    refine ⟨_, rfl, at', xt, rfl, .inr ⟨tu qt, _, rfl, h, C, dx, _, rfl, upd_same, T.cl, T.nT, ?_, ?_⟩⟩
    · have a3 := length_putF "boxes" (.ref ab) (putF "hands" (.int n) [])
      have a4 := length_putF "hands" (.int n) []
      have a5 : ([] : List (Str × V)).length = 0 := rfl
      omega
    rw [upd_upd]
    refine ⟨_, rfl, as, xs, rfl, .inr ⟨tu qs, _, rfl, h, C, dx, _, rfl, upd_same, T.cl, T.nS, ?_, ?_⟩⟩
    · have a2 := length_putF "things" (.ref at') (putF "boxes" (.ref ab) (putF "hands" (.int n) []))
      have a3 := length_putF "boxes" (.ref ab) (putF "hands" (.int n) [])
      have a4 := length_putF "hands" (.int n) []
      have a5 : ([] : List (Str × V)).length = 0 := rfl
      omega
    rw [upd_upd]
    have lk1 : (putF "seals" (.ref as) (putF "things" (.ref at') (putF "boxes" (.ref ab) (putF "hands" (.int n) [])))).lookup ("boxes" : Str) = some (V.ref ab) := by
      rw [lookup_putF, if_neg (by decide +kernel), lookup_putF, if_neg (by decide +kernel), lookup_putF, if_pos rfl]
    have lk2 : (putF "seals" (.ref as) (putF "things" (.ref at') (putF "boxes" (.ref ab) (putF "hands" (.int n) [])))).lookup ("things" : Str) = some (V.ref at') := by
      rw [lookup_putF, if_neg (by decide +kernel), lookup_putF, if_pos rfl]
    have lk3 : (putF "seals" (.ref as) (putF "things" (.ref at') (putF "boxes" (.ref ab) (putF "hands" (.int n) [])))).lookup ("seals" : Str) = some (V.ref as) := by
      rw [lookup_putF, if_pos rfl]
    refine ⟨_, rfl, h, C, dx, _, .ref ab, rfl, upd_same, T.cl, T.nB, lk1, _, rfl, h, C, dx, _, .ref at', rfl, upd_same, T.cl, T.nT, lk2, _, rfl, h, C, dx, _, .ref as, rfl, upd_same, T.cl, T.nS, lk3, (by show 3 ≤ sizeLine; decide), fun p hp => ?_⟩
    have nph : p ≠ h := fun e => by
      rw [e, upd_same] at hp
      cases hp
    refine ⟨_, rfl, h, C, dx, _, rfl, by rw [upd_ne nph.symm, upd_same], T.cl, T.nSt, ?_, ?_⟩
    · have a1 := length_putF "seals" (.ref as) (putF "things" (.ref at') (putF "boxes" (.ref ab) (putF "hands" (.int n) [])))
      have a2 := length_putF "things" (.ref at') (putF "boxes" (.ref ab) (putF "hands" (.int n) []))
      have a3 := length_putF "boxes" (.ref ab) (putF "hands" (.int n) [])
      have a4 := length_putF "hands" (.int n) []
      have a5 : ([] : List (Str × V)).length = 0 := rfl
      omega
    have hpH : H1 p = none := by rw [upd_ne nph] at hp; exact hp
    have key : ∀ b o, H b = some o → b ≠ h → (upd (upd (upd H1 h (.ins C dx (putF "seals" (.ref as) (putF "things" (.ref at') (putF "boxes" (.ref ab) (putF "hands" (.int n) [])))))) p (.tup [.ref ab, .ref at', .ref as])) h (.ins C dx (hsFs n (.ref ab) (.ref at') (.ref as) (.ref p)))) b = some o := fun b o e ne => by
      rw [upd_ne ne, upd_ne (ne_of_none (e1 b o e) hpH), upd_ne ne]
      exact e1 b o e
    have dps : ∀ (v : V) (ps : List Pl), Dp K H v (plsD ps) → Dp K (upd (upd (upd H1 h (.ins C dx (putF "seals" (.ref as) (putF "things" (.ref at') (putF "boxes" (.ref ab) (putF "hands" (.int n) [])))))) p (.tup [.ref ab, .ref at', .ref as])) h (.ins C dx (hsFs n (.ref ab) (.ref at') (.ref as) (.ref p)))) v (plsD ps) := fun v ps q =>
      Dp.tp (fun b xs e => by
        rcases e with e | ⟨o, e⟩
        · exact .inl (key b _ e (ne_of e hh (by intro z; cases z)))
        · exact .inr ⟨o, key b _ e (ne_of e hh (by intro z; cases z))⟩) _ _ (noL_pls ps) q
    refine kQ he _ key ⟨dx, _, _, _, _, upd_same, dps _ _ hx, dps _ _ hy, dps _ _ hz, ?_⟩ (fun hf => ⟨dx, _, _, _, _, upd_same, ⟨p, _, _, _, rfl, SqT.of (by rw [upd_ne nph, upd_same]), dps _ _ hx, dps _ _ hy, dps _ _ hz, ?_⟩⟩)
    rotate_left
    · obtain ⟨a0, x0, e0, o0, f0, f1, f2⟩ := hf
      exact ⟨a0, x0, e0, o0, key _ _ f0 (ne_of f0 hh (by intro z; cases z)), f1, f2⟩
    exact .tup (SqT.of (by rw [upd_ne nph, upd_same])) (.cons (dps _ _ hx) (.cons (dps _ _ hy) (.cons (dps _ _ hz) .nil)))

/-! ### items -/
def itD (k : Str) (i : Nat) : PyData := .tuple [.str k, .int i]
def kindD (k : Str) (n : Nat) : List PyData := (List.range n).map (itD k)
theorem wipe_one (σ : L2.St) (j : Nat) (x : Option V) : wipe ((wipe σ [j]).set j x) [j] = wipe σ [j] := by
  show (((σ.set j none).set j x).set j none) = σ.set j none
  rw [List.set_set, List.set_set]
theorem yes_lc {A B : Hp → Prop} {σ : L2.St} {H : Hp} (h : A H) : tYes σ H (fun b H3 => if b = true then A H3 else B H3) := by
  show (if true = true then A H else B H)
  rw [if_pos rfl]
  exact h
/-- [(k, number) for number in range(n)], the number's slot j -/
theorem lc_kind {K : PySem.W.Frag} {σ : L2.St} {H1 : Hp} {Dl : Addr} {Qd : Hp → Prop} (k : Str) (n j : Nat) (hj : j < σ.length) (hn : n ≤ 1000) (hD : H1 Dl = none)
    (hd : ∀ H xs, Same H1 H → H Dl = some (.lst xs) → DpAll K H xs (kindD k n) → Qd H) :
    ∃ W : Nat → Nat → Hp → Prop, (∃ m, W 0 m (upd H1 Dl (.lst []))) ∧ ∀ i m H, W i m H →
      ((Itr 0 n).stop i H ∧ Qd H) ∨ ((Itr 0 n).go i H ∧ ∃ Nx : Hp → Prop, (∀ H', Nx H' → ∃ m', m' < m ∧ W (i + 1) m' H') ∧ ∀ x H', (Itr 0 n).yld i H x H' → gName j x (wipe σ [j]) H' fun σ2 H2 => wipe σ2 [j] = wipe σ [j] ∧ tYes σ2 H2 fun b H3 =>
        if b = true then tTup (tCons (tC (.str k)) (tCons (tVar j) tNil)) σ2 H3 fun y H4 => ∃ acc, H4 Dl = some (.lst acc) ∧ acc.length < sizeLine ∧ Nx (upd H4 Dl (.lst (acc ++ [y]))) else Nx H3) := by
  refine lc_range (lo := 0) (n := n) (fun i H => Same H1 H ∧ ∃ xs, H Dl = some (.lst xs) ∧ DpAll K H xs (kindD k i) ∧ xs.length = i) ⟨same_upd hD, [], upd_same, .nil, rfl⟩ ?_ ?_
  · rintro i H hi ⟨e, xs, hx, dx, lx⟩
    refine ⟨wipe_one σ j _, ?_⟩
    refine yes_lc ?_
    refine ⟨_, List.getElem?_set_self (by rw [wipe_length]; exact hj), (by show 2 ≤ sizeLine; decide), fun p hp => ?_⟩
    have np : Dl ≠ p := ne_of_none hx hp
    refine ⟨xs, by rw [upd_ne np]; exact hx, by rw [lx, sizeLine_eq]; omega, ?_⟩
    have e2 : Same H1 (upd (upd H p (.tup [.str k, .int (0 + (i : Int))])) Dl (.lst (xs ++ [.ref p]))) := fun b o q => by
      rw [upd_ne (ne_of_none q hD), upd_ne (ne_of_none (e b o q) hp)]
      exact e b o q
    refine ⟨e2, xs ++ [.ref p], upd_same, ?_, by rw [List.length_append, lx]; rfl⟩
    have ek : kindD k (i + 1) = kindD k i ++ [itD k i] := by
      unfold kindD
      rw [List.range_succ, List.map_append]
      rfl
    rw [ek]
    have tp : Tp H (upd (upd H p (.tup [.str k, .int (0 + (i : Int))])) Dl (.lst (xs ++ [.ref p]))) := fun b us r => by
      rcases r with r | ⟨o, r⟩
      · exact .inl (by rw [upd_ne (ne_of r hx (by intro z; cases z)), upd_ne (ne_of_none r hp)]; exact r)
      · exact .inr ⟨o, by rw [upd_ne (ne_of r hx (by intro z; cases z)), upd_ne (ne_of_none r hp)]; exact r⟩
    refine DpAll.app (Dp.tps tp _ _ (noLs_map _ (fun _ => rfl) _) dx) (.cons (.tup (SqT.of (xs := [.str k, .int (0 + (i : Int))]) (by rw [upd_ne np.symm, upd_same])) (.cons (.str k) (.cons ?_ .nil))) .nil)
    rw [Int.zero_add]
    exact .int _
  · rintro H ⟨e, xs, hx, dx, lx⟩
    exact hd H xs e hx dx
def itemsD (d : Hs) : PyData := .list (kindD "box" d.bs.length ++ kindD "seal" d.ss.length ++ kindD "thing" d.ts.length)
def spItems (K : PySem.W.Frag) (C : Addr) : Sp := fun vs H Q _ => ∃ (h : Addr) (d : Hs), vs = [.ref h] ∧ HouseAt K C H h d ∧ d.bs.length ≤ 100 ∧ d.ts.length ≤ 100 ∧ d.ss.length ≤ 100 ∧ ∀ p H' xs, Same H H' → H p = none → H' p = some (.lst xs) → Dp K H' (.ref p) (itemsD d) → Q (.ref p) H'
/-! ### item in house -/
theorem ty_tupQ {K : PySem.W.Frag} {H : Hp} {a : Addr} {xs : List V} (h : SqT K H a xs) : TyX K H (.ref a) (.type "tuple") := by
  rcases h with (h | ⟨o, h⟩) | ⟨o, _, _, h, hc, _⟩
  · exact .base (.tup h)
  · exact .fTuple h
  · exact .kTuple h hc
def spHas (K : PySem.W.Frag) (C : Addr) : Sp := fun vs H Q _ => ∃ (h a : Addr) (d : Hs) (k : Str) (i : Int), vs = [.ref h, .ref a] ∧ HouseAt K C H h d ∧ SqT K H a [.str k, .int i] ∧ Q (.bl (numOk i (manyOf d k))) H
theorem scHas : FnScope ["self", "item"] ["self", "item"] (defScope sHas) := ⟨rfl, rfl, rfl, by decide +kernel, rfl, by decide +kernel, by decide +kernel⟩
theorem ok_has {f gm gn C : Addr} {fd fdm fdn : FuncData} (F : Fun K "__contains__" "House.__contains__" sHas f fd) (B : Bt mg)
    (GM : FnOk P w K mg base CX0 1 gm fdm ["house", "word"] (spMany K C)) (mM : mg "how_many" = some (.ref gm)) (kM : PySem.W.keepIn K (.ref gm) = true) (bM : Binds K fdm ["house", "word"] [])
    (GN : FnOk P w K mg base CX0 1 gn fdn ["value", "limit"] spNum) (mN : mg "is_number" = some (.ref gn)) (kN : PySem.W.keepIn K (.ref gn) = true) (bN : Binds K fdn ["value", "limit"] []) :
    FnOk P w K mg base CX0 2 f fd ["self", "item"] (spHas K C) := by
  refine F.ok scHas (fun vs H Q E h => ?_) (fun cdv A outer s H vs Q E hr h => ?_)
  · obtain ⟨h, a, d, k, i, rfl, _⟩ := h
    rfl
  · obtain ⟨h, a, d, k, i, rfl, hh, ha, kq⟩ := h
    refine ⟨_, pss_one (ps_ret (pe_and (pe_callB call_isi (by rfl) B.isi (by decide +kernel) (pa_cons (pv 1) (pa_cons (pe_bltn (v := .ty "tuple") (by rfl) B.tup (by decide +kernel) rfl) pa_nil)))
      (pe_and (pe_cmpR op_eq (pe_callB call_len_seq (by rfl) B.len PySem.boot_len (pa_cons (pv 1) pa_nil)) pe_int (nomark _))
        (pe_one (pe_call GN hr rfl mN kN bN .nil pass0 (pa_cons (pe_ix ix_tup (pv 1) pe_int (fun _ _ => rfl)) (pa_cons (pe_call GM hr rfl mM kM bM .nil pass0 (pa_cons (pv 0) (pa_cons (pe_ix ix_tup (pv 1) pe_int (fun _ _ => rfl)) pa_nil))) pa_nil))))))), ?_⟩
    refine ⟨_, rfl, _, _, _, _, true, rfl, .ty "tuple", ty_tupQ ha, kit_ty (by decide +kernel), _, rfl, iteT ?_⟩
    refine ⟨_, rfl, _, _, rfl, .inr ha, rfl, true, rfl, iteT ?_⟩
    refine ⟨_, rfl, a, _, 1, _, rfl, rfl, ha, rfl, _, rfl, _, rfl, a, _, 0, _, rfl, rfl, ha, rfl, h, d, k, rfl, hh, i, _, rfl, ?_⟩
    exact kq
/-! ### house == other -/
theorem lay_st (d : Hs) : PyData.canLay0 (stD d) = true := by
  have h1 := SeqAt.canLay_of_shaped (shaped_pls d.bs)
  have h2 := SeqAt.canLay_of_shaped (shaped_pls d.ts)
  have h3 := SeqAt.canLay_of_shaped (shaped_pls d.ss)
  simp [stD, PyData.canLay0, PyData.canLayAll0, h1, h2, h3]
theorem depth_plsD (ps : List Pl) : PyData.depth (plsD ps) ≤ 2 := by
  have := depth_pls ps
  simp [plsD, PyData.depth]
  omega
theorem shaped_st (d : Hs) : SeqAt.shaped (stD d) = true := by
  have h1 := depth_plsD d.bs
  have h2 := depth_plsD d.ts
  have h3 := depth_plsD d.ss
  simp [SeqAt.shaped, lay_st]
  simp [stD, PyData.depth, PyData.depthAll]
  omega
def spEqH (K : PySem.W.Frag) (C : Addr) : Sp := fun vs H Q _ => ∃ (a b : Addr) (d e : Hs), vs = [.ref a, .ref b] ∧ HouseAt K C H a d ∧ HouseAt K C H b e ∧ Q (.bl (decide (d.hands = e.hands) && PyData.eqv (stD d) (stD e))) H
/-- what the class says of isinstance -/
structure HouseI (K : PySem.W.Frag) (C : Addr) : Prop where
  ha : PySem.W.findIn K (.ref C) "__class__" = some (some (.builtin "object.__class__"))
  hn : PySem.W.specialIn K (.builtin "object.__class__") "__get__" = some (some (.builtin "getset_descriptor.__get__"))
  htk : PySem.W.takesIn K (.builtin "object.__class__") = some true
  hm : PySem.W.mroIn K C (.type "object") = some true
  kit : PySem.W.kitOne K (.ref C) (.ref C) = some true
theorem scEqH : FnScope ["self", "other"] ["self", "other"] (defScope sEqH) := ⟨rfl, rfl, rfl, by decide +kernel, rfl, by decide +kernel, by decide +kernel⟩
theorem ok_eqh {f C : Addr} {fd : FuncData} (F : Fun K "__eq__" "House.__eq__" sEqH f fd) (B : Bt mg) (T : HouseC K C) (I : HouseI K C) (mC : mg "House" = some (.ref C)) : FnOk P w K mg base CX0 1 f fd ["self", "other"] (spEqH K C) := by
  refine F.ok scEqH (fun vs H Q E h => ?_) (fun cdv A outer s H vs Q E hr h => ?_)
  · obtain ⟨a, b, d, e, rfl, _⟩ := h
    rfl
  · obtain ⟨a, b, d, e, rfl, hd, he, k⟩ := h
    obtain ⟨dx, vb, vt, vs, vst, h0, h1, h2, h3, h4⟩ := hd.ex
    obtain ⟨dy, wb, wt, ws, wst, g0, g1, g2, g3, g4⟩ := he.ex
    have hu : (cxOf CX0 P w K mg base ["self", "other"] "House.__eq__" (defScope sEqH) f cdv A outer s H E).nox.A.units + 64 < cLine := hr.units
    refine ⟨_, pss_one (ps_ret (pe_and (pe_callB call_isi (by rfl) B.isi (by decide +kernel) (pa_cons (pv 1) (pa_cons (pe_glob (v := .ref C) rfl mC rfl) pa_nil)))
      (pe_and (pe_cmpR op_eq (pe_fld (pv 0) rfl) (pe_fld (pv 1) rfl) (nomark _)) (pe_one (pe_cmpR (op_eqD hu) (pe_fld (pv 0) rfl) (pe_fld (pv 1) rfl) (nomark _)))))), ?_⟩
    refine ⟨_, rfl, _, _, _, _, true, rfl, .own C, .base (.ins g0 T.cl I.ha I.hn I.htk I.hm), I.kit, _, rfl, iteT ?_⟩
    refine ⟨_, rfl, a, C, dx, _, _, rfl, h0, T.cl, T.nH, fs_hands _ _ _ _ _, _, rfl, b, C, dy, _, _, rfl, g0, T.cl, T.nH, fs_hands _ _ _ _ _, rfl, _, rfl, ?_⟩
    rw [decZ]
    cases c : decide (d.hands = e.hands) with
    | false =>
      rw [c] at k
      exact iteF k
    | true =>
      rw [c] at k
      refine iteT ?_
      exact ⟨_, rfl, a, C, dx, _, vst, rfl, h0, T.cl, T.nSt, fs_state _ _ _ _ _, _, rfl, b, C, dy, _, wst, rfl, g0, T.cl, T.nSt, fs_state _ _ _ _ _, stD d, stD e, h4, g4, shaped_st d, shaped_st e, k⟩
end
end Kw


set_option Elab.async false
set_option linter.all false
set_option maxRecDepth 100000
set_option maxHeartbeats 4000000
namespace Kw
open PySem PySem.Spec PyProof.Rows L2
/-! ### the law's box of draws -/
def BoxAt (H : Hp) (b l : Addr) : Prop := ∃ (ns : List Int) (m : Int), H b = some (.lst [.ref l, .int m]) ∧ H l = some (.lst (ns.map V.int)) ∧ ns.length ≤ 63
def Tbs (H H' : Hp) : Prop := ∀ a ps, H a = some (.tbl ps) → H' a = some (.tbl ps)
/-- a draw: the box is changed, nothing else -/
structure Kb (b l : Addr) (H H' : Hp) : Prop where
  kp : Kp b l H H'
  tb : Tbs H H'
theorem Kb.refl (b l : Addr) (H : Hp) : Kb b l H H := ⟨Kp.refl b l H, fun _ _ h => h⟩
theorem Kb.trans {b l : Addr} {H H1 H2 : Hp} (x : Kb b l H H1) (y : Kb b l H1 H2) : Kb b l H H2 := ⟨x.kp.trans y.kp, fun a ps h => y.tb a ps (x.tb a ps h)⟩
theorem Kb.same {b l : Addr} {H H' : Hp} (e : Same H H') : Kb b l H H' := ⟨Kp.same e, fun a ps h => e a _ h⟩
theorem Kb.nl {b l : Addr} {H H' : Hp} (x : Kb b l H H') : Nl H H' := x.kp.nl
theorem BoxAt.same {H H' : Hp} {b l : Addr} (e : Same H H') (x : BoxAt H b l) : BoxAt H' b l := by
  obtain ⟨ns, m, h1, h2, h3⟩ := x
  exact ⟨ns, m, e _ _ h1, e _ _ h2, h3⟩
theorem BoxAt.ne {H : Hp} {b l : Addr} (x : BoxAt H b l) : b ≠ l := by
  obtain ⟨ns, m, h1, h2, _⟩ := x
  refine ne_of h1 h2 fun z => ?_
  have z' : [V.ref l, V.int m] = ns.map V.int := HO.lst.inj z
  cases ns with
  | nil => cases z'
  | cons n r => cases z'
section
variable {P : Program} {w : World} {K : PySem.W.Frag} {mg : Str → Option Value} {base : Heap}
/-! ### _law_begun -/
def spBegun (K : PySem.W.Frag) : Sp := fun vs H Q _ => ∃ (a : Addr) (ns : List Int), vs = [.ref a] ∧ SqL K H a (ns.map V.int) ∧ ns.length ≤ 63 ∧ ∀ b l H', Same H H' → BoxAt H' b l → Q (.ref b) H'
/-! ### _law_take -/
theorem ints_all (K : PySem.W.Frag) (H : Hp) : ∀ ns : List Int, DpAll K H (ns.map V.int) (ns.map PyData.int)
  | [] => .nil
  | n :: ns => .cons (.int n) (ints_all K H ns)
theorem ints_lay : ∀ ns : List Int, PyData.canLayAll0 (ns.map PyData.int) = true
  | [] => rfl
  | n :: ns => by simp [PyData.canLayAll0, PyData.canLay0, ints_lay ns]
theorem ints_depth : ∀ ns : List Int, PyData.depthAll (ns.map PyData.int) = 0
  | [] => rfl
  | n :: ns => by simp [PyData.depthAll, PyData.depth, ints_depth ns]
theorem ints_shaped (ns : List Int) : SeqAt.shaped (.list (ns.map PyData.int)) = true := by
  simp [SeqAt.shaped, PyData.canLay0, PyData.depth, ints_lay, ints_depth]
theorem ints_empty (ns : List Int) : PyData.eqv (.list (ns.map PyData.int)) (.list []) = decide (ns = []) := by
  cases ns with
  | nil => simp [PyData.eqv, PyData.eqvAll]
  | cons n ns => simp [PyData.eqv, PyData.eqvAll]
def spTake : Sp := fun vs H Q _ => ∃ (b l : Addr) (m : Int), vs = [.ref b, .int m] ∧ 0 < m ∧ m ≤ 1000 ∧ BoxAt H b l ∧ ∀ r H', 0 ≤ r → r < m → BoxAt H' b l → Kb b l H H' → Q (.int r) H'
/-! ### _law_alike, asked of equal data -/
mutual
def okA : PyData → Bool
  | .int _ => true
  | .str _ => true
  | .none => true
  | .bool _ => true
  | .tuple ds => okAs ds && decide (ds.length ≤ 1000)
  | .list ds => okAs ds && decide (ds.length ≤ 1000)
  | _ => false
def okAs : List PyData → Bool
  | [] => true
  | d :: ds => okA d && okAs ds
end
theorem okAs_get : ∀ {ds : List PyData} {i : Nat} {d : PyData}, okAs ds = true → ds[i]? = some d → okA d = true
  | [], _, _, _, e => by simp at e
  | d :: ds, 0, _, h, e => by
    simp at e
    subst e
    simp [okAs] at h
    exact h.1
  | d :: ds, i + 1, _, h, e => by
    simp [okAs] at h
    exact okAs_get h.2 (by simpa using e)
theorem depth_get : ∀ {ds : List PyData} {i : Nat} {d : PyData}, ds[i]? = some d → d.depth ≤ PyData.depthAll ds
  | [], _, _, e => by simp at e
  | d :: ds, 0, _, e => by
    simp at e
    subst e
    simp [PyData.depthAll]
    omega
  | d :: ds, i + 1, _, e => by
    have := depth_get (ds := ds) (i := i) (by simpa using e)
    simp [PyData.depthAll]
    omega
theorem DpAll.at2 {K : PySem.W.Frag} {H : Hp} : ∀ {vs : List V} {ds : List PyData} {i : Nat} {d : PyData}, DpAll K H vs ds → ds[i]? = some d → ∃ x, vs[i]? = some x ∧ Dp K H x d
  | _, _, _, _, .nil, e => by simp at e
  | _, _, 0, _, .cons h _, e => by
    simp at e
    subst e
    exact ⟨_, rfl, h⟩
  | _, _, i + 1, d, .cons _ t, e => by
    obtain ⟨x, h1, h2⟩ := DpAll.at2 (i := i) (d := d) t (by simpa using e)
    exact ⟨x, by simpa using h1, h2⟩
theorem ty_tup {K : PySem.W.Frag} {H : Hp} {a : Addr} {xs : List V} (h : SqT K H a xs) : TyX K H (.ref a) (.type "tuple") := by
  rcases h with (h | ⟨o, h⟩) | ⟨o, _, _, h, hc, _⟩
  · exact .base (.tup h)
  · exact .fTuple h
  · exact .kTuple h hc
theorem ty_lst {K : PySem.W.Frag} {H : Hp} {a : Addr} {xs : List V} (h : SqL K H a xs) : TyX K H (.ref a) (.type "list") := by
  rcases h with (h | ⟨o, h⟩) | ⟨o, _, _, h, hc, _⟩
  · exact .base (.lst h)
  · exact .base (.frz h)
  · exact .kList h hc
def spAlike (K : PySem.W.Frag) (n : Nat) : Sp := fun vs H Q _ => ∃ (x y : V) (d : PyData), vs = [x, y] ∧ Dp K H x d ∧ Dp K H y d ∧ okA d = true ∧ d.depth < n ∧ Q (.bl true) H
end
end Kw


set_option Elab.async false
set_option linter.all false
set_option maxRecDepth 100000
set_option maxHeartbeats 4000000
namespace Kw
open PySem PySem.Spec PyProof.Rows L2
section
variable {P : Program} {w : World} {K : PySem.W.Frag} {mg : Str → Option Value} {base : Heap}
theorem BoxAt.upd {H : Hp} {b l p : Addr} {o : HO} (hp : H p = none) (x : BoxAt H b l) : BoxAt (L2.upd H p o) b l := BoxAt.same (same_upd hp) x
theorem numOk_of {r m : Int} (h0 : 0 ≤ r) (h1 : r < m) : numOk r m = true := by
  unfold numOk
  rw [decide_eq_true h0, decide_eq_true h1]
  rfl
theorem numOk_is {r m : Int} (h : numOk r m = true) : 0 ≤ r ∧ r < m := by
  unfold numOk at h
  have h' := Bool.and_eq_true_iff.mp h
  exact ⟨of_decide_eq_true h'.1, of_decide_eq_true h'.2⟩
/-! ### _law_places -/
def spPlaces (K : PySem.W.Frag) : Sp := fun vs H Q _ => ∃ (b l : Addr) (h m : Int), vs = [.ref b, .int h, .int m] ∧ 0 < h ∧ h ≤ 1000 ∧ 0 ≤ m ∧ m ≤ 1000 ∧ BoxAt H b l ∧ ∀ v q H', Dp K H' v (plD q) → plOk q h m = true → BoxAt H' b l → Kb b l H H' → Q v H'
/-! ### _law_house -/
theorem bad_none {f : Nat → Pl → Bool} : ∀ (l : List Pl) (k : Nat), (∀ i p, l[i]? = some p → f (k + i) p = false) → firstBad f k l = none
  | [], _, _ => rfl
  | p :: r, k, h => by
    have h0 := h 0 p rfl
    rw [Nat.add_zero] at h0
    show (if f k p = true then some k else firstBad f (k + 1) r) = none
    rw [h0, if_neg (by decide)]
    exact bad_none r (k + 1) fun i q e => by
      have := h (i + 1) q (by simpa using e)
      rw [show k + 1 + i = k + (i + 1) by omega]
      exact this
/-- what a drawn house is -/
structure HsOk (d : Hs) : Prop where
  h0 : 1 ≤ d.hands
  h1 : d.hands ≤ 4
  b0 : 1 ≤ d.bs.length
  b1 : d.bs.length ≤ 3
  t1 : d.ts.length ≤ 4
  s1 : d.ss.length ≤ 3
  okE : errOf d.hands d.bs d.ts d.ss = none
  nb : ∀ p ∈ d.bs, p.1 ≠ .gone
  nt : ∀ p ∈ d.ts, p.1 ≠ .gone
  ns : ∀ p ∈ d.ss, p.1 ≠ .gone
theorem Kb.updD {b l D : Addr} {H H' : Hp} {o : HO} (k : Kb b l H H') (hD : H D = .none) : Kb b l H (L2.upd H' D o) :=
  ⟨⟨fun a u h n1 n2 => by rw [upd_ne (ne_of_none h hD)]; exact k.kp.nl a u h n1 n2, fun a xs h n1 n2 => by rw [upd_ne (ne_of_none h hD)]; exact k.kp.ls a xs h n1 n2⟩, fun a ps h => by rw [upd_ne (ne_of_none h hD)]; exact k.tb a ps h⟩
theorem BoxAt.neL {H : Hp} {b l D : Addr} (x : BoxAt H b l) (hD : H D = .none) : D ≠ b ∧ D ≠ l := by
  obtain ⟨ns, m, h1, h2, _⟩ := x
  exact ⟨(ne_of_none h1 hD).symm, (ne_of_none h2 hD).symm⟩
theorem BoxAt.updD {H : Hp} {b l D : Addr} {o : HO} (x : BoxAt H b l) (n1 : D ≠ b) (n2 : D ≠ l) : BoxAt (L2.upd H D o) b l := by
  obtain ⟨ns, m, h1, h2, h3⟩ := x
  exact ⟨ns, m, by rw [upd_ne n1.symm]; exact h1, by rw [upd_ne n2.symm]; exact h2, h3⟩
theorem tp_lst {H : Hp} {D : Addr} {xs : List V} {o : HO} (h : H D = some (.lst xs)) : Tp H (L2.upd H D o) := fun a us r => by
  rcases r with r | ⟨u, r⟩
  · exact .inl (by rw [upd_ne (ne_of r h (by intro z; cases z))]; exact r)
  · exact .inr ⟨u, by rw [upd_ne (ne_of r h (by intro z; cases z))]; exact r⟩
theorem tp_nl {H H' : Hp} (k : Nl H H') : Tp H H' := fun a us r => by
  rcases r with r | ⟨u, r⟩
  · exact .inl (k _ _ r (fun _ z => nomatch z) fun _ z => nomatch z)
  · exact .inr ⟨u, k _ _ r (fun _ z => nomatch z) fun _ z => nomatch z⟩
/-- [_law_places(box, hands, x) for index in range(n)] -/
theorem lc_pl {σ : L2.St} {H2 : Hp} {D b l : Addr} {Qd : Hp → Prop} (x : Nat) (hands : Int) (g : Nat → Int) (n : Nat) (hn : n ≤ 100) (h0 : ∀ y, ((wipe σ [7]).set 7 y)[0]? = some (some (.ref b))) (h2 : ∀ y, ((wipe σ [7]).set 7 y)[2]? = some (some (.int hands)))
    (hx : ∀ i : Nat, ((wipe σ [7]).set 7 (some (.int (0 + (i : Int)))))[x]? = some (some (.int (g i)))) (hh0 : 0 < hands) (hh1 : hands ≤ 1000) (hg : ∀ i, i < n → 0 ≤ g i ∧ g i ≤ 1000) (hB : BoxAt H2 b l) (hD : H2 D = .none)
    (hd : ∀ (H : Hp) (xs : List V) (ps : List Pl), Kb b l H2 H → BoxAt H b l → H D = some (.lst xs) → DpAll K H xs (ps.map plD) → ps.length = n → (∀ j q, ps[j]? = some q → plOk q hands (g j) = true) → Qd H) :
    ∃ W : Nat → Nat → Hp → Prop, (∃ m, W 0 m (L2.upd H2 D (.lst []))) ∧ ∀ i m H, W i m H →
      ((Itr 0 n).stop i H ∧ Qd H) ∨ ((Itr 0 n).go i H ∧ ∃ Nx : Hp → Prop, (∀ H', Nx H' → ∃ m', m' < m ∧ W (i + 1) m' H') ∧ ∀ y H', (Itr 0 n).yld i H y H' → gName 7 y (wipe σ [7]) H' fun σ2 H2 => wipe σ2 [7] = wipe σ [7] ∧ tYes σ2 H2 fun b H3 =>
        if b = true then tCall (spPlaces K) [] E0 (tCons (tVar 0) (tCons (tVar 2) (tCons (tVar x) tNil))) σ2 H3 fun y H4 => ∃ acc, H4 D = some (.lst acc) ∧ acc.length < sizeLine ∧ Nx (L2.upd H4 D (.lst (acc ++ [y]))) else Nx H3) := by
  obtain ⟨nb, nl⟩ := hB.neL hD
  refine lc_range (lo := 0) (n := n) (fun i H => Kb b l H2 H ∧ BoxAt H b l ∧ ∃ xs ps, H D = some (.lst xs) ∧ DpAll K H xs (ps.map plD) ∧ ps.length = i ∧ ∀ j q, ps[j]? = some q → plOk q hands (g j) = true)
    ⟨(Kb.refl b l H2).updD hD, hB.updD nb nl, [], [], upd_same, .nil, rfl, fun j q e => by simp at e⟩ ?_ ?_
  · rintro i H hi ⟨hk, hB1, xs, ps, hxs, dx, lx, ok⟩
    refine ⟨wipe_one σ 7 _, yes_lc ?_⟩
    refine ⟨_, h0 _, _, h2 _, _, hx i, b, l, hands, g i, rfl, hh0, hh1, (hg i hi).1, (hg i hi).2, hB1, fun v q H' dv okq hB' hk' => ?_⟩
    have hx' := hk'.kp.ls D xs hxs nb nl
    have lxs : xs.length = ps.length := by rw [DpAll.len dx, List.length_map]
    refine ⟨xs, hx', by rw [sizeLine_eq]; omega, (hk.trans hk').updD hD, hB'.updD nb nl, xs ++ [v], ps ++ [q], upd_same, ?_, by rw [List.length_append, lx]; rfl, fun j p e => ?_⟩
    · rw [List.map_append]
      have tp := tp_lst (o := HO.lst (xs ++ [v])) hx'
      exact DpAll.app (Dp.tps tp _ _ (noLs_map _ noL_pl _) (Dp.tps (tp_nl hk'.nl) _ _ (noLs_map _ noL_pl _) dx)) (.cons (Dp.tp tp _ _ (noL_pl q) dv) .nil)
    · by_cases c : j < ps.length
      · rw [List.getElem?_append_left c] at e
        exact ok j p e
      · have ej : j = ps.length := by
          have := (List.getElem?_eq_some_iff.mp e).1
          simp at this
          omega
        subst ej
        rw [List.getElem?_append_right (Nat.le_refl _), Nat.sub_self] at e
        have ep : q = p := by simpa using e
        subst ep
        rw [lx]
        exact okq
  · rintro H ⟨hk, hB1, xs, ps, hxs, dx, lx, ok⟩
    exact hd H xs ps hk hB1 hxs dx lx ok
/-- the seals that are drawn one by one: a hand's, or on a box that has none -/
def OkS (m : Int) (qs : List Pl) : Prop := ∀ (i : Nat) q, qs[i]? = some q → q.1 = .hand ∨ (q.1 = .box ∧ numOk q.2 m = true ∧ q ∉ qs.take i)
theorem OkS.nil (m : Int) : OkS m [] := fun i q e => by simp at e
theorem OkS.add {m : Int} {qs : List Pl} {q : Pl} (h : OkS m qs) (hq : q.1 = .hand ∨ (q.1 = .box ∧ numOk q.2 m = true ∧ q ∉ qs)) : OkS m (qs ++ [q]) := fun j p e => by
  by_cases c : j < qs.length
  · rw [List.getElem?_append_left c] at e
    rw [List.take_append_of_le_length (by omega)]
    exact h j p e
  · have ej : j = qs.length := by
      have := (List.getElem?_eq_some_iff.mp e).1
      simp at this
      omega
    subst ej
    rw [List.getElem?_append_right (Nat.le_refl _), Nat.sub_self] at e
    have ep : q = p := by simpa using e
    subst ep
    rw [List.take_append_of_le_length (Nat.le_refl _), List.take_length]
    exact hq
def fixS (h : Int) (q : Pl) : Pl := if q.1 = .box then q else (.hand, q.2 % h)
theorem fix_ok {h m : Int} {qs : List Pl} (h0 : 0 < h) (ok : OkS m qs) (hl : qs.length ≤ 3) (ss : List Pl) (ess : ss = qs.map (fixS h)) : ∀ (i : Nat) p, ss[i]? = some p → badS h m ss (0 + i) p = false := fun i p e => by
  subst ess
  rw [List.getElem?_map] at e
  cases eq : qs[i]? with
  | none => rw [eq] at e; cases e
  | some q =>
    rw [eq] at e
    have e' : fixS h q = p := Option.some.inj e
    subst e'
    have hi := (List.getElem?_eq_some_iff.mp eq).1
    rw [Nat.zero_add]
    unfold badS
    have n3 : decide (i = 3) = false := decide_eq_false (by omega)
    rw [n3]
    rcases ok i q eq with hq | ⟨hq, hn, hni⟩
    · have ef : fixS h q = (.hand, q.2 % h) := by unfold fixS; rw [if_neg (by rw [hq]; decide)]
      rw [ef]
      have pk : plOk (.hand, q.2 % h) h m = true := numOk_of (Int.emod_nonneg _ (by omega)) (Int.emod_lt_of_pos _ h0)
      rw [pk]
      rfl
    · have ef : fixS h q = q := by unfold fixS; rw [if_pos hq]
      rw [ef]
      have pk : plOk q h m = true := by
        unfold plOk
        rw [if_neg (by rw [hq]; decide), hq, hn]
        rfl
      rw [pk]
      have na : ((qs.map (fixS h)).take i).any (fun z => decide (z = q)) = false := by
        rw [List.any_eq_false]
        intro z hz hzq
        have hz' : z = q := of_decide_eq_true hzq
        subst hz'
        rw [← List.map_take] at hz
        obtain ⟨z0, hz0, ez⟩ := List.mem_map.mp hz
        have : z0 = z := by
          unfold fixS at ez
          by_cases c : z0.1 = .box
          · rw [if_pos c] at ez; exact ez
          · rw [if_neg c] at ez
            rw [← ez] at hq
            cases hq
        subst this
        exact hni hz0
      rw [na]
      simp
theorem plOk_gone {p : Pl} {h m : Int} (k : plOk p h m = true) : p.1 ≠ .gone := fun z => by
  unfold plOk at k
  rw [z] at k
  cases k
theorem err_none {h : Int} {bs ts ss : List Pl} (h0 : 1 ≤ h) (h1 : h ≤ 4) (b0 : 1 ≤ bs.length) (b1 : bs.length ≤ 3) (okb : ∀ (i : Nat) p, bs[i]? = some p → plOk p h i = true) (t1 : ts.length ≤ 4) (okt : ∀ (i : Nat) p, ts[i]? = some p → plOk p h bs.length = true)
    (oks : ∀ (i : Nat) p, ss[i]? = some p → badS h bs.length ss (0 + i) p = false) : errOf h bs ts ss = none := by
  unfold errOf
  have hn : numOk h 5 = true := numOk_of (by omega) (by omega)
  have hz : decide (h = 0) = false := decide_eq_false (by omega)
  rw [hn, hz, if_neg (by decide)]
  have eb : badBoxes h bs = none := by
    unfold badBoxes
    rw [if_neg (by omega)]
    refine bad_none bs 0 fun i p e => ?_
    have hi := (List.getElem?_eq_some_iff.mp e).1
    unfold badB
    rw [Nat.zero_add, okb i p e, decide_eq_false (show ¬ i = 3 by omega)]
    rfl
  have et : firstBad (badT h bs.length) 0 ts = none := by
    refine bad_none ts 0 fun i p e => ?_
    have hi := (List.getElem?_eq_some_iff.mp e).1
    unfold badT
    rw [Nat.zero_add, okt i p e, decide_eq_false (show ¬ i = 4 by omega)]
    rfl
  rw [eb, et, bad_none ss 0 oks]
theorem mem_get {α : Type} {l : List α} {p : α} (h : p ∈ l) : ∃ i : Nat, l[i]? = some p := by
  obtain ⟨i, hi, e⟩ := List.getElem_of_mem h
  exact ⟨i, List.getElem?_eq_some_iff.mpr ⟨hi, e⟩⟩
def spLHouse (K : PySem.W.Frag) (C : Addr) : Sp := fun vs H Q _ => ∃ (b l t : Addr) (s0 s1 s2 s3 : Int), vs = [.ref b, .ref t] ∧ SqT K H t [.int s0, .int s1, .int s2, .int s3] ∧ (1 ≤ s0 ∧ s0 ≤ 4) ∧ (1 ≤ s1 ∧ s1 ≤ 3) ∧ (0 ≤ s2 ∧ s2 ≤ 4) ∧ (0 ≤ s3 ∧ s3 ≤ 3) ∧ BoxAt H b l ∧
  ∀ h d H', HouseAt K C H' h d → HouseF K C H' h d → HsOk d → BoxAt H' b l → Kb b l H H' → Q (.ref h) H'
end
end Kw


set_option Elab.async false
set_option linter.all false
set_option maxRecDepth 100000
set_option maxHeartbeats 4000000
namespace Kw
open PySem PySem.Spec PyProof.Rows L2
section
variable {P : Program} {w : World} {K : PySem.W.Frag} {mg : Str → Option Value} {base : Heap}
def dueD : Option (Str × Nat) → PyData
  | none => .str ""
  | some (z, i) => .tuple [.str "InvalidHouse", .str z, .int (i : Nat)]
/-! ### _law_error -/
def KindAt (K : PySem.W.Frag) (mg : Str → Option Value) (CE : Addr) (x : Str) (b : Bool) : Prop := ∃ c, mg x = some (.ref c) ∧ PySem.W.kitOne K (.ref CE) (.ref c) = some b
structure ErrF (K : PySem.W.Frag) (mg : Str → Option Value) (CE CW : Addr) : Prop where
  exc : ExcC K CE
  xf : XfC K CE
  nP : PySem.W.findIn K (.ref CE) "part" = some none
  nI : PySem.W.findIn K (.ref CE) "index" = some none
  wat : mg "WatchError" = some (.ref CW)
  exm : PySem.W.exmOne K (.ref CE) (.ref CW) = some true
  ve : mg "ValueError" = none
  kve : PySem.W.kitOne K (.ref CE) (.type "ValueError") = some true
  kInsideItself : KindAt K mg CE "InsideItself" false
  kInvalidCourse : KindAt K mg CE "InvalidCourse" false
  kInvalidHands : KindAt K mg CE "InvalidHands" false
  kInvalidHouse : KindAt K mg CE "InvalidHouse" true
  kInvalidLog : KindAt K mg CE "InvalidLog" false
  kInvalidNumber : KindAt K mg CE "InvalidNumber" false
  kIsSealed : KindAt K mg CE "IsSealed" false
  kNoCourse : KindAt K mg CE "NoCourse" false
  kNotHeld : KindAt K mg CE "NotHeld" false
  kNotInside : KindAt K mg CE "NotInside" false
  kNotSealed : KindAt K mg CE "NotSealed" false
  kUnknownBox : KindAt K mg CE "UnknownBox" false
  kUnknownHand : KindAt K mg CE "UnknownHand" false
  kUnknownItem : KindAt K mg CE "UnknownItem" false
  kUnknownSeal : KindAt K mg CE "UnknownSeal" false
theorem tcat {σ : L2.St} {H : Hp} {Q : VK} {i : Nat} {l : Addr} {xs vs : List V} {args : TA} (h0 : σ[i]? = some (some (.ref l))) (h1 : H l = some (.lst xs)) (ha : ∀ R : List V → Hp → Prop, R vs H → args σ H R) (hl : xs.length + vs.length ≤ sizeLine)
    (k : ∀ (p : Addr) H', Same H H' → H' p = some (.lst (xs ++ vs)) → Q (.ref p) H') : tOp rCat (tVar i) (tLst args) σ H Q :=
  ⟨_, h0, ha _ ⟨by omega, fun p hp => ⟨l, p, xs, vs, rfl, rfl, (same_upd hp) _ _ h1, upd_same, hl, fun p2 hp2 => k _ _ (Same.upd2 (same_upd hp) hp2) upd_same⟩⟩⟩
theorem tisi {σ : L2.St} {H : Hp} {Q : VK} {CE a dd c : Addr} {b : Bool} {fs : List (Str × V)} (h0 : σ[1]? = some (some (.ref a))) (hd : H dd = some (.xd fs)) (ki : PySem.W.kitOne K (.ref CE) (.ref c) = some b) (q : Q (.bl b) H) :
    tCB (fun xs H Q => (∀ d, some dd = some d → ∃ fs, H d = some (.xd fs)) ∧ rIsE K CE a xs H Q) (tCons (tVar 1) (tCons (tC (.ref c)) tNil)) σ H Q :=
  ⟨_, h0, fun d e => by cases e; exact ⟨_, hd⟩, .ref c, .ref c, b, rfl, fun _ z => z, ki, q⟩
def errOut (CE : Addr) (Q : VK) : XK := fun cls d H' => cls = .ref CE ∧ ∃ (dd : Addr) (z : Str) (i : Nat), d = some dd ∧ H' dd = some (.xd (ihFs z i)) ∧ ∀ v H2, Same H' H2 → Dp K H2 v (dueD (some (z, i))) → Q v H2
def TErr (K : PySem.W.Frag) (CE : Addr) : (XK → Hp → VK → Prop) → Hp → VK → Prop := fun tl H Q => tl (errOut (K := K) CE Q) H (fun _ H' => Q (.str "") H')
def kindsV : List Bool := [false, false, false, true, false, false, false, false, false, false, false, false, false, false, false]
def namesV : List Str := ["InsideItself", "InvalidCourse", "InvalidHands", "InvalidHouse", "InvalidLog", "InvalidNumber", "IsSealed", "NoCourse", "NotHeld", "NotInside", "NotSealed", "UnknownBox", "UnknownHand", "UnknownItem", "UnknownSeal"]
theorem fs_part (z : Str) (i : Int) : (ihFs z i).lookup ("part" : Str) = some (.str z) := by
  unfold ihFs
  rw [List.lookup_cons, show (("part" : Str) == ("index" : Str)) = false from by decide +kernel]
  rfl
theorem fs_index (z : Str) (i : Int) : (ihFs z i).lookup ("index" : Str) = some (.int i) := by
  unfold ihFs
  rw [List.lookup_cons, show (("index" : Str) == ("index" : Str)) = true from by decide +kernel]
theorem iteFe {b : Bool} {A B : Prop} (hb : b = false) (h : B) : if b = true then A else B := by
  rw [hb]
  exact iteF h
theorem iteTe {b : Bool} {A B : Prop} (hb : b = true) (h : A) : if b = true then A else B := by
  rw [hb]
  exact iteT h
end
end Kw


set_option Elab.async false
set_option linter.all false
set_option maxRecDepth 100000
set_option maxHeartbeats 4000000
namespace Kw
open PySem PySem.Spec PyProof.Rows L2
section
variable {P : Program} {w : World} {K : PySem.W.Frag} {mg : Str → Option Value} {base : Heap}
/-! ### _law_error, any of the plain errors -/
/-- the error class at place j of the law's names -/
structure ErrJ (K : PySem.W.Frag) (mg : Str → Option Value) (CE CW : Addr) (j : Nat) : Prop where
  exc : ExcC K CE
  xf : XfC K CE
  nP : PySem.W.findIn K (.ref CE) "part" = some none
  nI : PySem.W.findIn K (.ref CE) "index" = some none
  wat : mg "WatchError" = some (.ref CW)
  exm : PySem.W.exmOne K (.ref CE) (.ref CW) = some true
  ve : mg "ValueError" = none
  kve : PySem.W.kitOne K (.ref CE) (.type "ValueError") = some true
  kInsideItself : KindAt K mg CE "InsideItself" (decide (0 = j))
  kInvalidCourse : KindAt K mg CE "InvalidCourse" (decide (1 = j))
  kInvalidHands : KindAt K mg CE "InvalidHands" (decide (2 = j))
  kInvalidHouse : KindAt K mg CE "InvalidHouse" (decide (3 = j))
  kInvalidLog : KindAt K mg CE "InvalidLog" (decide (4 = j))
  kInvalidNumber : KindAt K mg CE "InvalidNumber" (decide (5 = j))
  kIsSealed : KindAt K mg CE "IsSealed" (decide (6 = j))
  kNoCourse : KindAt K mg CE "NoCourse" (decide (7 = j))
  kNotHeld : KindAt K mg CE "NotHeld" (decide (8 = j))
  kNotInside : KindAt K mg CE "NotInside" (decide (9 = j))
  kNotSealed : KindAt K mg CE "NotSealed" (decide (10 = j))
  kUnknownBox : KindAt K mg CE "UnknownBox" (decide (11 = j))
  kUnknownHand : KindAt K mg CE "UnknownHand" (decide (12 = j))
  kUnknownItem : KindAt K mg CE "UnknownItem" (decide (13 = j))
  kUnknownSeal : KindAt K mg CE "UnknownSeal" (decide (14 = j))
def DdOk (dd : Option Addr) (H : Hp) : Prop := ∀ d, dd = some d → ∃ fs, H d = some (.xd fs)
theorem DdOk.same {dd : Option Addr} {H H' : Hp} (e : Same H H') (h : DdOk dd H) : DdOk dd H' := fun d hd => by
  obtain ⟨fs, hf⟩ := h d hd
  exact ⟨fs, e _ _ hf⟩
theorem tisiG {σ : L2.St} {H : Hp} {Q : VK} {CE a c : Addr} {dd : Option Addr} {b : Bool} (h0 : σ[1]? = some (some (.ref a))) (hd : DdOk dd H) (ki : PySem.W.kitOne K (.ref CE) (.ref c) = some b) (q : Q (.bl b) H) :
    tCB (fun xs H Q => (∀ d, dd = some d → ∃ fs, H d = some (.xd fs)) ∧ rIsE K CE a xs H Q) (tCons (tVar 1) (tCons (tC (.ref c)) tNil)) σ H Q :=
  ⟨_, h0, hd, .ref c, .ref c, b, rfl, fun _ z => z, ki, q⟩
def kindsJ (j : Nat) : List Bool := (List.range 15).map fun i => decide (i = j)
def nameJ (j : Nat) : Str := namesV.getD j ""
theorem cnt_kinds {j : Nat} (hj : j < 15) : (kindsJ j).count true = 1 := by
  have h : ∀ i : Fin 15, (kindsJ i).count true = 1 := by decide +kernel
  exact h ⟨j, hj⟩
theorem flat_kinds (j : Nat) : ((kindsJ j).map V.bl).all flatV = true := by
  rw [List.all_eq_true]
  intro x hx
  obtain ⟨b, _, rfl⟩ := List.mem_map.mp hx
  rfl
theorem at_kinds {j : Nat} (hj : j < 15) : ((kindsJ j).map V.bl)[j]? = some (.bl true) := by
  have h : ∀ i : Fin 15, (kindsJ i)[i.val]? = some true := by decide +kernel
  rw [List.getElem?_map, h ⟨j, hj⟩]
  rfl
theorem no_kinds {j m : Nat} {z : V} (hj : j < 15) (hm : m < j) (e : ((kindsJ j).map V.bl)[m]? = some z) : eqV z (.bl true) = false := by
  have h : ∀ i k : Fin 15, k.val < i.val → (kindsJ i)[k.val]? = some false := by decide +kernel
  rw [List.getElem?_map, h ⟨j, hj⟩ ⟨m, by omega⟩ hm] at e
  cases e
  rfl
theorem at_names {j : Nat} (hj : j < 15) : atI (namesV.map V.str) (j : Nat) = some (.str (nameJ j)) := by
  have h : ∀ i : Fin 15, namesV[i.val]? = some (nameJ i) := by decide +kernel
  refine atI_nat ?_
  rw [List.getElem?_map, h ⟨j, hj⟩]
  rfl
theorem nm_not {j : Nat} (hj : j < 15) (hn : j ≠ 2 ∧ j ≠ 3 ∧ j ≠ 4) : decide (nameJ j = ("InvalidHouse" : Str)) = false := by
  have h : ∀ i : Fin 15, i.val ≠ 3 → decide (nameJ i = ("InvalidHouse" : Str)) = false := by decide +kernel
  exact h ⟨j, hj⟩ hn.2.1
theorem nm_in {j : Nat} (hj : j < 15) (hn : j ≠ 2 ∧ j ≠ 3 ∧ j ≠ 4) : inV (.str (nameJ j)) [V.str ("InvalidHands" : Str), .str ("InvalidLog" : Str)] = false := by
  have h : ∀ i : Fin 15, i.val ≠ 2 → i.val ≠ 4 → inV (.str (nameJ i)) [V.str ("InvalidHands" : Str), .str ("InvalidLog" : Str)] = false := by decide +kernel
  exact h ⟨j, hj⟩ hn.1 hn.2.2
end
end Kw


set_option Elab.async false
set_option linter.all false
set_option maxRecDepth 100000
set_option maxHeartbeats 4000000
namespace Kw
open PySem PySem.Spec PyProof.Rows L2
section
variable {X : Cx}
/-! ### match of a tuple against [word, names..] -/
/-- the names behind the word, with their slots; none: the pattern _ -/
inductive Caps (X : Cx) : List Pattern → List (Option Nat) → Prop
  | nil : Caps X [] []
  | wild {pos : Pos} {ps : List Pattern} {is : List (Option Nat)} : Caps X ps is → Caps X (.MatchAs none none pos :: ps) (none :: is)
  | name {x : Str} {i : Nat} {pos : Pos} {ps : List Pattern} {is : List (Option Nat)} : X.N[i]? = some x → X.env.scope.names.lookup x = some .local → Caps X ps is → Caps X (.MatchAs none (some x) pos :: ps) (some i :: is)
def setAll : List (Option Nat) → List V → L2.St → L2.St
  | some i :: is, v :: vs, σ => setAll is vs (σ.set i (some v))
  | none :: is, _ :: vs, σ => setAll is vs σ
  | _, _, σ => σ
structure MCase where
  word : Str
  slots : List (Option Nat)
  body : TS
def mGo (w0 : Str) (rest : List V) (D : Ends) (σ : L2.St) (H : Hp) : List MCase → Prop
  | [] => D.nx σ H
  | c :: cs => if c.slots.length = rest.length ∧ c.word = w0 then c.body D (setAll c.slots rest σ) H else mGo w0 rest D σ H cs
/-- match t: case [word, ..]: .. -/
def tMatch (K : PySem.W.Frag) (te : TE) (cs : List MCase) : TS := fun D σ H => te σ H fun x H1 => ∃ (a : Addr) (w0 : Str) (rest : List V), x = .ref a ∧ SqT K H1 a (.str w0 :: rest) ∧ mGo w0 rest D σ H1 cs
/-- the cases as the text has them -/
inductive Cases (X : Cx) : List MatchCase → List MCase → Prop
  | nil : Cases X [] []
  | cons {s : Str} {j : Nat} {p1 p2 pos : Pos} {ps : List Pattern} {is : List (Option Nat)} {body : List Stmt} {tb : TS} {cs : List MatchCase} {rs : List MCase} (h : Caps X ps is) (hb : PSs X body tb) (hr : Cases X cs rs) :
      Cases X (⟨.MatchSequence (.MatchValue (.Constant (.str s) j p1) p2 :: ps) pos, none, body⟩ :: cs) (⟨s, is, tb⟩ :: rs)
theorem Caps.len {ps : List Pattern} {is : List (Option Nat)} (h : Caps X ps is) : ps.length = is.length := by
  induction h with
  | nil => rfl
  | wild _ ih => simp [ih]
  | name _ _ _ ih => simp [ih]
theorem Caps.nostar {ps : List Pattern} {is : List (Option Nat)} (h : Caps X ps is) : ∀ p ∈ ps, p.isStar = false := by
  induction h with
  | nil => intro p hp; cases hp
  | wild _ ih =>
    intro p hp
    rcases List.mem_cons.mp hp with rfl | hp
    · rfl
    · exact ih p hp
  | name _ _ _ ih =>
    intro p hp
    rcases List.mem_cons.mp hp with rfl | hp
    · rfl
    · exact ih p hp
/-- the captured names and their values -/
def bindsOf : List Pattern → List Value → List (Str × Value)
  | .MatchAs _ (some x) _ :: ps, u :: us => (x, u) :: bindsOf ps us
  | _ :: ps, _ :: us => bindsOf ps us
  | _, _ => []
theorem run_caps {ps : List Pattern} {is : List (Option Nat)} (h : Caps X ps is) : ∀ {us : List Value} {s : Shared} {E : Value → Shared → Prop} {Q : Option (List (Str × Value)) → Shared → Prop}, us.length = ps.length → Q (some (bindsOf ps us)) s →
    wpAny (model X.prog X.w) X.A (matchEach ps X.env us) Q E s := by
  induction h with
  | nil =>
    intro us s E Q hl hq
    cases us with
    | nil => exact wpAny_matchEach_nil hq
    | cons u us => simp at hl
  | wild _ ih =>
    intro us s E Q hl hq
    cases us with
    | nil => simp at hl
    | cons u us =>
      refine wpAny_matchEach_cons (wpAny_matchPattern_Capture ?_)
      exact ih (by simpa using hl) hq
  | name _ _ _ ih =>
    intro us s E Q hl hq
    cases us with
    | nil => simp at hl
    | cons u us =>
      refine wpAny_matchEach_cons (wpAny_matchPattern_Capture ?_)
      exact ih (by simpa using hl) hq
theorem run_binds {ps : List Pattern} {is : List (Option Nat)} (h : Caps X ps is) (hN : X.N.Nodup) : ∀ {us : List Value} {vs : List V} {pins : List (Addr × Obj)} {σ : L2.St} {H : Hp} {s : Shared} {E : Value → Shared → Prop} {Q : Unit → Shared → Prop}, us.length = ps.length → Vals vs us →
    Inv X pins σ H s → (∀ s', Inv X pins (setAll is vs σ) H s' → Q () s') → wpAny (model X.prog X.w) X.A (assignInOrder ((bindsOf ps us).map fun (n, _) => bindName X.env n) ((bindsOf ps us).map (·.2))) Q E s := by
  induction h with
  | nil =>
    intro us vs pins σ H s E Q hl r I k
    cases us with
    | nil => exact wpAny_assignInOrder_none (k s I)
    | cons u us => simp at hl
  | wild _ ih =>
    intro us vs pins σ H s E Q hl r I k
    cases us with
    | nil => simp at hl
    | cons u us =>
      cases r with
      | cons r1 rr => exact ih (by simpa using hl) rr I k
  | name hi hx _ ih =>
    intro us vs pins σ H s E Q hl r I k
    cases us with
    | nil => simp at hl
    | cons u us =>
      cases r with
      | cons r1 rr =>
        refine wpAny_assignInOrder_more (wpAny_bindName (store_ok I hN hi (.inl hx) r1 (fun s' I' => ?_) (.inr hx)))
        exact ih (by simpa using hl) rr I' k
theorem run_cases (hc : X.calm = true) (hN : X.N.Nodup) {a : Addr} {w0 : Str} {rest : List V} {mcs : List MatchCase} {rs : List MCase} (h : Cases X mcs rs) : ∀ {pins : List (Addr × Obj)} {σ : L2.St} {H : Hp} {s : Shared} {D : Ends} {first : Bool}, Inv X pins σ H s → SqT X.K H a (.str w0 :: rest) → mGo w0 rest D σ H rs →
    wpAny (model X.prog X.w) X.A (matchCases mcs X.env (.ref a) first) (fun f s' => SP X pins D f s') X.xe s := by
  induction h with
  | nil =>
    intro pins σ H s D first I hs hq
    exact wpAny_matchCases_nil ⟨σ, H, I, hq⟩
  | @cons w j p1 p2 pos ps is body tb cs rs h hb hr ih =>
    intro pins σ H s D first I hs hq
    obtain ⟨its, rv, ht, hz⟩ := I.tuple hs
    have hlen : its.length = rest.length + 1 := by rw [← rv.length]; rfl
    have pl : (Pattern.MatchValue (.Constant (.str w) j p1) p2 :: ps).length = is.length + 1 := by rw [List.length_cons, h.len]
    have star : (Pattern.MatchValue (.Constant (.str w) j p1) p2 :: ps).findIdx? (·.isStar) = none := List.findIdx?_eq_none_iff.mpr fun p hp => by
      rcases List.mem_cons.mp hp with rfl | hp
      · rfl
      · exact h.nostar p hp
    have wild : ((Pattern.MatchValue (.Constant (.str w) j p1) p2 :: ps).all fun p => p.isWildcard || (p.isStar && p.names.isEmpty)) = false := rfl
    have hz' : rest.length + 1 ≤ sizeLine := hz
    have fit : ((its.toArray.size : Nat) : Int) < 2 ^ 63 := by
      rw [List.size_toArray]
      rw [sizeLine_eq] at hz'
      omega
    refine wpAny_matchCases_cons ?_
    by_cases cl : is.length = rest.length
    · refine matchSeq_tuple_hit ht fit (by rw [pl, List.size_toArray, hlen, cl]) ?_ star wild
      rw [show (Pattern.MatchValue (.Constant (.str w) j p1) p2 :: ps).length = its.toArray.size by rw [pl, List.size_toArray, hlen, cl]]
      refine unpackItems_tuple (I.ok.hd hc) ht fun h' hx => ?_
      have I1 : Inv X pins σ H { s with heap := h', toks := s.toks + 1 + 1 } := I.kept (t' := s.toks + 1 + 1) fun b o e => hx b o (Nat.ne_of_lt (Heap.lt_size e)) e
      have el : its.toArray.toList = its := by simp
      rw [el]
      cases rv with
      | @cons _ u0 _ us r0 rr =>
        have lu : us.length = ps.length := by
          have : us.length + 1 = rest.length + 1 := hlen
          rw [h.len]
          omega
        refine wpAny_matchEach_cons (wpAny_matchPattern_Value ?_)
        refine thn ((pe_str (X := X) (x := w) (j := j) (pos := p1)).run pins _ σ H (fun v H1 => v = .str w ∧ H1 = H) I1 ⟨rfl, rfl⟩) fun u s1 hu => ?_
        obtain ⟨v, H1, I2, r2, ev, eH⟩ := hu
        subst ev eH
        refine thn (op_eq pins s1 σ H1 (V.str w0) (V.str w) u0 u (fun z H2 => z = .bl (decide ((V.str w0) = V.str w)) ∧ H2 = H1) I2 r0 r2 ⟨rfl, rfl, rfl⟩) fun z s2 hz2 => ?_
        obtain ⟨zv, H2, I3, rz, ez, eH2⟩ := hz2
        subst ez eH2
        obtain rfl : z = Value.bool (decide ((V.str w0) = V.str w)) := rz
        refine wpAny_truthy_bool ?_
        by_cases cw : w = w0
        · subst cw
          rw [decide_eq_true rfl]
          show wpAny _ _ _ _ _ _
          refine run_caps h lu ?_
          show wpAny _ _ _ _ _ _
          refine run_binds h hN lu rr I3 fun s3 I4 => ?_
          have hq' : tb D (setAll is rest σ) H2 := by
            have q := hq
            unfold mGo at q
            rwa [if_pos ⟨cl, rfl⟩] at q
          exact hb.run pins s3 _ H2 D I4 hq'
        · have ne : decide ((V.str w0) = V.str w) = false := decide_eq_false fun z => cw (V.str.inj z).symm
          rw [ne]
          show wpAny _ _ _ _ _ _
          have hq' : mGo w0 rest D σ H2 rs := by
            have q := hq
            unfold mGo at q
            rwa [if_neg (fun z => cw z.2)] at q
          exact ih I3 hs hq'
    · refine matchSeq_tuple_miss ht fit (by rw [pl, List.size_toArray, hlen]; omega) ?_ star wild
      have hq' : mGo w0 rest D σ H rs := by
        have q := hq
        unfold mGo at q
        rwa [if_neg (fun z => cl z.1)] at q
      exact ih (I.kept (t' := _) fun _ _ e => e) hs hq'
theorem ps_match {e : Expr} {te : TE} {mcs : List MatchCase} {rs : List MCase} {pos : Pos} (hc : X.calm = true) (hN : X.N.Nodup) (he : PE X e te) (h : Cases X mcs rs) : PS X (.Match e mcs pos) (tMatch X.K te rs) := by
  refine ⟨fun pins s σ H D I q => wpAny_Match (thn (he.run pins s σ H _ I q) fun v s1 hv => ?_)⟩
  obtain ⟨x, H1, I1, r1, a, w0, rest, ex, hs, hg⟩ := hv
  subst ex
  cases r1
  exact run_cases hc hN h I1 hs hg
end
end Kw


set_option Elab.async false
set_option linter.all false
set_option maxRecDepth 100000
set_option maxHeartbeats 4000000
namespace Kw
open PySem PySem.Spec PyProof.Rows L2
section
variable {X : Cx}
/-- {item}, an item: a word and a number; some text that is not long -/
def tFmtI (K : PySem.W.Frag) (te : TE) : TE := fun σ H Q => te σ H fun x H1 => ∃ (a : Addr) (w : Str) (i : Int), x = .ref a ∧ SqT K H1 a [.str w, .int i] ∧ w.length ≤ 20 ∧ (∀ c ∈ w.cps.toList, c < 16 ^ 8) ∧ 0 ≤ i ∧ i ≤ 1000 ∧ ∀ m : Str, m.length ≤ 300 → Q (.str m) H1
theorem log2_le {i : Int} (h0 : 0 ≤ i) (h1 : i ≤ 1000) : i.natAbs.log2 < 1920 := by
  have h2 : i.natAbs ≤ 1000 := by omega
  by_cases h3 : i.natAbs = 0
  · rw [h3]; decide
  · have := (Nat.log2_lt h3 (k := 10)).mpr (by omega)
    omega
theorem pe_fmtI {e : Expr} {te : TE} {pos : Pos} {k : Nat} (hr : Room k X.A) (he : PE X e te) : PE X (.FormattedValue e (-1) none pos) (tFmtI X.K te) := by
  refine ⟨fun pins s σ H Q I h => ?_⟩
  refine wpAny_FormattedValue_plain (thn (he.run pins s σ H _ I h) fun v s1 hv => ?_)
  obtain ⟨x, H1, I1, r1, a, w, i, rfl, ht, hw, hc, i0, i1, q⟩ := hv
  cases r1
  obtain ⟨its, rv, ⟨o, ho, hcl, n, hd⟩, _⟩ := I1.tuple ht
  have h1 := StrLaws.reprText_len w hc
  have h2 : (toString i : Str).length ≤ 4 := toString_length_le i0 (k := 4) (by decide) (by omega)
  have hp : piled [reprText w, (toString i : Str)] ≤ 230 := by
    rw [piled_cons, piled_cons, piled_nil]
    omega
  have htx := fmt_text [reprText w, (toString i : Str)]
  have hz : sizeLine ≥ 100000 := by rw [sizeLine_eq]; omega
  have hT : ReprAll X.prog X.w its.toArray.toList [reprText w, (toString i : Str)] := by
    rw [show its.toArray.toList = its by simp]
    cases rv with
    | cons ra rr =>
      cases rr with
      | cons rb rr =>
        cases rr
        obtain ⟨t1, rfl⟩ := ra
        obtain ⟨t2, rfl⟩ := rb
        exact .cons (ReprIs.str w t1 (by omega)) (.cons (ReprIs.int t2 (log2_le i0 i1)) .nil)
  have hu := hr.units
  exact fmt_tuple (by omega) ho hcl hd hT (by omega) fun m u tk hm => ⟨.str m, H1, I1.tok _, ⟨u, rfl⟩, q m (by omega)⟩
end
end Kw


set_option Elab.async false
set_option linter.all false
set_option maxRecDepth 100000
set_option maxHeartbeats 4000000
namespace Kw
open PySem PySem.Spec PyProof.Rows L2
/-! ### sorted over tuples of words, numbers and tuples of these -/
/-- x < y is told: numbers, words, tuples place by place -/
def cmpE : PyData → PyData → Bool
  | .int _, .int _ => true
  | .str _, .str _ => true
  | .tuple [.str _, .int _], .tuple [.str _, .int _] => true
  | _, _ => false
/-- .. of two tuples, at the first place where they differ -/
def topCmp : List PyData → List PyData → Bool
  | x :: xs, y :: ys => if PyData.eqv x y = true then topCmp xs ys else cmpE x y
  | _, _ => true
section
variable {prog : Program} {w : World}
theorem rc_str {A : Around} {s : Shared} (a b : Str) (t u : Tok) : Ob.RcOp .Lt A s (.str a t) (.str b u) (decide (a.cps.toList < b.cps.toList)) := fun _ _ _ _ h => PyProof.Rows.lt_str h
theorem reads_len {h : Heap} : ∀ {vs : List Value} {ds : List PyData} {as : List Addr}, ReadsAll h vs ds as → vs.length = ds.length
  | _, _, _, .nil => rfl
  | _, _, _, .cons _ r => by simp [reads_len r]
/-- x < y -/
theorem lt_reads {A : Around} {s : Shared} {v u : Value} {d e : PyData} {as bs : List Addr} (r1 : Reads s.heap v d as) (r2 : Reads s.heap u e bs) (hu : A.units + 3 < cLine) (h : cmpE d e = true) : ∃ b, Ob.RcOp .Lt A s v u b := by
  unfold cmpE at h
  split at h
  · cases r1
    cases r2
    exact ⟨_, Ob.RcOp.lt_int _ _ _ _⟩
  · cases r1
    cases r2
    exact ⟨_, rc_str _ _ _ _⟩
  · rename_i w1 i1 w2 i2
    cases r1 with
    | @tuple a o vs n _ as1 g1 g2 g3 g4 =>
      cases r2 with
      | @tuple a' o' vs' n' _ as2 k1 k2 k3 k4 =>
        have hv : ∃ t1 t2, vs.toList = [.str w1 t1, .int i1 t2] := by
          generalize vs.toList = l at g4
          cases g4 with
          | cons p1 q1 =>
            cases q1 with
            | cons p2 q2 =>
              cases q2
              cases p1
              cases p2
              exact ⟨_, _, rfl⟩
        have hv' : ∃ t1 t2, vs'.toList = [.str w2 t1, .int i2 t2] := by
          generalize vs'.toList = l at k4
          cases k4 with
          | cons p1 q1 =>
            cases q1 with
            | cons p2 q2 =>
              cases q2
              cases p1
              cases p2
              exact ⟨_, _, rfl⟩
        obtain ⟨t1, t2, e1⟩ := hv
        obtain ⟨t3, t4, e2⟩ := hv'
        obtain rfl : vs = #[.str w1 t1, .int i1 t2] := by rw [← Array.toArray_toList (xs := vs), e1]
        obtain rfl : vs' = #[.str w2 t3, .int i2 t4] := by rw [← Array.toArray_toList (xs := vs'), e2]
        refine ⟨_, Ob.RcOp.tuples_lt (e := fun j => if j = 0 then w1 == w2 else i1 == i2) (r := fun j => if j = 0 then decide (w1.cps.toList < w2.cps.toList) else decide (i1 < i2)) ⟨_, g1, g2, _, g3⟩ ⟨_, k1, k2, _, k3⟩ (by omega) (fun j h1 h2 => ?_) (fun j h1 h2 _ => ?_)⟩
        · match j, h1, h2 with
          | 0, _, _ => exact SeqAt.EqAt.str_str _ _ _ _
          | 1, _, _ => exact SeqAt.EqAt.int_int _ _ _ _
          | j + 2, h1, _ => simp at h1; omega
        · match j, h1, h2 with
          | 0, _, _ => exact rc_str _ _ _ _
          | 1, _, _ => exact Ob.RcOp.lt_int _ _ _ _
          | j + 2, h1, _ => simp at h1; omega
  · cases h
/-- what is sorted: the first place is a word, all may be laid, shallow -/
structure SortD (d : PyData) : Prop where
  ex : ∃ w rest, d = .tuple (.str w :: rest)
  lay : d.canLay0 = true
  dep : d.depth ≤ 10
theorem lex_reads {A : Around} {s : Shared} {b : Bool} (fin : Bool) (hu : A.units + 20 < cLine) : ∀ (xs ys : List PyData) (vs us : List Value) (as bs : List Addr) (i : Nat), ReadsAll s.heap vs xs as → ReadsAll s.heap us ys bs → PyData.canLayAll0 xs = true → PyData.canLayAll0 ys = true → PyData.depthAll xs ≤ 10 →
    topCmp xs ys = true → (i = 0 → ∀ x y xr yr, xs = x :: xr → ys = y :: yr → (∃ w, x = .str w) ∧ ∃ w, y = .str w) → ∃ r, PySem.W.KatLex prog w A b fin (fun r' s' => s' = s ∧ r' = r) (vs.zip us) i s
  | [], ys, vs, us, as, bs, i, h1, h2, _, _, _, _, _ => by
    cases h1
    exact ⟨fin, PySem.W.kat_nil ⟨rfl, rfl⟩⟩
  | x :: xs, [], vs, us, as, bs, i, h1, h2, _, _, _, _, _ => by
    cases h2
    rw [List.zip_nil_right]
    exact ⟨fin, PySem.W.kat_nil ⟨rfl, rfl⟩⟩
  | x :: xs, y :: ys, vs, us, as, bs, i, h1, h2, c1, c2, d1, ht, h0 => by
    cases h1 with
    | @cons v vr _ _ as1 as2 p1 q1 =>
      cases h2 with
      | @cons u ur _ _ bs1 bs2 p2 q2 =>
        simp only [PyData.canLayAll0, Bool.and_eq_true] at c1 c2
        simp only [PyData.depthAll] at d1
        have eq := SeqAt.eqAt_reads x y A s v u as1 bs1 p1 p2 c1.1 c2.1 (by have : min x.depth y.depth ≤ x.depth := Nat.min_le_left _ _; omega)
        unfold topCmp at ht
        cases ce : PyData.eqv x y with
        | true =>
          rw [ce, if_pos rfl] at ht
          obtain ⟨r, hr⟩ := lex_reads (b := b) fin hu xs ys vr ur as2 bs2 (i + 1) q1 q2 c1.2 c2.2 (by omega) ht (fun z => by omega)
          rw [ce] at eq
          exact ⟨r, PySem.W.kat_cons (eq prog w _ _ (PySem.W.kat_yes hr))⟩
        | false =>
          rw [ce, if_neg (by decide)] at ht
          rw [ce] at eq
          cases cb : (b && i == 0) with
          | true =>
            have hi : i = 0 := by
              have := (Bool.and_eq_true_iff.mp cb).2
              simpa using this
            obtain ⟨⟨w1, e1⟩, ⟨w2, e2⟩⟩ := h0 hi x y xs ys rfl rfl
            subst e1 e2
            cases p1
            cases p2
            refine ⟨decide (w1.cps.toList < w2.cps.toList), PySem.W.kat_cons (eq prog w _ _ (PySem.W.kat_no ?_))⟩
            rw [cb]
            exact oneLt_str ⟨rfl, rfl⟩
          | false =>
            obtain ⟨k, hk⟩ := lt_reads (A := A) p1 p2 (by omega) ht
            refine ⟨k, PySem.W.kat_cons (eq prog w _ _ (PySem.W.kat_no ?_))⟩
            rw [cb]
            exact PySem.W.kat_one _ _ (hk prog w _ _ ⟨rfl, rfl⟩)
mutual
theorem reads_keep {h h' : Heap} (k : ∀ b o, h.get? b = some o → o.cls = .type "tuple" → h'.get? b = some o) : ∀ (d : PyData) {v : Value} {as : List Addr}, noL d = true → Reads h v d as → Reads h' v d as
  | .none, _, _, _, r => by cases r; exact .none
  | .bool b, _, _, _, r => by cases r; exact .bool b
  | .int i, _, _, _, r => by cases r; exact .int i _
  | .str x, _, _, _, r => by cases r; exact .str x _
  | .list _, _, _, n, _ => by simp [noL] at n
  | .dict _, _, _, n, _ => by simp [noL] at n
  | .tuple ds, _, _, n, r => by
    cases r with
    | tuple g1 g2 g3 g4 => exact .tuple (k _ _ g1 g2) g2 g3 (reads_keeps k ds (by simpa [noL] using n) g4)
theorem reads_keeps {h h' : Heap} (k : ∀ b o, h.get? b = some o → o.cls = .type "tuple" → h'.get? b = some o) : ∀ (ds : List PyData) {vs : List Value} {as : List Addr}, noLs ds = true → ReadsAll h vs ds as → ReadsAll h' vs ds as
  | [], _, _, _, r => by cases r; exact .nil
  | d :: ds, _, _, n, r => by
    cases r with
    | cons r1 rr =>
      have n' : noL d = true ∧ noLs ds = true := by simpa [noLs] using n
      exact .cons (reads_keep k d n'.1 r1) (reads_keeps k ds n'.2 rr)
end
/-- what is sorted -/
structure Sd (d : PyData) : Prop where
  ex : ∃ w rest, d = .tuple (.str w :: rest)
  lay : d.canLay0 = true
  dep : d.depth ≤ 10
  nol : noL d = true
def itemsD' : PyData → List PyData
  | .tuple ds => ds
  | _ => []
/-- every two of them compare -/
def Cmps (ds : List PyData) : Prop := ∀ d ∈ ds, ∀ e ∈ ds, topCmp (itemsD' d) (itemsD' e) = true
theorem tot_reads {A : Around} {s : Shared} {b : Bool} {vs : List Value} (hu : A.units + 20 < cLine) (P : PyData → Prop) (hP : ∀ d, P d → Sd d) (hc : ∀ d e, P d → P e → topCmp (itemsD' d) (itemsD' e) = true)
    (hv : ∀ v ∈ vs, ∃ d as, P d ∧ Reads s.heap v d as) : Srt.Tot prog w A s (tuples' b) (fun p => p.1 ∈ vs) := by
  intro p q hm hm'
  obtain ⟨d, as, pd, r1⟩ := hv _ hm
  obtain ⟨e, bs, pe, r2⟩ := hv _ hm'
  have s1 := hP d pd
  have s2 := hP e pe
  have c := hc d e pd pe
  obtain ⟨w1, t1, e1⟩ := s1.ex
  obtain ⟨w2, t2, e2⟩ := s2.ex
  have l1 := s1.lay
  have l2 := s2.lay
  have dp := s1.dep
  subst e1 e2
  generalize p.1 = v at *
  generalize q.1 = u at *
  cases r1 with
  | tuple g1 g2 g3 g4 =>
    cases r2 with
    | tuple k1 k2 k3 k4 =>
      simp only [PyData.canLay0] at l1 l2
      simp only [PyData.depth] at dp
      obtain ⟨r, hr⟩ := lex_reads (prog := prog) (w := w) (b := b) _ hu _ _ _ _ _ _ 0 g4 k4 l1 l2 (by omega) c (fun _ x y xr yr ex ey => by
        cases ex
        cases ey
        exact ⟨⟨_, rfl⟩, ⟨_, rfl⟩⟩)
      exact ⟨r, PySem.W.kat_lt g1 g3 k1 k3 hr⟩
theorem firsts_reads {h : Heap} {P : PyData → Prop} (hP : ∀ d, P d → Sd d) : ∀ {vs : List Value}, (∀ v ∈ vs, ∃ d as, P d ∧ Reads h v d as) → ∃ fs : List Value, PySem.W.KatTups h vs fs ∧ fs.length = vs.length ∧ ∀ f ∈ fs, ∃ x t, f = Value.str x t
  | [], _ => ⟨[], PySem.W.KatTups.nil, rfl, fun _ hm => by simp at hm⟩
  | v :: vs, hp => by
    obtain ⟨fs, h1, h2, h3⟩ := firsts_reads hP (vs := vs) fun v' hm => hp v' (List.mem_cons_of_mem _ hm)
    obtain ⟨d, as, pd, r⟩ := hp v List.mem_cons_self
    obtain ⟨w1, t1, e1⟩ := (hP d pd).ex
    subst e1
    cases r with
    | @tuple a o xs n _ _ g1 g2 g3 g4 =>
      obtain ⟨t, rest, e⟩ : ∃ t rest, xs.toList = Value.str w1 t :: rest := by
        generalize xs.toList = l at g4
        cases g4 with
        | cons p1 q1 =>
          cases p1
          exact ⟨_, _, rfl⟩
      have hf : xs[0]? = some (Value.str w1 t) := by rw [← Array.getElem?_toList, e]; rfl
      refine ⟨.str w1 t :: fs, PySem.W.KatTups.cons g1 g2 g3 hf h1, by rw [List.length_cons, List.length_cons, h2], fun f hm => ?_⟩
      rcases List.mem_cons.mp hm with rfl | hm
      · exact ⟨w1, t, rfl⟩
      · exact h3 f hm
theorem sortable_reads {A : Around} {s : Shared} {a : Addr} {vs : List Value} (hu : A.units + 20 < cLine) (h0 : 0 < vs.length) (P : PyData → Prop) (hP : ∀ d, P d → Sd d) (hc : ∀ d e, P d → P e → topCmp (itemsD' d) (itemsD' e) = true)
    (hv : ∀ v ∈ vs, ∃ d as, P d ∧ Reads s.heap v d as) (ha : ∀ o, s.heap.get? a = some o → o.cls ≠ .type "tuple") : Srt.Sortable prog w A s a vs := by
  intro h' keep
  have hv' : ∀ v ∈ vs, ∃ d as, P d ∧ Reads h' v d as := fun v hm => by
    obtain ⟨d, as, pd, r⟩ := hv v hm
    exact ⟨d, as, pd, reads_keep (fun b o e c => keep b o (fun z => by subst z; exact ha o e c) e) d (hP d pd).nol r⟩
  obtain ⟨fs, h1, h2, h3⟩ := firsts_reads hP hv'
  refine ⟨tuples' true, fun Q E hq => ?_, tot_reads (s := { s with heap := h' }) hu P hP hc hv'⟩
  refine PySem.W.kat_kind (T := .type "str") h1 (by omega) (fun f hm => ?_) (by rfl) ?_
  · obtain ⟨x, t, rfl⟩ := h3 f hm
    exact PySem.W.Looks.now
  · have e : (Value.type "str" != Value.type "tuple") = true := by first | decide +kernel | rfl | decide
    rw [e]
    exact hq
end
theorem vals_perm {out its : List Value} (h : out.Perm its) : ∀ {xs : List V}, Vals xs its → ∃ ys, Vals ys out ∧ ys.Perm xs := by
  induction h with
  | nil =>
    intro xs r
    cases r
    exact ⟨[], .nil, List.Perm.refl _⟩
  | cons u _ ih =>
    intro xs r
    cases r with
    | cons r1 rr =>
      obtain ⟨ys, r2, p⟩ := ih rr
      exact ⟨_ :: ys, .cons r1 r2, p.cons _⟩
  | swap u v l =>
    intro xs r
    cases r with
    | cons r1 rr =>
      cases rr with
      | cons r2 rr => exact ⟨_, .cons r2 (.cons r1 rr), List.Perm.swap _ _ _⟩
  | trans _ _ ih1 ih2 =>
    intro xs r
    obtain ⟨ys, r2, p2⟩ := ih2 r
    obtain ⟨zs, r3, p3⟩ := ih1 r2
    exact ⟨zs, r3, p3.trans p2⟩
theorem reads_mem {h : Heap} : ∀ {vs : List Value} {ds : List PyData} {as : List Addr}, ReadsAll h vs ds as → ∀ v ∈ vs, ∃ d as, d ∈ ds ∧ Reads h v d as
  | _, _, _, .nil, v, hv => by cases hv
  | _, _, _, .cons r1 rr, v, hv => by
    rcases List.mem_cons.mp hv with rfl | hv
    · exact ⟨_, _, List.mem_cons_self, r1⟩
    · obtain ⟨d, as, h1, h2⟩ := reads_mem rr v hv
      exact ⟨d, as, List.mem_cons_of_mem _ h1, h2⟩
/-- sorted(l), l a list of tuples of words, numbers and small tuples: the same in some order -/
def rSortD (K : PySem.W.Frag) : List V → Hp → VK → Prop := fun vs H Q => ∃ (a : Addr) (xs : List V) (ds : List PyData), vs = [.ref a] ∧ SqL K H a xs ∧ DpAll K H xs ds ∧ (∀ d ∈ ds, Sd d) ∧ Cmps ds ∧
  ∀ (ys : List V) (p : Addr), ys.Perm xs → H p = none → Q (.ref p) (L2.upd H p (.lst ys))
theorem cr_sortD {X : Cx} (hu : X.A.units + 60 < cLine) : CallR X (.builtin "sorted") (rSortD X.K) := by
  intro pins s σ H vs us Q I r h
  obtain ⟨a, xs, ds, rfl, hs, hd, hS, hC, q⟩ := h
  obtain ⟨its, rv, hl, hz⟩ := I.list hs
  rw [Vals.ref1 r]
  have lx : its.length = xs.length := rv.length.symm
  obtain ⟨as, ra⟩ := Dp.readsAll I ds xs its hd rv
  refine Srt.sorted_any hl.isList (by rw [lx]; exact hz) (fun h2 h1 a' ha' k => ?_) fun out ho => ?_
  · refine sortable_reads (s := { s with heap := h1 }) (by show X.A.units + 1 + 1 + 20 < cLine; omega) (by omega) (fun d => d ∈ ds) hS (fun d e hd he => hC d hd e he) (fun v hv => ?_) fun o e => ?_
    · obtain ⟨d, as, hd1, r1⟩ := reads_mem ra v hv
      exact ⟨d, as, hd1, reads_keep (fun b o e _ => (k b o e).2) d (hS d hd1).nol r1⟩
    · have e' : some o = some (seqObj "list" its.toArray 0) := e.symm.trans ha'
      cases e'
      intro c
      exact absurd (Value.type.inj c) (by decide)
  · obtain ⟨ys, ry, py⟩ := vals_perm ho rv
    obtain ⟨ep, he'⟩ := PyProof.Rows.sortedAll_at s.heap its out.toArray
    have hlen : ys.length ≤ sizeLine := by rw [py.length_eq]; exact hz
    exact ⟨.ref _, L2.upd H (s.heap.objs.size + 1) (.lst ys), I.laid (t' := s.toks) (fun _ _ => PyProof.Rows.sortedAll_old) (Nat.le_succ _) ⟨hlen, out, ep, ry, he'⟩, rfl, q ys _ py (I.hok.fresh (Nat.le_succ _))⟩
end Kw


set_option Elab.async false
set_option linter.all false
set_option maxRecDepth 100000
set_option maxHeartbeats 4000000
/-! o(..), o an instance of a class with an own __call__. -/
namespace Kw
open PySem PySem.Spec PySem.Calls PyProof.Rows L2
section
variable {M : Model} {A : Around} {E : Value → Shared → Prop} {s : Shared} {pos : Pos} {x : Addr} {fs : List Value} {Q : Value → Shared → Prop}
/-- what a plain object's call goes by -/
theorem keeper_plain {h : Heap} {o : Obj} (hx : h.get? x = some o) (hd : o.data = .plain) : PySem.W.Looks M h (keeperOf (.ref x)) .caller :=
  (PySem.W.Looks.ld (part := none) hx).andThen (by simp only [hd]; exact .now)
theorem callWith_obj {as : List (Bool × Sem Value)} {ks : List (Option Str × Sem Value)} (hp : (as.any (·.1) || ks.any (·.1.isNone)) = false)
    (h : wpAny M A (evalArgs (.ref x) true as ks) (fun a s1 => (∃ o, s1.heap.get? x = some o ∧ o.data = .plain) ∧ wpAny M A (call (.ref x) (fs ++ a.pos) a.kw) Q E s1) E s) :
    wpAny M A (callWith pos (.ref x) fs as ks) Q E s := by
  unfold callWith
  refine wpAny_bind (wpAny_holding (wpAny_mono h (fun a s1 ha => ?_) (fun _ _ q => q)))
  obtain ⟨⟨o, ho, hd⟩, hc⟩ := ha
  refine wpAny_bind (wpAny_standAt ?_)
  simp only [hp]
  refine wpAny_bind ((keeper_plain (M := M) ho hd).here ?_)
  refine wpAny_bind (wpAny_operateT (wpAny_mono hc (fun r s2 hr => ?_) (fun _ _ q => q)))
  exact wpAny_bind (wpAny_holding (wpAny_point (wpAny_pure hr)))
end
section
variable {X : Cx} {CX : CXT} {C f : Addr} {fd : FuncData} {k : Nat} {ps : List Str} {sp : Sp} {E : XK} {x : Str} {p pos : Pos} {e : Expr} {es : List Expr} {to : TE} {t : TA}
def tObj (C : Addr) (sp : Sp) (E : XK) (to : TE) (t : TA) : TE := fun σ H Q => to σ H fun v H1 => ∃ a, v = .ref a ∧ t σ H1 fun vs H2 => (∃ dx fs, H2 a = some (.ins C dx fs)) ∧ sp (.ref a :: vs) H2 Q E
theorem pe_callObj (F : FnOk X.prog X.w X.K X.mg X.base CX k f fd ps sp) (hs : PySem.W.findIn X.K (.ref C) "__call__" = some (some (.ref f))) (hf : PySem.W.isFn X.K (.ref f) = true) (hfn : PySem.W.fnIn X.K f = true) (hr : Room k X.A) (hb : Binds X.K fd ps []) (hx : Passes CX X E)
    (ho : PE X (.Name x p) to) (ha : PA X (e :: es) t) (he : starEach (e :: es) X.env = (false, eval e X.env) :: starEach es X.env := by rfl) (hpl : (backTo pos (starEach es X.env)).any (·.1) = false := by rfl) :
    PE X (.Call (.Name x p) (e :: es) [] pos) (tObj C sp E to t) := by
  refine ⟨fun pins s σ H Q I h => ?_⟩
  refine wpAny_Call_Name_kw (thn (ho.run pins s σ H _ I h) fun u s1 hv => ?_)
  obtain ⟨v, H1, I1, rv, a, rfl, q⟩ := hv
  cases rv
  have hA := ha.run pos pins s1 σ H1 _ I1 q
  rw [he] at hA ⊢
  refine callWith_obj (by show ((false || (backTo pos (starEach es X.env)).any (·.1)) || false) = false; rw [hpl]; rfl) (evalArgs_plain (thn hA fun us s2 hu => ?_))
  obtain ⟨vs, H2, I2, r2, ⟨dx, gs, hH⟩, hsp⟩ := hu
  obtain ⟨mA, J, _⟩ := ins_get I2.hok hH
  obtain ⟨od, J, _⟩ := J.look
  refine ⟨⟨_, J.at_, rfl⟩, ?_⟩
  have r3 : Vals (.ref a :: vs) (.ref a :: us) := .cons rfl r2
  have hl : ((Value.ref a :: us) ++ []).length = ps.length := by rw [List.append_nil, ← r3.length]; have := F.len _ _ _ _ hsp; exact this
  refine wpAny_call (PySem.W.kco_code I2.kIn J rfl hs hf hfn (codeAny_mono (F.run X.A X.stack s2 H2 ⟨.ref a :: us, []⟩ ((.ref a :: us) ++ []) (.ref a :: vs) Q E hr I2.env0 (hb s2 (.ref a :: us) I2.kIn hl) (by rw [List.append_nil]; exact r3) hsp) fun r s' hq => ?_))
  cases r with
  | error e => exact hx pins σ H2 s2 e s' I2 hq
  | ok fl =>
    cases fl with
    | ret u => exact I2.after hq
    | next => exact False.elim hq
    | brk => exact False.elim hq
    | cont => exact False.elim hq
end
end Kw


set_option Elab.async false
set_option linter.all false
set_option maxRecDepth 100000
set_option maxHeartbeats 4000000
namespace Kw
open PySem PySem.Spec PyProof.Rows L2
/-! ### states and items -/
inductive Kd where
  | box | thing | sl
  deriving DecidableEq
def Kd.str : Kd → Str
  | .box => "box"
  | .thing => "thing"
  | .sl => "seal"
def Kd.ix : Kd → Nat
  | .box => 0
  | .thing => 1
  | .sl => 2
def rowOf (d : Hs) : Kd → List Pl
  | .box => d.bs
  | .thing => d.ts
  | .sl => d.ss
def putRow (d : Hs) (k : Kd) (l : List Pl) : Hs := match k with
  | .box => { d with bs := l }
  | .thing => { d with ts := l }
  | .sl => { d with ss := l }
abbrev It := Kd × Nat
def itP (p : It) : PyData := .tuple [.str p.1.str, .int (p.2 : Nat)]
def whereD (d : Hs) (p : It) : Option Pl := (rowOf d p.1)[p.2]?
def setD (d : Hs) (p : It) (q : Pl) : Hs := putRow d p.1 ((rowOf d p.1).set p.2 q)
section
variable {P : Program} {w : World} {K : PySem.W.Frag} {mg : Str → Option Value} {base : Heap}
theorem st_at {H : Hp} {x : V} {d : Hs} (h : Dp K H x (stD d)) : ∃ a v1 v2 v3, x = .ref a ∧ SqT K H a [v1, v2, v3] ∧ Dp K H v1 (plsD d.bs) ∧ Dp K H v2 (plsD d.ts) ∧ Dp K H v3 (plsD d.ss) := by
  cases h with
  | tup hs ha =>
    cases ha with
    | cons d1 r =>
      cases r with
      | cons d2 r =>
        cases r with
        | cons d3 r =>
          cases r
          exact ⟨_, _, _, _, rfl, hs, d1, d2, d3⟩
theorem it_at {H : Hp} {x : V} {p : It} (h : Dp K H x (itP p)) : ∃ a, x = .ref a ∧ SqT K H a [.str p.1.str, .int (p.2 : Nat)] := by
  cases h with
  | tup hs ha =>
    cases ha with
    | cons d1 r =>
      cases r with
      | cons d2 r =>
        cases r
        cases d1
        cases d2
        exact ⟨_, rfl, hs⟩
theorem row_at {H : Hp} {v1 v2 v3 : V} {d : Hs} (h1 : Dp K H v1 (plsD d.bs)) (h2 : Dp K H v2 (plsD d.ts)) (h3 : Dp K H v3 (plsD d.ss)) (k : Kd) : ∃ v, atI [v1, v2, v3] (k.ix : Nat) = some v ∧ Dp K H v (plsD (rowOf d k)) := by
  cases k
  · exact ⟨v1, rfl, h1⟩
  · exact ⟨v2, rfl, h2⟩
  · exact ⟨v3, rfl, h3⟩
def kdL : List V := [.str ("box" : Str), .str ("thing" : Str), .str ("seal" : Str)]
theorem kd_find (k : Kd) : ∃ z, kdL[k.ix]? = some z ∧ eqV z (.str k.str) = true ∧ ∀ (m : Nat) (z' : V), m < k.ix → kdL[m]? = some z' → eqV z' (.str k.str) = false := by
  cases k
  · exact ⟨_, rfl, by decide +kernel, fun m z' h => absurd h (by simp [Kd.ix])⟩
  · refine ⟨_, rfl, by decide +kernel, fun m z' h e => ?_⟩
    have : m = 0 := by simp [Kd.ix] at h; exact h
    subst this
    cases e
    decide +kernel
  · refine ⟨_, rfl, by decide +kernel, fun m z' h e => ?_⟩
    have : m = 0 ∨ m = 1 := by simp [Kd.ix] at h; omega
    rcases this with rfl | rfl <;> (cases e; decide +kernel)
/-! ### _law_where -/
def spWhere (K : PySem.W.Frag) : Sp := fun vs H Q _ => ∃ (x y : V) (d : Hs) (p : It) (q : Pl), vs = [x, y] ∧ Dp K H x (stD d) ∧ Dp K H y (itP p) ∧ whereD d p = some q ∧ ∀ v H', Same H H' → Dp K H' v (plD q) → Q v H'
theorem nl_updL {H : Hp} {D : Addr} {xs ys : List V} (hD : H D = some (.lst xs)) : Nl H (L2.upd H D (.lst ys)) := fun a o h n _ => by
  rw [upd_ne (ne_of h hD (n _))]
  exact h
theorem DpAll.set {H : Hp} : ∀ {vs : List V} {ds : List PyData} {i : Nat} {x : V} {e : PyData}, DpAll K H vs ds → Dp K H x e → DpAll K H (vs.set i x) (ds.set i e)
  | _, _, _, _, _, .nil, _ => .nil
  | _, _, 0, _, _, .cons _ t, h => .cons h t
  | _, _, i + 1, _, _, .cons h0 t, h => .cons h0 (DpAll.set (i := i) t h)
/-! ### _law_set -/
def rows3 (d : Hs) : List (List Pl) := [d.bs, d.ts, d.ss]
def spSet (K : PySem.W.Frag) : Sp := fun vs H Q _ => ∃ (x y z : V) (d : Hs) (p : It) (q : Pl), vs = [x, y, z] ∧ Dp K H x (stD d) ∧ Dp K H y (itP p) ∧ Dp K H z (plD q) ∧ p.2 < (rowOf d p.1).length ∧ ∀ v H', Same H H' → StF K H' v (setD d p q) → Q v H'
theorem rows_set (d : Hs) (p : It) (q : Pl) : rows3 (setD d p q) = (rows3 d).set p.1.ix ((rowOf d p.1).set p.2 q) := by
  obtain ⟨k, n⟩ := p
  cases k <;> rfl
theorem rows_get (d : Hs) (k : Kd) : (rows3 d)[k.ix]? = some (rowOf d k) := by cases k <;> rfl
end
end Kw


set_option Elab.async false
set_option linter.all false
set_option maxRecDepth 100000
set_option maxHeartbeats 4000000
namespace Kw
open PySem PySem.Spec PyProof.Rows L2
/-! ### deeds -/
inductive Dd where
  | give (h : Nat) (p : It) (o : Nat)
  | put (h : Nat) (p : It) (b : Nat)
  | take (h : Nat) (p : It) (b : Nat)
  | lock (h b s : Nat)
  | brk (h b : Nat)
def Dd.word : Dd → Str
  | .give .. => "give"
  | .put .. => "put"
  | .take .. => "take"
  | .lock .. => "seal"
  | .brk .. => "break"
def Dd.hand : Dd → Nat
  | .give h _ _ => h
  | .put h _ _ => h
  | .take h _ _ => h
  | .lock h _ _ => h
  | .brk h _ => h
def Dd.tail : Dd → List PyData
  | .give _ p o => [itP p, .int (o : Nat)]
  | .put _ p b => [itP p, .int (b : Nat)]
  | .take _ p b => [itP p, .int (b : Nat)]
  | .lock _ b s => [.int (b : Nat), .int (s : Nat)]
  | .brk _ b => [.int (b : Nat)]
def ddD (e : Dd) : PyData := .tuple (.str e.word :: .int (e.hand : Nat) :: e.tail)
/-- what the deed names is there -/
def Kn (d : Hs) : Dd → Prop
  | .give _ p _ => (whereD d p).isSome
  | .put _ p b => (whereD d p).isSome ∧ b < d.bs.length
  | .take _ p b => (whereD d p).isSome ∧ b < d.bs.length
  | .lock _ b s => b < d.bs.length ∧ s < d.ss.length
  | .brk _ b => b < d.bs.length
def barOf (d : Hs) : Dd → Str
  | .give h p _ => if whereD d p = some (.hand, (h : Int)) then "" else "NotHeld"
  | .put h p b => if whereD d (.box, b) = some (.hand, (h : Int)) then (if whereD d p = some (.hand, (h : Int)) then (if (.box, (b : Int)) ∈ d.ss then "IsSealed" else "") else "NotHeld") else "NotHeld"
  | .take h p b => if whereD d (.box, b) = some (.hand, (h : Int)) then (if (.box, (b : Int)) ∈ d.ss then "IsSealed" else if whereD d p = some (.box, (b : Int)) then "" else "NotInside") else "NotHeld"
  | .lock h b s => if whereD d (.box, b) = some (.hand, (h : Int)) then (if d.ss[s]? = some (.hand, (h : Int)) then (if (.box, (b : Int)) ∈ d.ss then "IsSealed" else "") else "NotHeld") else "NotHeld"
  | .brk h b => if whereD d (.box, b) = some (.hand, (h : Int)) then (if (.box, (b : Int)) ∈ d.ss then "" else "NotSealed") else "NotHeld"
section
variable {P : Program} {w : World} {K : PySem.W.Frag} {mg : Str → Option Value} {base : Heap}
theorem wNe {σ : L2.St} {H : Hp} {Q : Bool → Hp → Prop} {A : TE} {x y z : V} {d : Hs} {p : It} {q q2 : Pl} {j : Nat} (h0 : σ[0]? = some (some x)) (hx : Dp K H x (stD d)) (hA : ∀ R : V → Hp → Prop, R y H → A σ H R) (hy : Dp K H y (itP p)) (hw : whereD d p = some q) (hj : σ[j]? = some (some z)) (hz : Dp K H z (plD q2))
    (k : ∀ H', Same H H' → Q (!decide (q = q2)) H') : tTest (tOp (rNeD K) (tCall (spWhere K) [] E0 (tCons (tVar 0) (tCons A tNil))) (tVar j)) σ H Q :=
  ⟨_, h0, hA _ ⟨x, y, d, p, q, rfl, hx, hy, hw, fun v H' e dv => ⟨_, hj, plD q, plD q2, dv, Dp.same e _ _ hz, shaped_pl _, shaped_pl _, _, rfl, by rw [eqv_pl]; exact k H' e⟩⟩⟩
theorem wEq {σ : L2.St} {H : Hp} {Q : Bool → Hp → Prop} {A : TE} {x y z : V} {d : Hs} {p : It} {q q2 : Pl} {j : Nat} (h0 : σ[0]? = some (some x)) (hx : Dp K H x (stD d)) (hA : ∀ R : V → Hp → Prop, R y H → A σ H R) (hy : Dp K H y (itP p)) (hw : whereD d p = some q) (hj : σ[j]? = some (some z)) (hz : Dp K H z (plD q2))
    (k : ∀ H', Same H H' → Q (decide (q = q2)) H') : tTest (tOp (rEqD K) (tCall (spWhere K) [] E0 (tCons (tVar 0) (tCons A tNil))) (tVar j)) σ H Q :=
  ⟨_, h0, hA _ ⟨x, y, d, p, q, rfl, hx, hy, hw, fun v H' e dv => ⟨_, hj, plD q, plD q2, dv, Dp.same e _ _ hz, shaped_pl _, shaped_pl _, _, rfl, by rw [eqv_pl]; exact k H' e⟩⟩⟩
theorem dd_at {H : Hp} {y : V} {e : Dd} (h : Dp K H y (ddD e)) : ∃ a vs, y = .ref a ∧ SqT K H a (.str e.word :: .int (e.hand : Nat) :: vs) ∧ DpAll K H vs e.tail := by
  cases h with
  | tup hs ha =>
    cases ha with
    | cons h1 r =>
      cases r with
      | cons h2 r =>
        cases h1
        cases h2
        exact ⟨_, _, rfl, hs, r⟩
theorem where_box {d : Hs} {b : Nat} (h : b < d.bs.length) : ∃ q, whereD d (.box, b) = some q := ⟨_, List.getElem?_eq_getElem h⟩
theorem anyIn (p : Pl) (l : List Pl) : (l.any fun q => decide (q = p)) = decide (p ∈ l) := by
  induction l with
  | nil => simp
  | cons a l ih =>
    rw [List.any_cons, ih]
    by_cases h1 : a = p <;> by_cases h2 : p ∈ l <;> simp [h1, h2, eq_comm]
    · intro h3; exact h1 h3.symm
def spBar (K : PySem.W.Frag) : Sp := fun vs H Q _ => ∃ (x y : V) (d : Hs) (e : Dd), vs = [x, y] ∧ Dp K H x (stD d) ∧ Dp K H y (ddD e) ∧ Kn d e ∧ ∀ H', Same H H' → Q (.str (barOf d e)) H'
end
end Kw


set_option Elab.async false
set_option linter.all false
set_option maxRecDepth 100000
set_option maxHeartbeats 4000000
namespace Kw
open PySem PySem.Spec PyProof.Rows L2
/-! ### the state behind a deed -/
def onIx (d : Hs) (b : Nat) : Nat := (d.ss.findIdx? fun q => decide (q = (Wd.box, (b : Int)))).getD 0
def nextOf (d : Hs) : Dd → Hs
  | .give _ p o => setD d p (.hand, (o : Int))
  | .put _ p b => setD d p (.box, (b : Int))
  | .take h p _ => setD d p (.hand, (h : Int))
  | .lock _ b s => setD d (.sl, s) (.box, (b : Int))
  | .brk _ b => setD d (.sl, onIx d b) (.gone, 0)
section
variable {P : Program} {w : World} {K : PySem.W.Frag} {mg : Str → Option Value} {base : Heap}
theorem where_lt {d : Hs} {p : It} {q : Pl} (h : whereD d p = some q) : p.2 < (rowOf d p.1).length := (List.getElem?_eq_some_iff.mp h).1
theorem on_some {d : Hs} {b : Nat} (h : (Wd.box, (b : Int)) ∈ d.ss) : (∃ z, d.ss[onIx d b]? = some z ∧ z = (Wd.box, (b : Int))) ∧ ∀ (m : Nat) z, m < onIx d b → d.ss[m]? = some z → z ≠ (Wd.box, (b : Int)) := by
  unfold onIx
  cases e : d.ss.findIdx? fun q => decide (q = (Wd.box, (b : Int))) with
  | none =>
    have := List.findIdx?_eq_none_iff.mp e _ h
    simp at this
  | some i =>
    obtain ⟨hi, h1, h2⟩ := List.findIdx?_eq_some_iff_getElem.mp e
    refine ⟨⟨d.ss[i], List.getElem?_eq_getElem hi, of_decide_eq_true h1⟩, fun m z hm hz => ?_⟩
    obtain ⟨hm1, hm2⟩ := List.getElem?_eq_some_iff.mp hz
    have := h2 m hm
    rw [← hm2]
    simpa using this
def spNext (K : PySem.W.Frag) : Sp := fun vs H Q _ => ∃ (x y : V) (d : Hs) (e : Dd), vs = [x, y] ∧ StF K H x d ∧ Dp K H y (ddD e) ∧ Kn d e ∧ barOf d e = "" ∧ ∀ v H', Same H H' → StF K H' v (nextOf d e) → Q v H'
end
end Kw


set_option Elab.async false
set_option linter.all false
set_option maxRecDepth 100000
set_option maxHeartbeats 4000000
namespace Kw
open PySem PySem.Spec PyProof.Rows L2
/-! ### deeds as data -/
theorem sqL_same {K : PySem.W.Frag} {H H' : Hp} {a : Addr} {xs : List V} (k : Same H H') (h : SqL K H a xs) : SqL K H' a xs := by
  rcases h with (h | ⟨o, h⟩) | h
  · exact .inl (.inl (k _ _ h))
  · exact .inl (.inr ⟨o, k _ _ h⟩)
  · exact .inr h
theorem noL_dd (e : Dd) : noL (ddD e) = true := by cases e <;> rfl
theorem lay_it (p : It) : PyData.canLay0 (itP p) = true := by
  obtain ⟨k, n⟩ := p
  have h1 : PyData.strOk ("box" : Str) = true := by decide +kernel
  have h2 : PyData.strOk ("thing" : Str) = true := by decide +kernel
  have h3 : PyData.strOk ("seal" : Str) = true := by decide +kernel
  cases k <;> simp [itP, Kd.str, PyData.canLay0, PyData.canLayAll0, h1, h2, h3]
theorem depth_it (p : It) : PyData.depth (itP p) = 1 := by simp [itP, PyData.depth, PyData.depthAll]
theorem shaped_it (p : It) : SeqAt.shaped (itP p) = true := by simp [SeqAt.shaped, lay_it, depth_it]
theorem kd_inj {k l : Kd} (h : k.str = l.str) : k = l := by
  cases k <;> cases l <;> first | rfl | exact absurd h (by decide +kernel)
theorem eqv_it (p q : It) : PyData.eqv (itP p) (itP q) = decide (p = q) := by
  obtain ⟨k, n⟩ := p
  obtain ⟨l, m⟩ := q
  by_cases h1 : k = l
  · subst h1
    by_cases h2 : n = m
    · subst h2
      simp [itP, PyData.eqv, PyData.eqvAll]
    · have h3 : ¬ ((n : Int) = (m : Int)) := fun z => h2 (by omega)
      simp [itP, PyData.eqv, PyData.eqvAll, h2, h3]
  · have h3 : ¬ (k.str = l.str) := fun z => h1 (kd_inj z)
    simp [itP, PyData.eqv, PyData.eqvAll, h1, h3]
theorem sd_dd (e : Dd) : Sd (ddD e) := by
  have a1 : PyData.strOk ("give" : Str) = true := by decide +kernel
  have a2 : PyData.strOk ("put" : Str) = true := by decide +kernel
  have a3 : PyData.strOk ("take" : Str) = true := by decide +kernel
  have a4 : PyData.strOk ("seal" : Str) = true := by decide +kernel
  have a5 : PyData.strOk ("break" : Str) = true := by decide +kernel
  refine ⟨⟨_, _, rfl⟩, ?_, ?_, noL_dd e⟩
  · cases e <;> simp [ddD, Dd.word, Dd.hand, Dd.tail, PyData.canLay0, PyData.canLayAll0, lay_it, a1, a2, a3, a4, a5]
  · cases e <;> simp [ddD, Dd.word, Dd.hand, Dd.tail, PyData.depth, PyData.depthAll, depth_it]
theorem cmpE_it (p q : It) : cmpE (itP p) (itP q) = true := rfl
theorem tc_two {x y : PyData} {i j : Int} (h : cmpE x y = true) : topCmp [x, .int i] [y, .int j] = true := by
  unfold topCmp
  split
  · unfold topCmp
    split
    · rfl
    · rfl
  · exact h
theorem tc_one {i j : Int} : topCmp [.int i] [.int j] = true := by
  unfold topCmp
  split
  · rfl
  · rfl
theorem tc_tail {e f : Dd} (h : e.word = f.word) : topCmp e.tail f.tail = true := by
  cases e <;> cases f <;> first | exact tc_two (cmpE_it _ _) | exact tc_two rfl | exact tc_one | (dsimp only [Dd.word] at h; exact absurd h (by decide +kernel))
theorem tc_dd (e f : Dd) : topCmp (itemsD' (ddD e)) (itemsD' (ddD f)) = true := by
  show topCmp (.str e.word :: .int (e.hand : Nat) :: e.tail) (.str f.word :: .int (f.hand : Nat) :: f.tail) = true
  unfold topCmp
  split
  · rename_i h
    have hw : e.word = f.word := by simpa [PyData.eqv] using h
    unfold topCmp
    split
    · exact tc_tail hw
    · rfl
  · rfl
/-! ### what the list of deeds has -/
theorem But.refl (L : Addr) (H : Hp) : But L H H := fun _ _ h _ => h
theorem But.trans {L : Addr} {H H1 H2 : Hp} (x : But L H H1) (y : But L H1 H2) : But L H H2 := fun a o h n => y a o (x a o h n) n
theorem But.same {L : Addr} {H H' : Hp} (e : Same H H') : But L H H' := fun a o h _ => e a o h
theorem But.nl {L : Addr} {H H' : Hp} {xs : List V} (hL : H L = some (.lst xs)) (x : But L H H') : Nl H H' := fun a o h n _ => x a o h (ne_of h hL (n _))
section
variable {P : Program} {w : World} {K : PySem.W.Frag} {mg : Str → Option Value} {base : Heap}
/-- small numbers -/
def Sm : Dd → Prop
  | .give h p o => h ≤ 1000 ∧ p.2 ≤ 1000 ∧ o ≤ 1000
  | .put h p b => h ≤ 1000 ∧ p.2 ≤ 1000 ∧ b ≤ 1000
  | .take h p b => h ≤ 1000 ∧ p.2 ≤ 1000 ∧ b ≤ 1000
  | .lock h b s => h ≤ 1000 ∧ b ≤ 1000 ∧ s ≤ 1000
  | .brk h b => h ≤ 1000 ∧ b ≤ 1000
/-- hands that there are -/
def Hb (d : Hs) : Dd → Prop
  | .give h _ o => (h : Int) < d.hands ∧ (o : Int) < d.hands
  | .put h p b => (h : Int) < d.hands ∧ p ≠ (.box, b)
  | .take h _ _ => (h : Int) < d.hands
  | .lock h _ _ => (h : Int) < d.hands
  | .brk h _ => (h : Int) < d.hands
def DdV (K : PySem.W.Frag) (d : Hs) (v : V) (H : Hp) : Prop := ∃ e, Dp K H v (ddD e) ∧ (Kn d e ∧ Hb d e ∧ barOf d e = "") ∧ Sm e
theorem DdV.nl {d : Hs} {v : V} {H H' : Hp} (k : Nl H H') (h : DdV K d v H) : DdV K d v H' := by
  obtain ⟨e, h1, h2⟩ := h
  exact ⟨e, Dp.nl k _ _ (noL_dd e) h1, h2⟩
def ItV (K : PySem.W.Frag) (d : Hs) (v : V) (H : Hp) : Prop := ∃ p : It, Dp K H v (itP p) ∧ p.2 < (rowOf d p.1).length
theorem ItV.nl {d : Hs} {v : V} {H H' : Hp} (k : Nl H H') (h : ItV K d v H) : ItV K d v H' := by
  obtain ⟨e, h1, h2⟩ := h
  exact ⟨e, Dp.nl k _ _ rfl h1, h2⟩
theorem nl_same {H H' : Hp} (e : Same H H') : Nl H H' := fun a o h _ _ => e a o h
def DdU (K : PySem.W.Frag) (d : Hs) (v : V) (H : Hp) : Prop := ∃ e, Dp K H v (ddD e) ∧ (Kn d e ∧ Hb d e) ∧ Sm e
theorem DdU.nl {d : Hs} {v : V} {H H' : Hp} (k : Nl H H') (h : DdU K d v H) : DdU K d v H' := by
  obtain ⟨e, h1, h2⟩ := h
  exact ⟨e, Dp.nl k _ _ (noL_dd e) h1, h2⟩
structure Fd (K : PySem.W.Frag) (d : Hs) (L : Addr) (H0 H : Hp) (m : Nat) : Prop where
  bt : But L H0 H
  ex : ∃ xs, H L = some (.lst xs) ∧ xs.length ≤ m ∧ ∀ v ∈ xs, DdU K d v H
theorem Fd.ext {d : Hs} {L : Addr} {H0 H H' : Hp} {m : Nat} (x : Fd K d L H0 H m) (e : Same H H') : ∃ xs, H' L = some (.lst xs) ∧ xs.length ≤ m ∧ ∀ (zs : List V) (n : Nat), zs.length ≤ n → (∀ v ∈ zs, DdU K d v H') → Fd K d L H0 (L2.upd H' L (.lst (xs ++ zs))) (m + n) := by
  obtain ⟨xs, h1, h2, h3⟩ := x.ex
  refine ⟨xs, e _ _ h1, h2, fun zs n hz hzs => ⟨fun a o h ne => ?_, xs ++ zs, upd_same, by rw [List.length_append]; omega, fun v hv => ?_⟩⟩
  · rw [upd_ne ne]
    exact e _ _ (x.bt a o h ne)
  · have k := nl_updL (ys := xs ++ zs) (e _ _ h1)
    rcases List.mem_append.mp hv with hv | hv
    · exact ((h3 v hv).nl (nl_same e)).nl k
    · exact (hzs v hv).nl k
theorem Fd.more {d : Hs} {L : Addr} {H0 H : Hp} {m n : Nat} (x : Fd K d L H0 H m) (h : m ≤ n) : Fd K d L H0 H n := by
  obtain ⟨xs, h1, h2, h3⟩ := x.ex
  exact ⟨x.bt, xs, h1, by omega, h3⟩
/-- a comprehension over a list whose items all have R -/
theorem lc_mk {a D : Addr} {xs : List V} {j : Nat} {σ : L2.St} {H1 : Hp} {tt : TT} {te : TE} {Qd : Hp → Prop} (R : V → Hp → Prop) (hR : ∀ H H' v, Nl H H' → R v H → R v H') (ha : SqL K H1 a xs) (hn : xs.length ≤ 1000000) (hD : H1 D = none)
    (hs : ∀ (i : Nat) (x : V) (H : Hp) (N : Hp → Prop) (Y : V → Hp → Prop), xs[i]? = some x → Same H1 H → (∀ H', Same H H' → N H') → (∀ y H', Same H H' → R y H' → Y y H') → tt ((wipe σ [j]).set j (some x)) H fun b H3 => if b = true then te ((wipe σ [j]).set j (some x)) H3 Y else N H3)
    (hd : ∀ H zs, Same H1 H → H D = some (.lst zs) → zs.length ≤ xs.length → (∀ z ∈ zs, R z H) → Qd H) :
    ∃ W : Nat → Nat → Hp → Prop, (∃ m, W 0 m (upd H1 D (.lst []))) ∧ ∀ i m H, W i m H →
      ((Itl K a).stop i H ∧ Qd H) ∨ ((Itl K a).go i H ∧ ∃ Nx : Hp → Prop, (∀ H', Nx H' → ∃ m', m' < m ∧ W (i + 1) m' H') ∧ ∀ x H', (Itl K a).yld i H x H' → gName j x (wipe σ [j]) H' fun σ2 H2 => wipe σ2 [j] = wipe σ [j] ∧ tt σ2 H2 fun b H3 =>
        if b = true then te σ2 H3 fun y H4 => ∃ acc, H4 D = some (.lst acc) ∧ acc.length < sizeLine ∧ Nx (upd H4 D (.lst (acc ++ [y]))) else Nx H3) := by
  have e0 : ∀ (H' : Hp) (o : HO), Same H1 H' → Same H1 (L2.upd H' D o) := fun H' o e c u h => by rw [upd_ne (ne_of_none h hD)]; exact e c u h
  refine lc_list (K := K) (a := a) (xs := xs) (fun i H => Same H1 H ∧ ∃ zs, H D = some (.lst zs) ∧ zs.length ≤ i ∧ ∀ z ∈ zs, R z H) ⟨same_upd hD, [], upd_same, Nat.le_refl _, fun z hz => nomatch hz⟩ (fun i H _ ⟨e, _⟩ => sqL_same e ha) ?_ ?_
  · rintro i x H hi ⟨e, zs, hz, lz, rz⟩
    have i1 := (List.getElem?_eq_some_iff.mp hi).1
    refine ⟨wipe_one _ j _, hs i x H _ _ hi e (fun H' e' => ⟨e.trans e', zs, e' _ _ hz, by omega, fun z q => hR _ _ _ (nl_same e') (rz z q)⟩) (fun y H' e' ry => ?_)⟩
    have hz' := e' _ _ hz
    have k := nl_updL (ys := zs ++ [y]) hz'
    refine ⟨zs, hz', by rw [sizeLine_eq]; omega, e0 _ _ (e.trans e'), zs ++ [y], upd_same, by rw [List.length_append]; simp; exact lz, fun z q => ?_⟩
    rcases List.mem_append.mp q with q | q
    · exact hR _ _ _ k (hR _ _ _ (nl_same e') (rz z q))
    · have ez : z = y := by simpa using q
      subst ez
      exact hR _ _ _ k ry
  · rintro H ⟨e, zs, hz, lz, rz⟩
    exact hd H zs e hz lz rz
/-- .. over a tuple whose items all have R -/
theorem lc_mkT {a D : Addr} {xs : List V} {j : Nat} {σ : L2.St} {H1 : Hp} {tt : TT} {te : TE} {Qd : Hp → Prop} (R : V → Hp → Prop) (hR : ∀ H H' v, Nl H H' → R v H → R v H') (ha : SqT K H1 a xs) (hn : xs.length ≤ 1000000) (hD : H1 D = none)
    (hs : ∀ (i : Nat) (x : V) (H : Hp) (N : Hp → Prop) (Y : V → Hp → Prop), xs[i]? = some x → Same H1 H → (∀ H', Same H H' → N H') → (∀ y H', Same H H' → R y H' → Y y H') → tt ((wipe σ [j]).set j (some x)) H fun b H3 => if b = true then te ((wipe σ [j]).set j (some x)) H3 Y else N H3)
    (hd : ∀ H zs, Same H1 H → H D = some (.lst zs) → zs.length ≤ xs.length → (∀ z ∈ zs, R z H) → Qd H) :
    ∃ W : Nat → Nat → Hp → Prop, (∃ m, W 0 m (upd H1 D (.lst []))) ∧ ∀ i m H, W i m H →
      ((Itt K a).stop i H ∧ Qd H) ∨ ((Itt K a).go i H ∧ ∃ Nx : Hp → Prop, (∀ H', Nx H' → ∃ m', m' < m ∧ W (i + 1) m' H') ∧ ∀ x H', (Itt K a).yld i H x H' → gName j x (wipe σ [j]) H' fun σ2 H2 => wipe σ2 [j] = wipe σ [j] ∧ tt σ2 H2 fun b H3 =>
        if b = true then te σ2 H3 fun y H4 => ∃ acc, H4 D = some (.lst acc) ∧ acc.length < sizeLine ∧ Nx (upd H4 D (.lst (acc ++ [y]))) else Nx H3) := by
  have e0 : ∀ (H' : Hp) (o : HO), Same H1 H' → Same H1 (L2.upd H' D o) := fun H' o e c u h => by rw [upd_ne (ne_of_none h hD)]; exact e c u h
  refine lc_tup (K := K) (a := a) (xs := xs) (fun i H => Same H1 H ∧ ∃ zs, H D = some (.lst zs) ∧ zs.length ≤ i ∧ ∀ z ∈ zs, R z H) ⟨same_upd hD, [], upd_same, Nat.le_refl _, fun z hz => nomatch hz⟩ (fun i H _ ⟨e, _⟩ => SqT.same e ha) ?_ ?_
  · rintro i x H hi ⟨e, zs, hz, lz, rz⟩
    have i1 := (List.getElem?_eq_some_iff.mp hi).1
    refine ⟨wipe_one _ j _, hs i x H _ _ hi e (fun H' e' => ⟨e.trans e', zs, e' _ _ hz, by omega, fun z q => hR _ _ _ (nl_same e') (rz z q)⟩) (fun y H' e' ry => ?_)⟩
    have hz' := e' _ _ hz
    have k := nl_updL (ys := zs ++ [y]) hz'
    refine ⟨zs, hz', by rw [sizeLine_eq]; omega, e0 _ _ (e.trans e'), zs ++ [y], upd_same, by rw [List.length_append]; simp; exact lz, fun z q => ?_⟩
    rcases List.mem_append.mp q with q | q
    · exact hR _ _ _ k (hR _ _ _ (nl_same e') (rz z q))
    · have ez : z = y := by simpa using q
      subst ez
      exact hR _ _ _ k ry
  · rintro H ⟨e, zs, hz, lz, rz⟩
    exact hd H zs e hz lz rz
def nV (hs : List Nat) : List V := hs.map fun h => V.int (h : Nat)
theorem nv_get {hs : List Nat} {i : Nat} {x : V} (h : (nV hs)[i]? = some x) : ∃ u, u ∈ hs ∧ x = .int (u : Nat) := by
  unfold nV at h
  rw [List.getElem?_map] at h
  cases q : hs[i]? with
  | none => rw [q] at h; cases h
  | some u =>
    rw [q] at h
    exact ⟨u, List.mem_of_getElem? q, (Option.some.inj h).symm⟩
theorem nv_len (hs : List Nat) : (nV hs).length = hs.length := List.length_map _
theorem rg_get {n : Nat} {i : Nat} {x : V} (h : (rgV 0 (n : Int))[i]? = some x) : i < n ∧ x = .int (i : Nat) := by
  have hl := (List.getElem?_eq_some_iff.mp h).1
  rw [rgV_length] at hl
  have hi : i < n := by omega
  refine ⟨hi, ?_⟩
  unfold rgV at h
  rw [List.getElem?_map, List.getElem?_range (by omega)] at h
  have := Option.some.inj h
  rw [← this]
  show V.int (0 + (i : Int)) = _
  rw [Int.zero_add]
theorem rg_len (n : Nat) : (rgV 0 (n : Int)).length = n := by rw [rgV_length]; omega
theorem ite_b {A B : Prop} (b : Bool) (h1 : b = true → A) (h2 : b = false → B) : if b = true then A else B := by
  cases b with
  | true => rw [if_pos rfl]; exact h1 rfl
  | false => rw [if_neg (by decide)]; exact h2 rfl
theorem dds_all {d : Hs} {H : Hp} : ∀ {vs : List V}, (∀ v ∈ vs, DdV K d v H) → ∃ es : List Dd, DpAll K H vs (es.map ddD)
  | [], _ => ⟨[], .nil⟩
  | v :: vs, h => by
    obtain ⟨e, h1, _⟩ := h v List.mem_cons_self
    obtain ⟨es, h2⟩ := dds_all (vs := vs) fun u hu => h u (List.mem_cons_of_mem _ hu)
    exact ⟨e :: es, .cons h1 h2⟩
def spDeeds (K : PySem.W.Frag) : Sp := fun vs H Q _ => ∃ (x : V) (hp : Addr) (d : Hs) (hs : List Nat), vs = [x, .ref hp] ∧ Dp K H x (stD d) ∧ H hp = some (.lst (nV hs)) ∧ hs.length ≤ 4 ∧ (∀ u ∈ hs, (u : Int) < d.hands) ∧ d.hands ≤ 4 ∧ d.bs.length ≤ 3 ∧ d.ts.length ≤ 4 ∧ d.ss.length ≤ 3 ∧
  ∀ (p : Addr) (xs : List V) (H' : Hp), Same H H' → H p = none → H' p = some (.lst xs) → xs.length ≤ 400 → (∀ v ∈ xs, DdV K d v H') → Q (.ref p) H'
def spDeedsT (K : PySem.W.Frag) : Sp := fun vs H Q _ => ∃ (x : V) (hp : Addr) (d : Hs) (hs : List Nat), vs = [x, .ref hp] ∧ Dp K H x (stD d) ∧ SqT K H hp (nV hs) ∧ hs.length ≤ 4 ∧ (∀ u ∈ hs, (u : Int) < d.hands) ∧ d.hands ≤ 4 ∧ d.bs.length ≤ 3 ∧ d.ts.length ≤ 4 ∧ d.ss.length ≤ 3 ∧
  ∀ (p : Addr) (xs : List V) (H' : Hp), Same H H' → H p = none → H' p = some (.lst xs) → xs.length ≤ 400 → (∀ v ∈ xs, DdV K d v H') → Q (.ref p) H'
end
end Kw


set_option Elab.async false
set_option linter.all false
set_option maxRecDepth 100000
set_option maxHeartbeats 4000000
/-! items in their order: p <= q, sorted over a list or a tuple of items -/
namespace Kw
open PySem PySem.Spec PyProof.Rows L2
def rkd : Kd → Int
  | .box => 0
  | .sl => 1
  | .thing => 2
def itKey (p : It) : Int × Int := (rkd p.1, (p.2 : Int))
def itLt (p q : It) : Bool := SrtO.lexB (itKey p) (itKey q)
theorem rkd_inj {k l : Kd} (h : rkd k = rkd l) : k = l := by
  cases k <;> cases l <;> first | rfl | exact absurd h (by decide)
theorem kd_lt (k l : Kd) : decide (k.str.cps.toList < l.str.cps.toList) = decide (rkd k < rkd l) := by
  cases k <;> cases l <;> decide +kernel
theorem itLt_iff {p q : It} : itLt p q = true ↔ rkd p.1 < rkd q.1 ∨ (p.1 = q.1 ∧ p.2 < q.2) := by
  unfold itLt
  rw [SrtO.lexB_iff]
  show rkd p.1 < rkd q.1 ∨ (rkd p.1 = rkd q.1 ∧ ((p.2 : Int) < q.2)) ↔ _
  constructor
  · rintro (h | ⟨h1, h2⟩)
    · exact .inl h
    · exact .inr ⟨rkd_inj h1, by omega⟩
  · rintro (h | ⟨h1, h2⟩)
    · exact .inl h
    · exact .inr ⟨by rw [h1], by omega⟩
theorem itLt_total {p q : It} (h1 : itLt p q = false) (h2 : itLt q p = false) : p = q := by
  have a1 : ¬ itLt p q = true := by rw [h1]; decide
  have a2 : ¬ itLt q p = true := by rw [h2]; decide
  rw [itLt_iff] at a1 a2
  have e1 : rkd p.1 = rkd q.1 := by
    by_cases c1 : rkd p.1 < rkd q.1
    · exact absurd (.inl c1) a1
    · by_cases c2 : rkd q.1 < rkd p.1
      · exact absurd (.inl c2) a2
      · omega
  have e2 := rkd_inj e1
  have e3 : p.2 = q.2 := by
    by_cases c1 : p.2 < q.2
    · exact absurd (.inr ⟨e2, c1⟩) a1
    · by_cases c2 : q.2 < p.2
      · exact absurd (.inr ⟨e2.symm, c2⟩) a2
      · omega
  exact Prod.ext e2 e3
/-! ### p <= q -/
def rLeI (K : PySem.W.Frag) : R2 := fun x y H Q => ∃ (a b : Addr) (p q : It), x = .ref a ∧ y = .ref b ∧ SqT K H a [.str p.1.str, .int (p.2 : Nat)] ∧ SqT K H b [.str q.1.str, .int (q.2 : Nat)] ∧ Q (.bl (!itLt q p)) H
theorem two_of {v : List Value} {x : Str} {i : Int} (r : Vals [V.str x, V.int i] v) : ∃ t u, v = [.str x t, .int i u] := by
  cases r with
  | cons r1 rr =>
    cases rr with
    | cons r2 rr =>
      cases rr
      obtain ⟨t, rfl⟩ := r1
      obtain ⟨u, rfl⟩ := r2
      exact ⟨t, u, rfl⟩
theorem op_leI {X : Cx} (hu : X.A.units < cLine) : OpR X (compareOp .LtE) (rLeI X.K) := by
  intro pins s σ H x y v u Q I rx ry h
  obtain ⟨a, b, p, q, rfl, rfl, ha, hb, hq⟩ := h
  cases rx
  cases ry
  obtain ⟨its, r1, p1, _⟩ := I.tuple ha
  obtain ⟨its2, r2, p2, _⟩ := I.tuple hb
  obtain ⟨t1, u1, rfl⟩ := two_of r1
  obtain ⟨t2, u2, rfl⟩ := two_of r2
  have R := Ob.RcOp.tuples_le (A := X.A) (s := s) (e := fun j => if j = 0 then p.1.str == q.1.str else ((p.2 : Int) == (q.2 : Int))) (r := fun j => if j = 0 then !decide (q.1.str.cps.toList < p.1.str.cps.toList) else decide ((p.2 : Int) ≤ q.2)) p1 p2 hu (fun j h1 h2 => by
      match j, h1, h2 with
      | 0, _, _ => exact SeqAt.EqAt.str_str _ _ _ _
      | 1, _, _ => exact SeqAt.EqAt.int_int _ _ _ _
      | j + 2, h1, _ => simp at h1; omega) (fun j h1 h2 _ => by
      match j, h1, h2 with
      | 0, _, _ => exact fun _ _ _ _ h => PySem.P.le_str h
      | 1, _, _ => exact Ob.RcOp.le_int _ _ _ _
      | j + 2, h1, _ => simp at h1; omega)
  refine R X.prog X.w X.xe (EP X pins σ Q) ⟨.bl (!itLt q p), H, I, ?_, hq⟩
  show Value.bool _ = Value.bool _
  congr 1
  show Ob.lexAt _ _ _ 0 2 = _
  rw [Ob.lexAt_succ, Ob.lexAt_succ, Ob.lexAt_zero]
  have ks := kd_lt q.1 p.1
  by_cases c : p.1 = q.1
  · have c' : (p.1.str == q.1.str) = true := by rw [c]; exact beq_self_eq_true _
    simp only [c', if_true]
    by_cases c2 : p.2 = q.2
    · have n1 : itLt q p = false := by
        cases e : itLt q p with
        | false => rfl
        | true =>
          rcases itLt_iff.mp e with z | ⟨_, z⟩
          · rw [c] at z; omega
          · omega
      rw [n1]
      simp [c2]
    · have c3 : (((p.2 : Nat) : Int) == ((q.2 : Nat) : Int)) = false := beq_eq_false_iff_ne.mpr (by omega)
      simp only [c3]
      by_cases c4 : q.2 < p.2
      · have n1 : itLt q p = true := itLt_iff.mpr (.inr ⟨c.symm, c4⟩)
        rw [n1]
        simp
        omega
      · have n1 : itLt q p = false := by
          cases e : itLt q p with
          | false => rfl
          | true =>
            rcases itLt_iff.mp e with z | ⟨_, z⟩
            · rw [c] at z; omega
            · exact absurd z c4
        rw [n1]
        simp
        omega
  · have c' : (p.1.str == q.1.str) = false := beq_eq_false_iff_ne.mpr fun z => c (kd_inj z)
    simp only [c']
    rw [ks]
    by_cases c4 : rkd q.1 < rkd p.1
    · have n1 : itLt q p = true := itLt_iff.mpr (.inl c4)
      rw [n1, decide_eq_true c4]
      rfl
    · have n1 : itLt q p = false := by
        cases e : itLt q p with
        | false => rfl
        | true =>
          rcases itLt_iff.mp e with z | ⟨z, _⟩
          · exact absurd z c4
          · exact absurd z.symm c
      rw [n1, decide_eq_false c4]
      rfl
end Kw


set_option Elab.async false
set_option linter.all false
set_option maxRecDepth 100000
set_option maxHeartbeats 4000000
namespace Kw
open PySem PySem.Spec PyProof.Rows L2
theorem nat_of {r : Int} (h : 0 ≤ r) : ∃ n : Nat, r = (n : Int) := ⟨r.toNat, by omega⟩
theorem add_bl {i : Int} (k : Bool) (h1 : 1 ≤ i) (h2 : i ≤ 100) : 0 < i + (if k then 1 else 0) ∧ i + (if k then 1 else 0) ≤ 1000 := by
  cases k <;> simp <;> omega
end Kw


set_option Elab.async false
set_option linter.all false
set_option maxRecDepth 100000
set_option maxHeartbeats 4000000
namespace Kw
open PySem PySem.Spec PyProof.Rows L2
/-! ### _law_unknown -/
def inH (d : Hs) (p : It) : Prop := p.2 < (rowOf d p.1).length
instance (d : Hs) (p : It) : Decidable (inH d p) := by unfold inH; infer_instance
def unkOf (d : Hs) (e : Dd) : Str :=
  if d.hands ≤ (e.hand : Nat) then "UnknownHand" else match e with
  | .give h p o => if ¬ inH d p then "UnknownItem" else if d.hands ≤ (o : Nat) ∨ o = h then "UnknownHand" else ""
  | .put _ p b => if ¬ inH d p ∨ p.1 = .sl then "UnknownItem" else if d.bs.length ≤ b then "UnknownBox" else if p = (.box, b) then "InsideItself" else ""
  | .take _ p b => if ¬ inH d p ∨ p.1 = .sl then "UnknownItem" else if d.bs.length ≤ b then "UnknownBox" else if p = (.box, b) then "InsideItself" else ""
  | .lock _ b s => if d.bs.length ≤ b then "UnknownBox" else if d.ss.length ≤ s then "UnknownSeal" else ""
  | .brk _ b => if d.bs.length ≤ b then "UnknownBox" else ""
theorem inH_where {d : Hs} {p : It} (h : inH d p) : (whereD d p).isSome := by
  unfold whereD
  rw [List.getElem?_eq_getElem h]
  rfl
theorem ne_e1 : ¬ (("UnknownHand" : Str) = "") := by decide +kernel
theorem ne_e2 : ¬ (("UnknownItem" : Str) = "") := by decide +kernel
theorem ne_e3 : ¬ (("UnknownBox" : Str) = "") := by decide +kernel
theorem ne_e4 : ¬ (("InsideItself" : Str) = "") := by decide +kernel
theorem ne_e5 : ¬ (("UnknownSeal" : Str) = "") := by decide +kernel
theorem unk_kn {d : Hs} {e : Dd} (h : unkOf d e = "") : Kn d e := by
  unfold unkOf at h
  by_cases c0 : d.hands ≤ (e.hand : Nat)
  · rw [if_pos c0] at h; exact absurd h ne_e1
  rw [if_neg c0] at h
  cases e with
  | give hd p o =>
    dsimp only at h
    by_cases c1 : ¬ inH d p
    · rw [if_pos c1] at h; exact absurd h ne_e2
    exact inH_where (Classical.not_not.mp c1)
  | put hd p b =>
    dsimp only at h
    by_cases c1 : ¬ inH d p ∨ p.1 = .sl
    · rw [if_pos c1] at h; exact absurd h ne_e2
    rw [if_neg c1] at h
    by_cases c2 : d.bs.length ≤ b
    · rw [if_pos c2] at h; exact absurd h ne_e3
    exact ⟨inH_where (Classical.byContradiction fun z => c1 (.inl z)), by omega⟩
  | take hd p b =>
    dsimp only at h
    by_cases c1 : ¬ inH d p ∨ p.1 = .sl
    · rw [if_pos c1] at h; exact absurd h ne_e2
    rw [if_neg c1] at h
    by_cases c2 : d.bs.length ≤ b
    · rw [if_pos c2] at h; exact absurd h ne_e3
    exact ⟨inH_where (Classical.byContradiction fun z => c1 (.inl z)), by omega⟩
  | lock hd b s =>
    dsimp only at h
    by_cases c2 : d.bs.length ≤ b
    · rw [if_pos c2] at h; exact absurd h ne_e3
    rw [if_neg c2] at h
    by_cases c3 : d.ss.length ≤ s
    · rw [if_pos c3] at h; exact absurd h ne_e5
    exact ⟨by omega, by omega⟩
  | brk hd b =>
    dsimp only at h
    by_cases c2 : d.bs.length ≤ b
    · rw [if_pos c2] at h; exact absurd h ne_e3
    show b < d.bs.length
    omega
theorem many_kd (d : Hs) (k : Kd) : manyOf d k.str = (rowOf d k).length := by
  have e1 : ¬ ("seal" : Str) = ("box" : Str) := by decide +kernel
  have e2 : ¬ ("thing" : Str) = ("box" : Str) := by decide +kernel
  have e3 : ¬ ("thing" : Str) = ("seal" : Str) := by decide +kernel
  cases k
  · exact if_pos rfl
  · show manyOf d "thing" = _
    unfold manyOf
    rw [if_neg e2, if_neg e3, if_pos rfl]
    rfl
  · show manyOf d "seal" = _
    unfold manyOf
    rw [if_neg e1, if_pos rfl]
    rfl
theorem has_it (d : Hs) (p : It) : numOk ((p.2 : Nat) : Int) ((manyOf d p.1.str : Nat) : Int) = decide (inH d p) := by
  rw [many_kd]
  unfold numOk inH
  by_cases c : p.2 < (rowOf d p.1).length
  · rw [decide_eq_true c, decide_eq_true (by omega), decide_eq_true (by omega)]
    rfl
  · rw [decide_eq_false c, decide_eq_false (show ¬ (((p.2 : Nat) : Int) < ((rowOf d p.1).length : Nat)) by omega), Bool.and_false]
end Kw


set_option Elab.async false
set_option linter.all false
set_option maxRecDepth 100000
set_option maxHeartbeats 4000000
namespace Kw
open PySem PySem.Spec PyProof.Rows L2
abbrev sNHand : Stmt := top 21
abbrev sNItem : Stmt := top 22
abbrev sNLoad : Stmt := top 23
abbrev sNBox : Stmt := top 24
abbrev sNSeal : Stmt := top 25
abbrev sPlace : Stmt := top 37
abbrev sWith : Stmt := top 38
abbrev sOn : Stmt := top 39
abbrev sNDeed : Stmt := top 43
abbrev sNMove : Stmt := top 44
abbrev sBehind : Stmt := top 45
abbrev sBreak : Stmt := top 46
abbrev sHeld : Stmt := top 47
abbrev sBare : Stmt := top 48
/-- a plain error of the program: the class's facts -/
structure PErr (K : PySem.W.Frag) (mg : Str → Option Value) (x : Str) (C : Addr) : Prop where
  ex : PySem.W.excIn K C [.type "ValueError", .type "Exception", .type "BaseException", .type "object"] "ValueError.__new__" = true
  mg : mg x = some (.ref C)
  kp : PySem.W.keepIn K (.ref C) = true
  sb : PySem.W.subIn K (.ref C) (.type "BaseException") = some true
  ty : PySem.W.typeIn K (.ref C) = some (.type "type")
def Rp (C : Addr) (H : Hp) (E : XK) : Prop := ∀ H', Same H H' → E (.ref C) none H'
theorem Rp.same {C : Addr} {H H' : Hp} {E : XK} (e : Same H H') (r : Rp C H E) : Rp C H' E := fun H2 e2 => r H2 (e.trans e2)
theorem str_app (a b : Str) : (a ++ b).length = a.length + b.length := Str.length_append a b
theorem kd_len (k : Kd) : k.str.length ≤ 20 ∧ ∀ c ∈ k.str.cps.toList, c < 16 ^ 8 := by
  cases k <;> exact ⟨by decide +kernel, by decide +kernel⟩
section
variable {P : Program} {w : World} {K : PySem.W.Frag} {mg : Str → Option Value} {base : Heap}
/-- is_number and the house's __contains__, as the needs use them -/
structure NumF (P : Program) (w : World) (K : PySem.W.Frag) (mg : Str → Option Value) (base : Heap) (g : Addr) (fd : FuncData) : Prop where
  G : FnOk P w K mg base CX0 1 g fd ["value", "limit"] spNum
  m : mg "is_number" = some (.ref g)
  k : PySem.W.keepIn K (.ref g) = true
  b : Binds K fd ["value", "limit"] []
structure HasF (P : Program) (w : World) (K : PySem.W.Frag) (mg : Str → Option Value) (base : Heap) (C g : Addr) (fd : FuncData) : Prop where
  G : FnOk P w K mg base CX0 2 g fd ["self", "item"] (spHas K C)
  f : PySem.W.findIn K (.ref C) "__contains__" = some (some (.ref g))
  i : PySem.W.isFn K (.ref g) = true
  b : Binds K fd ["self", "item"] []
theorem num_lt {n l : Int} (h0 : 0 ≤ n) : numOk n l = decide (n < l) := by
  unfold numOk
  rw [decide_eq_true h0, Bool.true_and]
/-! ### need_hand -/
def spNHand (K : PySem.W.Frag) (C X : Addr) : Sp := fun vs H Q E => ∃ (h : Addr) (n : Int) (d : Hs), vs = [.ref h, .int n] ∧ HouseAt K C H h d ∧ 0 ≤ n ∧ n ≤ 1000 ∧ (d.hands ≤ n → Rp X H E) ∧ (n < d.hands → Q .non H)
theorem scNHand : FnScope ["house", "hand"] ["house", "hand"] (defScope sNHand) := ⟨rfl, rfl, rfl, by decide +kernel, rfl, by decide +kernel, by decide +kernel⟩
theorem ok_nhand {f g C X : Addr} {fd fdg : FuncData} (F : Fun K "need_hand" "need_hand" sNHand f fd) (T : HouseC K C) (N : NumF P w K mg base g fdg) (X1 : PErr K mg "UnknownHand" X) :
    FnOk P w K mg base (L2.CX P w) 2 f fd ["house", "hand"] (spNHand K C X) := by
  refine F.okX scNHand (fun vs H Q E h => ?_) (fun cdv A outer s H vs Q E hr h => ?_)
  · obtain ⟨h, n, d, rfl, _⟩ := h
    rfl
  · obtain ⟨h, n, d, rfl, hh, h0, h1, kE, kQ⟩ := h
    have tk : Takes (cxOf (L2.CX P w) P w K mg base ["house", "hand"] "need_hand" (defScope sNHand) f cdv A outer s H E) (fun cls d _ H => E cls d H) := takes_of rfl rfl rfl rfl
    refine ⟨_, pss_one (ps_if (pt_not (pt_val (pe_call N.G hr rfl N.m N.k N.b .nil pass0 (pa_cons (pv 1) (pa_cons (pe_fld (pv 0) rfl) pa_nil)))))
      (pss_one (ps_raise rfl tk (SkE.pmk_own1 PySem.F.excBase_ValueError X1.ex X1.mg X1.kp (raises_own X1.sb X1.ty) rfl (pe_joined (.cons pe_str (.cons (pe_fmt (pv 1)) .nil)))))) pss_nil), ?_⟩
    obtain ⟨dx, vb, vt, vs, vst, g0, _⟩ := hh.ex
    refine ⟨_, rfl, _, rfl, h, C, dx, _, _, rfl, g0, T.cl, T.nH, fs_hands _ _ _ _ _, n, d.hands, rfl, _, rfl, ?_⟩
    rw [num_lt h0]
    by_cases c : n < d.hands
    · rw [decide_eq_true c]
      exact iteF (kQ c)
    · rw [decide_eq_false c]
      have l5 := sizeLine_eq
      have l1 : (Str.empty : Str).length = 0 := rfl
      have l2 : ("there is no hand " : Str).length = 17 := by decide +kernel
      have l3 := digits_small h0 h1
      exact iteT ⟨_, rfl, by rw [str_app]; omega, _, rfl, .inr ⟨n, rfl, log2_small h0 h1, _, rfl, by rw [str_app, str_app]; omega, kE (by omega) _ (Same.refl _)⟩⟩
/-! ### need_item, need_load -/
def spNItem (K : PySem.W.Frag) (C X : Addr) : Sp := fun vs H Q E => ∃ (h : Addr) (y : V) (p : It) (d : Hs), vs = [.ref h, y] ∧ HouseAt K C H h d ∧ Dp K H y (itP p) ∧ p.2 ≤ 1000 ∧ (¬ inH d p → Rp X H E) ∧ (inH d p → Q .non H)
theorem scNItem : FnScope ["house", "item"] ["house", "item"] (defScope sNItem) := ⟨rfl, rfl, rfl, by decide +kernel, rfl, by decide +kernel, by decide +kernel⟩
theorem ok_nitem {f g C X : Addr} {fd fdg : FuncData} (F : Fun K "need_item" "need_item" sNItem f fd) (N : HasF P w K mg base C g fdg) (X1 : PErr K mg "UnknownItem" X) :
    FnOk P w K mg base (L2.CX P w) 3 f fd ["house", "item"] (spNItem K C X) := by
  refine F.okX scNItem (fun vs H Q E h => ?_) (fun cdv A outer s H vs Q E hr h => ?_)
  · obtain ⟨h, y, p, d, rfl, _⟩ := h
    rfl
  · obtain ⟨h, y, p, d, rfl, hh, hy, h1, kE, kQ⟩ := h
    have hr2 : Room 2 _ := hr
    have tk : Takes (cxOf (L2.CX P w) P w K mg base ["house", "item"] "need_item" (defScope sNItem) f cdv A outer s H E) (fun cls d _ H => E cls d H) := takes_of rfl rfl rfl rfl
    refine ⟨_, pss_one (ps_if (pt_cmpR (op_notInOwn N.G N.f N.i hr2 N.b pass0) (pv 1) (pv 0) (by rfl))
      (pss_one (ps_raise rfl tk (SkE.pmk_own1 PySem.F.excBase_ValueError X1.ex X1.mg X1.kp (raises_own X1.sb X1.ty) rfl (pe_joined (.cons pe_str (.cons (pe_fmtI hr2 (pv 1)) .nil)))))) pss_nil), ?_⟩
    obtain ⟨dx, vb, vt, vs, vst, g0, _⟩ := hh.ex
    obtain ⟨ip, rfl, sp⟩ := it_at hy
    refine ⟨_, rfl, _, rfl, h, dx, _, rfl, g0, h, ip, d, p.1.str, (p.2 : Nat), rfl, hh, sp, _, rfl, _, rfl, ?_⟩
    rw [has_it]
    by_cases c : inH d p
    · rw [decide_eq_true c]
      exact iteF (kQ c)
    · rw [decide_eq_false c]
      have l5 := sizeLine_eq
      have l1 : (Str.empty : Str).length = 0 := rfl
      have l2 : ("there is no item " : Str).length = 17 := by decide +kernel
      exact iteT ⟨_, rfl, by rw [str_app]; omega, _, rfl, ip, _, _, rfl, sp, (kd_len _).1, (kd_len _).2, by omega, by omega, fun m hm => ⟨_, rfl, by rw [str_app, str_app]; omega, kE c _ (Same.refl _)⟩⟩
def spNLoad (K : PySem.W.Frag) (C X : Addr) : Sp := fun vs H Q E => ∃ (h : Addr) (y : V) (p : It) (d : Hs), vs = [.ref h, y] ∧ HouseAt K C H h d ∧ Dp K H y (itP p) ∧ p.2 ≤ 1000 ∧ (¬ inH d p ∨ p.1 = .sl → Rp X H E) ∧ (¬ (¬ inH d p ∨ p.1 = .sl) → Q .non H)
theorem scNLoad : FnScope ["house", "item"] ["house", "item"] (defScope sNLoad) := ⟨rfl, rfl, rfl, by decide +kernel, rfl, by decide +kernel, by decide +kernel⟩
theorem ok_nload {f g C X : Addr} {fd fdg : FuncData} (F : Fun K "need_load" "need_load" sNLoad f fd) (N : HasF P w K mg base C g fdg) (X1 : PErr K mg "UnknownItem" X) :
    FnOk P w K mg base (L2.CX P w) 3 f fd ["house", "item"] (spNLoad K C X) := by
  refine F.okX scNLoad (fun vs H Q E h => ?_) (fun cdv A outer s H vs Q E hr h => ?_)
  · obtain ⟨h, y, p, d, rfl, _⟩ := h
    rfl
  · obtain ⟨h, y, p, d, rfl, hh, hy, h1, kE, kQ⟩ := h
    have hr2 : Room 2 _ := hr
    have tk : Takes (cxOf (L2.CX P w) P w K mg base ["house", "item"] "need_load" (defScope sNLoad) f cdv A outer s H E) (fun cls d _ H => E cls d H) := takes_of rfl rfl rfl rfl
    refine ⟨_, pss_one (ps_if (PW.pt (pw_or (pt_cmpR (op_notInOwn N.G N.f N.i hr2 N.b pass0) (pv 1) (pv 0) (by rfl)) (pw_or1 (pt_cmpR op_eq (pe_ix ix_tup (pv 1) pe_int (fun _ _ => rfl)) pe_str (nomark _)))))
      (pss_one (ps_raise rfl tk (SkE.pmk_own1 PySem.F.excBase_ValueError X1.ex X1.mg X1.kp (raises_own X1.sb X1.ty) rfl (pe_joined (.cons pe_str (.cons (pe_fmtI hr2 (pv 1)) .nil)))))) pss_nil), ?_⟩
    obtain ⟨dx, vb, vt, vs, vst, g0, _⟩ := hh.ex
    obtain ⟨ip, rfl, sp⟩ := it_at hy
    have l5 := sizeLine_eq
    have l1 : (Str.empty : Str).length = 0 := rfl
    have l2 : ("there is no box or thing " : Str).length = 25 := by decide +kernel
    refine ⟨_, rfl, _, rfl, h, dx, _, rfl, g0, h, ip, d, p.1.str, (p.2 : Nat), rfl, hh, sp, _, rfl, _, rfl, ?_⟩
    rw [has_it]
    by_cases c : inH d p
    · rw [decide_eq_true c]
      refine iteF ⟨_, rfl, ip, _, 0, _, rfl, rfl, sp, rfl, rfl, _, rfl, ?_⟩
      rw [decS]
      by_cases c2 : p.1 = .sl
      · rw [decide_eq_true (show p.1.str = ("seal" : Str) by rw [c2]; rfl)]
        exact iteT ⟨_, rfl, by rw [str_app]; omega, _, rfl, ip, _, _, rfl, sp, (kd_len _).1, (kd_len _).2, by omega, by omega, fun m hm => ⟨_, rfl, by rw [str_app, str_app]; omega, kE (.inr c2) _ (Same.refl _)⟩⟩
      · rw [decide_eq_false (show ¬ p.1.str = ("seal" : Str) from fun z => c2 (kd_inj (l := .sl) z))]
        exact iteF (kQ fun z => z.elim (fun q => q c) c2)
    · rw [decide_eq_false c]
      exact iteT (iteT ⟨_, rfl, by rw [str_app]; omega, _, rfl, ip, _, _, rfl, sp, (kd_len _).1, (kd_len _).2, by omega, by omega, fun m hm => ⟨_, rfl, by rw [str_app, str_app]; omega, kE (.inl c) _ (Same.refl _)⟩⟩)
/-! ### need_box, need_seal -/
def spNBox (K : PySem.W.Frag) (C X : Addr) : Sp := fun vs H Q E => ∃ (h : Addr) (n : Nat) (d : Hs), vs = [.ref h, .int (n : Nat)] ∧ HouseAt K C H h d ∧ n ≤ 1000 ∧ (d.bs.length ≤ n → Rp X H E) ∧ (n < d.bs.length → Q .non H)
def spNSeal (K : PySem.W.Frag) (C X : Addr) : Sp := fun vs H Q E => ∃ (h : Addr) (n : Nat) (d : Hs), vs = [.ref h, .int (n : Nat)] ∧ HouseAt K C H h d ∧ n ≤ 1000 ∧ (d.ss.length ≤ n → Rp X H E) ∧ (n < d.ss.length → Q .non H)
theorem scNBox : FnScope ["house", "box"] ["house", "box"] (defScope sNBox) := ⟨rfl, rfl, rfl, by decide +kernel, rfl, by decide +kernel, by decide +kernel⟩
theorem scNSeal : FnScope ["house", "seal"] ["house", "seal"] (defScope sNSeal) := ⟨rfl, rfl, rfl, by decide +kernel, rfl, by decide +kernel, by decide +kernel⟩
theorem ok_nbox {f g C X : Addr} {fd fdg : FuncData} (F : Fun K "need_box" "need_box" sNBox f fd) (B : Bt mg) (T : HouseC K C) (N : NumF P w K mg base g fdg) (X1 : PErr K mg "UnknownBox" X) :
    FnOk P w K mg base (L2.CX P w) 2 f fd ["house", "box"] (spNBox K C X) := by
  refine F.okX scNBox (fun vs H Q E h => ?_) (fun cdv A outer s H vs Q E hr h => ?_)
  · obtain ⟨h, n, d, rfl, _⟩ := h
    rfl
  · obtain ⟨h, n, d, rfl, hh, h1, kE, kQ⟩ := h
    have tk : Takes (cxOf (L2.CX P w) P w K mg base ["house", "box"] "need_box" (defScope sNBox) f cdv A outer s H E) (fun cls d _ H => E cls d H) := takes_of rfl rfl rfl rfl
    refine ⟨_, pss_one (ps_if (pt_not (pt_val (pe_call N.G hr rfl N.m N.k N.b .nil pass0 (pa_cons (pv 1) (pa_cons (pe_callB call_len_seq (by rfl) B.len PySem.boot_len (pa_cons (pe_fld (pv 0) rfl) pa_nil)) pa_nil)))))
      (pss_one (ps_raise rfl tk (SkE.pmk_own1 PySem.F.excBase_ValueError X1.ex X1.mg X1.kp (raises_own X1.sb X1.ty) rfl (pe_joined (.cons pe_str (.cons (pe_fmt (pv 1)) .nil)))))) pss_nil), ?_⟩
    obtain ⟨dx, vb, vt, vs, vst, g0, g1, g2, g3, g4⟩ := hh.ex
    obtain ⟨ab, xb, rfl, qb, db, lb⟩ := pls_at g1
    refine ⟨_, rfl, _, rfl, h, C, dx, _, _, rfl, g0, T.cl, T.nB, fs_boxes _ _ _ _ _, ab, xb, rfl, .inr qb, (n : Nat), (xb.length : Nat), rfl, _, rfl, ?_⟩
    rw [num_lt (by omega)]
    by_cases c : n < d.bs.length
    · rw [decide_eq_true (show ((n : Nat) : Int) < (xb.length : Nat) by omega)]
      exact iteF (kQ c)
    · rw [decide_eq_false (show ¬ ((n : Nat) : Int) < (xb.length : Nat) by omega)]
      have l5 := sizeLine_eq
      have l1 : (Str.empty : Str).length = 0 := rfl
      have l2 : ("there is no box " : Str).length = 16 := by decide +kernel
      have l3 := digits_small (i := (n : Nat)) (by omega) (by omega)
      exact iteT ⟨_, rfl, by rw [str_app]; omega, _, rfl, .inr ⟨_, rfl, log2_small (by omega) (by omega), _, rfl, by rw [str_app, str_app]; omega, kE (by omega) _ (Same.refl _)⟩⟩
theorem ok_nseal {f g C X : Addr} {fd fdg : FuncData} (F : Fun K "need_seal" "need_seal" sNSeal f fd) (B : Bt mg) (T : HouseC K C) (N : NumF P w K mg base g fdg) (X1 : PErr K mg "UnknownSeal" X) :
    FnOk P w K mg base (L2.CX P w) 2 f fd ["house", "seal"] (spNSeal K C X) := by
  refine F.okX scNSeal (fun vs H Q E h => ?_) (fun cdv A outer s H vs Q E hr h => ?_)
  · obtain ⟨h, n, d, rfl, _⟩ := h
    rfl
  · obtain ⟨h, n, d, rfl, hh, h1, kE, kQ⟩ := h
    have tk : Takes (cxOf (L2.CX P w) P w K mg base ["house", "seal"] "need_seal" (defScope sNSeal) f cdv A outer s H E) (fun cls d _ H => E cls d H) := takes_of rfl rfl rfl rfl
    refine ⟨_, pss_one (ps_if (pt_not (pt_val (pe_call N.G hr rfl N.m N.k N.b .nil pass0 (pa_cons (pv 1) (pa_cons (pe_callB call_len_seq (by rfl) B.len PySem.boot_len (pa_cons (pe_fld (pv 0) rfl) pa_nil)) pa_nil)))))
      (pss_one (ps_raise rfl tk (SkE.pmk_own1 PySem.F.excBase_ValueError X1.ex X1.mg X1.kp (raises_own X1.sb X1.ty) rfl (pe_joined (.cons pe_str (.cons (pe_fmt (pv 1)) .nil)))))) pss_nil), ?_⟩
    obtain ⟨dx, vb, vt, vs, vst, g0, g1, g2, g3, g4⟩ := hh.ex
    obtain ⟨as, xs, rfl, qs, ds, ls⟩ := pls_at g3
    refine ⟨_, rfl, _, rfl, h, C, dx, _, _, rfl, g0, T.cl, T.nS, fs_seals _ _ _ _ _, as, xs, rfl, .inr qs, (n : Nat), (xs.length : Nat), rfl, _, rfl, ?_⟩
    rw [num_lt (by omega)]
    by_cases c : n < d.ss.length
    · rw [decide_eq_true (show ((n : Nat) : Int) < (xs.length : Nat) by omega)]
      exact iteF (kQ c)
    · rw [decide_eq_false (show ¬ ((n : Nat) : Int) < (xs.length : Nat) by omega)]
      have l5 := sizeLine_eq
      have l1 : (Str.empty : Str).length = 0 := rfl
      have l2 : ("there is no seal " : Str).length = 17 := by decide +kernel
      have l3 := digits_small (i := (n : Nat)) (by omega) (by omega)
      exact iteT ⟨_, rfl, by rw [str_app]; omega, _, rfl, .inr ⟨_, rfl, log2_small (by omega) (by omega), _, rfl, by rw [str_app, str_app]; omega, kE (by omega) _ (Same.refl _)⟩⟩
end
end Kw


set_option Elab.async false
set_option linter.all false
set_option maxRecDepth 100000
set_option maxHeartbeats 4000000
namespace Kw
open PySem PySem.Spec PyProof.Rows L2
theorem slA_by {K : PySem.W.Frag} {H : Hp} {a : Addr} {xs : List V} {lo hi : Option Int} {Q : VK} (h : SqT K H a xs) (k : ∀ c H', Same H H' → SqT K H' c (cutV xs lo hi) → Q (.ref c) H') : rSlA K (.ref a) lo hi H Q := by
  refine ⟨a, xs, rfl, h, fun hw => ?_, fun _ p hp => k p _ (same_upd hp) (SqT.of upd_same)⟩
  have e : cutV xs lo hi = xs := by
    unfold cutV
    rw [hw.1, hw.2]
    simp
  exact k a H (Same.refl _) (by rw [e]; exact h)
theorem catA_by {K : PySem.W.Frag} {H : Hp} {a b : Addr} {xs ys : List V} {Q : VK} (ha : SqT K H a xs) (hb : SqT K H b ys) (hz : xs.length + ys.length ≤ sizeLine) (k : ∀ c H', Same H H' → SqT K H' c (xs ++ ys) → Q (.ref c) H') : rCatA K (.ref a) (.ref b) H Q := by
  refine ⟨a, b, xs, ys, rfl, rfl, ha, hb, hz, fun e => ?_, fun _ e => ?_, fun _ _ p hp => k p _ (same_upd hp) (SqT.of upd_same)⟩
  · subst e
    exact k b H (Same.refl _) hb
  · subst e
    exact k a H (Same.refl _) (by rw [List.append_nil]; exact ha)
theorem cut_to {xs : List V} {n : Nat} (h : n ≤ xs.length) : cutV xs none (some (n : Int)) = xs.take n := by
  unfold cutV
  rw [HT.sIx_none, HT.sIx_nat, Nat.min_eq_left h]
  simp
theorem cut_from {xs : List V} {n : Nat} (h : n < xs.length) : cutV xs (some ((n : Int) + 1)) none = xs.drop (n + 1) := by
  unfold cutV
  rw [HT.sIx_none, show ((n : Int) + 1) = ((n + 1 : Nat) : Int) by omega, HT.sIx_nat, Nat.min_eq_left (by omega)]
  rw [List.take_of_length_le]
  rw [List.length_drop]
  exact Nat.le_refl _
theorem set_cut {α : Type} (l : List α) (n : Nat) (a : α) (h : n < l.length) : l.take n ++ [a] ++ l.drop (n + 1) = l.set n a := by
  rw [List.set_eq_take_append_cons_drop, if_pos h]
  simp
/-- the table of the words of items -/
structure PartsF (K : PySem.W.Frag) (w : World) (mg : Str → Option Value) (aP : Addr) : Prop where
  d : ∀ k : Kd, KDct K w aP k.str (.int (k.ix : Nat))
  m : mg "PARTS" = some (.ref aP)
structure Ls (d : Hs) : Prop where
  b : d.bs.length ≤ 100
  t : d.ts.length ≤ 100
  s : d.ss.length ≤ 100
theorem Ls.row {d : Hs} (h : Ls d) (k : Kd) : (rowOf d k).length ≤ 100 := by
  cases k
  · exact h.b
  · exact h.t
  · exact h.s
section
variable {P : Program} {w : World} {K : PySem.W.Frag} {mg : Str → Option Value} {base : Heap}
/-! ### place_in -/
theorem scPlace : FnScope ["state", "item", "word", "number"] ["state", "item"] (defScope sPlace) := ⟨rfl, rfl, rfl, by decide +kernel, rfl, by decide +kernel, by decide +kernel⟩
theorem ok_place {f aP : Addr} {fd : FuncData} (F : Fun K "place_in" "place_in" sPlace f fd) (T : PartsF K w mg aP) : FnOk P w K mg base CX0 1 f fd ["state", "item"] (spWhere K) := by
  refine F.ok scPlace (fun vs H Q E h => ?_) (fun cdv A outer s H vs Q E hr h => ?_)
  · obtain ⟨x, y, d, p, q, rfl, _⟩ := h
    rfl
  · obtain ⟨x, y, d, p, q, rfl, hx, hy, hw, k⟩ := h
    obtain ⟨a, v1, v2, v3, rfl, sa, d1, d2, d3⟩ := st_at hx
    obtain ⟨b, rfl, sb⟩ := it_at hy
    obtain ⟨vr, hr1, dr⟩ := row_at d1 d2 d3 p.1
    obtain ⟨ar, xr, rfl, sr, dlr, lr⟩ := pls_at dr
    obtain ⟨vq, hq1, hq2⟩ := DpAll.at2 dlr (i := p.2) (d := plD q) (by rw [List.getElem?_map]; unfold whereD at hw; rw [hw]; rfl)
    refine ⟨_, pss_cons (ps_asg (pv 1) (pg_tup (by rfl) (pgs_cons (pg_name (i := 2) scPlace.nd rfl (.inl rfl)) (pgs_cons (pg_name (i := 3) scPlace.nd rfl (.inl rfl)) pgs_nil))))
      (pss_one (ps_ret (pe_ix ix_tup (pe_ix ix_tup (pv 0) (pe_ix ix_kdict (pe_glob (v := .ref aP) rfl T.m rfl) (pv 2) (fun _ _ => rfl)) (fun _ _ => rfl)) (pv 3) (fun _ _ => rfl)))), ?_⟩
    refine ⟨_, rfl, b, _, rfl, sb, rfl, _, _, rfl, _, _, rfl, rfl, ?_⟩
    refine ⟨_, rfl, _, rfl, aP, p.1.str, .int (p.1.ix : Nat), rfl, rfl, T.d p.1, a, _, _, _, rfl, rfl, sa, hr1, _, rfl, ar, xr, _, vq, rfl, rfl, sr, atI_nat hq1, ?_⟩
    exact k _ _ (Same.refl _) hq2
/-! ### with_place -/
def spWith (K : PySem.W.Frag) : Sp := fun vs H Q _ => ∃ (x y z : V) (d : Hs) (p : It) (q : Pl), vs = [x, y, z] ∧ Dp K H x (stD d) ∧ Dp K H y (itP p) ∧ Dp K H z (plD q) ∧ p.2 < (rowOf d p.1).length ∧ Ls d ∧ ∀ v H', Same H H' → Dp K H' v (stD (setD d p q)) → Q v H'
theorem scWith : FnScope ["state", "item", "place", "word", "number", "part", "places"] ["state", "item", "place"] (defScope sWith) := ⟨rfl, rfl, rfl, by decide +kernel, rfl, by decide +kernel, by decide +kernel⟩
theorem ok_with {f aP : Addr} {fd : FuncData} (F : Fun K "with_place" "with_place" sWith f fd) (T : PartsF K w mg aP) : FnOk P w K mg base CX0 1 f fd ["state", "item", "place"] (spWith K) := by
  refine F.ok scWith (fun vs H Q E h => ?_) (fun cdv A outer s H vs Q E hr h => ?_)
  · obtain ⟨x, y, z, d, p, q, rfl, _⟩ := h
    rfl
  · obtain ⟨x, y, z, d, p, q, rfl, hx, hy, hz, hp, hL, k⟩ := h
    obtain ⟨a, v1, v2, v3, rfl, sa, d1, d2, d3⟩ := st_at hx
    obtain ⟨b, rfl, sb⟩ := it_at hy
    obtain ⟨vr, hr1, dr⟩ := row_at d1 d2 d3 p.1
    obtain ⟨ar, xr, rfl, sr, dlr, lr⟩ := pls_at dr
    have hL1 := hL.row p.1
    have l5 := sizeLine_eq
    have ix3 : p.1.ix < 3 := by cases p.1 <;> decide
    refine ⟨_, pss_cons (ps_asg (pv 1) (pg_tup (by rfl) (pgs_cons (pg_name (i := 3) scWith.nd rfl (.inl rfl)) (pgs_cons (pg_name (i := 4) scWith.nd rfl (.inl rfl)) pgs_nil))))
      (pss_cons (ps_set (i := 5) scWith.nd rfl (.inl rfl) (pe_ix ix_kdict (pe_glob (v := .ref aP) rfl T.m rfl) (pv 3) (fun _ _ => rfl)))
      (pss_cons (ps_set (i := 6) scWith.nd rfl (.inl rfl) (pe_ix ix_tup (pv 0) (pv 5) (fun _ _ => rfl)))
      (pss_cons (ps_set (i := 6) scWith.nd rfl (.inl rfl) (pe_op op_catA (pe_op op_catA (pe_slice sl_tupA (pv 6) po_none (po_some (pv 4))) (pe_tup (pa_cons (pv 2) pa_nil))) (pe_slice sl_tupA (pv 6) (po_some (pe_op op_add (pv 4) pe_int)) po_none)))
      (pss_one (ps_ret (pe_op op_catA (pe_op op_catA (pe_slice sl_tupA (pv 0) po_none (po_some (pv 5))) (pe_tup (pa_cons (pv 6) pa_nil))) (pe_slice sl_tupA (pv 0) (po_some (pe_op op_add (pv 5) pe_int)) po_none))))))), ?_⟩
    refine ⟨_, rfl, b, _, rfl, sb, rfl, _, _, rfl, _, _, rfl, rfl, ?_⟩
    refine ⟨_, rfl, aP, p.1.str, .int (p.1.ix : Nat), rfl, rfl, T.d p.1, ?_⟩
    refine ⟨_, rfl, _, rfl, a, _, _, _, rfl, rfl, sa, hr1, ?_⟩
    -- the row
    refine ⟨_, rfl, _, rfl, _, rfl, slA_by sr fun c1 H1 e1 s1 => ?_⟩
    rw [cut_to (by omega)] at s1
    refine ⟨_, rfl, (by show 1 ≤ sizeLine; decide), fun t1 ht1 => ?_⟩
    have f1 := same_upd (o := HO.tup [z]) ht1
    refine catA_by (SqT.same f1 s1) (SqT.of upd_same) (by rw [List.length_take]; simp; omega) fun c2 H2 e2 s2 => ?_
    have e12 := (e1.trans f1).trans e2
    refine ⟨_, rfl, _, rfl, _, _, rfl, rfl, _, rfl, ?_⟩
    dsimp only [tNoPart]
    refine slA_by (SqT.same e12 sr) fun c3 H3 e3 s3 => ?_
    rw [cut_from (by omega)] at s3
    refine catA_by (SqT.same e3 s2) s3 (by rw [List.length_append, List.length_take, List.length_drop]; simp; omega) fun c4 H4 e4 s4 => ?_
    rw [set_cut _ _ _ (by omega)] at s4
    have e14 := (e12.trans e3).trans e4
    have dn : Dp K H4 (.ref c4) (plsD ((rowOf d p.1).set p.2 q)) := .tup s4 (by rw [List.map_set]; exact DpAll.set (Dp.sames e14 _ _ dlr) (Dp.same e14 _ _ hz))
    -- the state
    refine ⟨_, rfl, _, rfl, _, rfl, slA_by (SqT.same e14 sa) fun c5 H5 e5 s5 => ?_⟩
    rw [cut_to (by show p.1.ix ≤ 3; omega)] at s5
    refine ⟨_, rfl, (by show 1 ≤ sizeLine; decide), fun t2 ht2 => ?_⟩
    have f2 := same_upd (o := HO.tup [V.ref c4]) ht2
    refine catA_by (SqT.same f2 s5) (SqT.of upd_same) (by rw [List.length_take]; simp; omega) fun c6 H6 e6 s6 => ?_
    have e56 := (e5.trans f2).trans e6
    refine ⟨_, rfl, _, rfl, _, _, rfl, rfl, _, rfl, ?_⟩
    dsimp only [tNoPart]
    refine slA_by (SqT.same (e14.trans e56) sa) fun c7 H7 e7 s7 => ?_
    rw [cut_from (by show p.1.ix < 3; exact ix3)] at s7
    refine catA_by (SqT.same e7 s6) s7 (by rw [List.length_append, List.length_take, List.length_drop]; simp; omega) fun c8 H8 e8 s8 => ?_
    rw [set_cut _ _ _ (by show p.1.ix < 3; exact ix3)] at s8
    have e58 := (e56.trans e7).trans e8
    have e18 := e14.trans e58
    refine k _ _ e18 ?_
    have dn' := Dp.same e58 _ _ dn
    have x1 := Dp.same e18 _ _ d1
    have x2 := Dp.same e18 _ _ d2
    have x3 := Dp.same e18 _ _ d3
    obtain ⟨kd, n⟩ := p
    cases kd
    · exact .tup s8 (.cons dn' (.cons x2 (.cons x3 .nil)))
    · exact .tup s8 (.cons x1 (.cons dn' (.cons x3 .nil)))
    · exact .tup s8 (.cons x1 (.cons x2 (.cons dn' .nil)))
/-! ### seal_on -/
def spOn (K : PySem.W.Frag) : Sp := fun vs H Q _ => ∃ (x : V) (b : Nat) (d : Hs), vs = [x, .int (b : Nat)] ∧ Dp K H x (stD d) ∧ ((Wd.box, (b : Int)) ∈ d.ss → ∀ H', Same H H' → Q (.int (onIx d b : Nat)) H') ∧ ((Wd.box, (b : Int)) ∉ d.ss → ∀ H', Same H H' → Q .non H')
theorem scOn : FnScope ["state", "box", "number", "place"] ["state", "box"] (defScope sOn) := ⟨rfl, rfl, rfl, by decide +kernel, rfl, by decide +kernel, by decide +kernel⟩
theorem on_eq {d : Hs} {b i : Nat} (h : d.ss[i]? = some (Wd.box, (b : Int))) (hn : ∀ (m : Nat) z, m < i → d.ss[m]? = some z → z ≠ (Wd.box, (b : Int))) : onIx d b = i := by
  unfold onIx
  obtain ⟨hi, he⟩ := List.getElem?_eq_some_iff.mp h
  have : d.ss.findIdx? (fun q => decide (q = (Wd.box, (b : Int)))) = some i := by
    rw [List.findIdx?_eq_some_iff_getElem]
    refine ⟨hi, by rw [he]; exact decide_eq_true rfl, fun j hj => ?_⟩
    have := hn j (d.ss[j]) hj (List.getElem?_eq_getElem (by omega))
    simpa using this
  rw [this]
  rfl
theorem ok_on {f : Addr} {fd : FuncData} (F : Fun K "seal_on" "seal_on" sOn f fd) (B : Bt mg) : FnOk P w K mg base CX0 1 f fd ["state", "box"] (spOn K) := by
  refine F.ok scOn (fun vs H Q E h => ?_) (fun cdv A outer s H vs Q E hr h => ?_)
  · obtain ⟨x, b, d, rfl, _⟩ := h
    rfl
  · obtain ⟨x, b, d, rfl, hx, k1, k2⟩ := h
    have hu : (cxOf CX0 P w K mg base ["state", "box", "number", "place"] "seal_on" (defScope sOn) f cdv A outer s H E).nox.A.units + 64 < cLine := by have := hr.un; show (A.deeper _).units + 64 < cLine; omega
    obtain ⟨a, v1, v2, v3, rfl, sa, d1, d2, d3⟩ := st_at hx
    obtain ⟨as, xs, rfl, ss, ds, ls⟩ := pls_at d3
    refine ⟨_, pss_cons (ps_for PassesOwn.never rfl (pi_enumT (by rfl) B.enu (pa_cons (pe_ix ix_tup (pv 0) pe_int (fun _ _ => rfl)) pa_nil)) (pg_tup (by rfl) (pgs_cons (pg_name (i := 2) scOn.nd rfl (.inl rfl)) (pgs_cons (pg_name (i := 3) scOn.nd rfl (.inl rfl)) pgs_nil)))
        (pss_one (ps_if (pt_cmpR (op_eqD hu) (pv 3) (pe_tup (pa_cons pe_str (pa_cons (pv 1) pa_nil))) (nomark _)) (pss_one (ps_ret (pv 2))) pss_nil)))
      (pss_one (ps_ret pe_non)), ?_⟩
    refine ⟨_, rfl, a, _, 2, _, rfl, rfl, sa, rfl, as, xs, rfl, ss, for_enumT (K := K) (a := as) (xs := xs) (fun i σ H2 => ∃ u1 u2 : Option V, σ = [some (.ref a), some (.int (b : Nat)), u1, u2] ∧ Same H H2 ∧ ∀ (m : Nat) z, m < i → d.ss[m]? = some z → z ≠ (Wd.box, (b : Int)))
      ⟨none, none, rfl, Same.refl H, fun m z h _ => absurd h (by omega)⟩ (fun i σ H2 _ ⟨_, _, _, e, _⟩ => SqT.same e ss) ?_ ?_⟩
    · rintro i y σ H2 T' hi ⟨u1, u2, rfl, e, hb⟩ hT
      obtain ⟨q, hq, hy⟩ := pls_get ds hi
      have f1 := same_upd (o := HO.tup [.int (i : Nat), y]) hT
      refine ⟨T', _, rfl, SqT.of upd_same, rfl, _, _, rfl, _, _, rfl, rfl, ?_⟩
      refine ⟨_, rfl, _, rfl, (by show 2 ≤ sizeLine; decide), fun t ht => ?_⟩
      have f2 := f1.trans (same_upd (o := HO.tup [.str ("box" : Str), .int (b : Nat)]) ht)
      refine ⟨plD q, plD (.box, (b : Int)), Dp.same (e.trans f2) _ _ hy, .tup (SqT.of upd_same) (.cons (.str _) (.cons (.int _) .nil)), shaped_pl _, shaped_pl _, _, rfl, ?_⟩
      rw [eqv_pl]
      by_cases c : q = (.box, (b : Int))
      · subst c
        rw [decide_eq_true rfl]
        refine iteT ⟨_, rfl, ?_⟩
        have := k1 (List.mem_of_getElem? hq) _ (e.trans f2)
        rw [on_eq hq hb] at this
        exact this
      · rw [decide_eq_false c]
        refine iteF ⟨_, _, rfl, e.trans f2, fun m z hm hz => ?_⟩
        by_cases cm : m = i
        · subst cm
          rw [hq] at hz
          cases hz
          exact c
        · exact hb m z (by omega) hz
    · rintro σ H2 ⟨u1, u2, rfl, e, hb⟩
      refine k2 (fun z => ?_) _ e
      obtain ⟨i, hi⟩ := mem_get z
      exact hb i _ (by have := (List.getElem?_eq_some_iff.mp hi).1; omega) hi rfl
end
end Kw


set_option Elab.async false
set_option linter.all false
set_option maxRecDepth 100000
set_option maxHeartbeats 4000000
namespace Kw
open PySem PySem.Spec PyProof.Rows L2
section
variable {P : Program} {w : World} {K : PySem.W.Frag} {mg : Str → Option Value} {base : Heap}
/-! ### need_held -/
def spHeld (K : PySem.W.Frag) (X : Addr) : Sp := fun vs H Q E => ∃ (x y : V) (h : Nat) (d : Hs) (p : It) (q : Pl), vs = [x, .int (h : Nat), y] ∧ Dp K H x (stD d) ∧ Dp K H y (itP p) ∧ whereD d p = some q ∧ h ≤ 1000 ∧ p.2 ≤ 1000 ∧
  (q ≠ (.hand, (h : Int)) → Rp X H E) ∧ (q = (.hand, (h : Int)) → ∀ H', Same H H' → Q .non H')
theorem scHeld : FnScope ["state", "hand", "item"] ["state", "hand", "item"] (defScope sHeld) := ⟨rfl, rfl, rfl, by decide +kernel, rfl, by decide +kernel, by decide +kernel⟩
structure PlF (P : Program) (w : World) (K : PySem.W.Frag) (mg : Str → Option Value) (base : Heap) (g : Addr) (fd : FuncData) : Prop where
  G : FnOk P w K mg base CX0 1 g fd ["state", "item"] (spWhere K)
  m : mg "place_in" = some (.ref g)
  k : PySem.W.keepIn K (.ref g) = true
  b : Binds K fd ["state", "item"] []
theorem ok_held {f g X : Addr} {fd fdg : FuncData} (F : Fun K "need_held" "need_held" sHeld f fd) (N : PlF P w K mg base g fdg) (X1 : PErr K mg "NotHeld" X) :
    FnOk P w K mg base (L2.CX P w) 2 f fd ["state", "hand", "item"] (spHeld K X) := by
  refine F.okX scHeld (fun vs H Q E h => ?_) (fun cdv A outer s H vs Q E hr h => ?_)
  · obtain ⟨x, y, h, d, p, q, rfl, _⟩ := h
    rfl
  · obtain ⟨x, y, h, d, p, q, rfl, hx, hy, hw, h1, h2, kE, kQ⟩ := h
    have hr1 : Room 1 _ := hr
    have tk : Takes (cxOf (L2.CX P w) P w K mg base ["state", "hand", "item"] "need_held" (defScope sHeld) f cdv A outer s H E) (fun cls d _ H => E cls d H) := takes_of rfl rfl rfl rfl
    have hu : (cxOf (L2.CX P w) P w K mg base ["state", "hand", "item"] "need_held" (defScope sHeld) f cdv A outer s H E).A.units + 64 < cLine := by have := hr.un; show (A.deeper _).units + 64 < cLine; omega
    refine ⟨_, pss_one (ps_if (pt_cmpR (op_neD hu) (pe_call N.G hr rfl N.m N.k N.b .nil pass0 (pa_cons (pv 0) (pa_cons (pv 2) pa_nil))) (pe_tup (pa_cons pe_str (pa_cons (pv 1) pa_nil))) (nomark _))
      (pss_one (ps_raise rfl tk (SkE.pmk_own1 PySem.F.excBase_ValueError X1.ex X1.mg X1.kp (raises_own X1.sb X1.ty) rfl (pe_joined (.cons pe_str (.cons (pe_fmt (pv 1)) (.cons pe_str (.cons (pe_fmtI hr1 (pv 2)) .nil)))))))) pss_nil), ?_⟩
    obtain ⟨ip, rfl, sp⟩ := it_at hy
    refine ⟨_, rfl, _, rfl, x, _, d, p, q, rfl, hx, hy, hw, fun v H1 e1 dv => ?_⟩
    refine ⟨_, rfl, (by show 2 ≤ sizeLine; decide), fun t ht => ?_⟩
    have f1 := same_upd (o := HO.tup [.str ("hand" : Str), .int (h : Nat)]) ht
    refine ⟨plD q, plD (.hand, (h : Int)), Dp.same f1 _ _ dv, .tup (SqT.of upd_same) (.cons (.str _) (.cons (.int _) .nil)), shaped_pl _, shaped_pl _, _, rfl, ?_⟩
    rw [eqv_pl]
    have e2 := e1.trans f1
    by_cases c : q = (.hand, (h : Int))
    · rw [decide_eq_true c]
      exact iteF (kQ c _ e2)
    · rw [decide_eq_false c]
      have l5 := sizeLine_eq
      have l1 : (Str.empty : Str).length = 0 := rfl
      have l2 : ("hand " : Str).length = 5 := by decide +kernel
      have l4 : (" does not hold " : Str).length = 15 := by decide +kernel
      have l3 := digits_small (i := (h : Nat)) (by omega) (by omega)
      exact iteT ⟨_, rfl, by rw [str_app]; omega, _, rfl, .inr ⟨_, rfl, log2_small (by omega) (by omega), _, rfl, by rw [str_app, str_app]; omega, _, rfl, by rw [str_app, str_app, str_app]; omega, _, rfl, ip, _, _, rfl, SqT.same e2 sp, (kd_len _).1, (kd_len _).2, by omega, by omega, fun m hm => ⟨_, rfl, by rw [str_app, str_app, str_app, str_app]; omega, kE c _ e2⟩⟩⟩
structure HeldF (P : Program) (w : World) (K : PySem.W.Frag) (mg : Str → Option Value) (base : Heap) (X g : Addr) (fd : FuncData) : Prop where
  G : FnOk P w K mg base (L2.CX P w) 2 g fd ["state", "hand", "item"] (spHeld K X)
  m : mg "need_held" = some (.ref g)
  k : PySem.W.keepIn K (.ref g) = true
  b : Binds K fd ["state", "hand", "item"] []
structure OnF (P : Program) (w : World) (K : PySem.W.Frag) (mg : Str → Option Value) (base : Heap) (g : Addr) (fd : FuncData) : Prop where
  G : FnOk P w K mg base CX0 1 g fd ["state", "box"] (spOn K)
  m : mg "seal_on" = some (.ref g)
  k : PySem.W.keepIn K (.ref g) = true
  b : Binds K fd ["state", "box"] []
structure WithF (P : Program) (w : World) (K : PySem.W.Frag) (mg : Str → Option Value) (base : Heap) (g : Addr) (fd : FuncData) : Prop where
  G : FnOk P w K mg base CX0 1 g fd ["state", "item", "place"] (spWith K)
  m : mg "with_place" = some (.ref g)
  k : PySem.W.keepIn K (.ref g) = true
  b : Binds K fd ["state", "item", "place"] []
/-! ### need_bare -/
def spBare (K : PySem.W.Frag) (XH XS : Addr) : Sp := fun vs H Q E => ∃ (x : V) (h b : Nat) (d : Hs), vs = [x, .int (h : Nat), .int (b : Nat)] ∧ Dp K H x (stD d) ∧ b < d.bs.length ∧ h ≤ 1000 ∧ b ≤ 1000 ∧
  (whereD d (.box, b) ≠ some (.hand, (h : Int)) → Rp XH H E) ∧ (whereD d (.box, b) = some (.hand, (h : Int)) → (Wd.box, (b : Int)) ∈ d.ss → Rp XS H E) ∧ (whereD d (.box, b) = some (.hand, (h : Int)) → (Wd.box, (b : Int)) ∉ d.ss → ∀ H', Same H H' → Q .non H')
theorem scBare : FnScope ["state", "hand", "box"] ["state", "hand", "box"] (defScope sBare) := ⟨rfl, rfl, rfl, by decide +kernel, rfl, by decide +kernel, by decide +kernel⟩
theorem ok_bare {f g g2 XH XS : Addr} {fd fdg fdg2 : FuncData} (F : Fun K "need_bare" "need_bare" sBare f fd) (N : HeldF P w K mg base XH g fdg) (O : OnF P w K mg base g2 fdg2) (X1 : PErr K mg "IsSealed" XS) :
    FnOk P w K mg base (L2.CX P w) 3 f fd ["state", "hand", "box"] (spBare K XH XS) := by
  refine F.okX scBare (fun vs H Q E h => ?_) (fun cdv A outer s H vs Q E hr h => ?_)
  · obtain ⟨x, h, b, d, rfl, _⟩ := h
    rfl
  · obtain ⟨x, h, b, d, rfl, hx, hb, h1, h2, kH, kS, kQ⟩ := h
    have hr1 : Room 1 _ := hr.mono (by decide)
    have tk : Takes (cxOf (L2.CX P w) P w K mg base ["state", "hand", "box"] "need_bare" (defScope sBare) f cdv A outer s H E) (fun cls d _ H => E cls d H) := takes_of rfl rfl rfl rfl
    refine ⟨_, pss_cons (ps_expr (pe_call N.G hr rfl N.m N.k N.b .nil (passes_call tk (fun _ _ _ _ h => h)) (pa_cons (pv 0) (pa_cons (pv 1) (pa_cons (pe_tup (pa_cons pe_str (pa_cons (pv 2) pa_nil))) pa_nil)))))
      (pss_one (ps_if (pt_cmp (pc_notN (pe_call O.G hr1 rfl O.m O.k O.b .nil pass0 (pa_cons (pv 0) (pa_cons (pv 2) pa_nil)))))
      (pss_one (ps_raise rfl tk (SkE.pmk_own1 PySem.F.excBase_ValueError X1.ex X1.mg X1.kp (raises_own X1.sb X1.ty) rfl (pe_joined (.cons pe_str (.cons (pe_fmt (pv 2)) (.cons pe_str .nil))))))) pss_nil)), ?_⟩
    obtain ⟨q, hq⟩ := where_box hb
    refine ⟨_, rfl, _, rfl, _, rfl, (by show 2 ≤ sizeLine; decide), fun t ht => ?_⟩
    have f1 := same_upd (o := HO.tup [.str ("box" : Str), .int (b : Nat)]) ht
    have dt : Dp K (L2.upd H t (.tup [.str ("box" : Str), .int (b : Nat)])) (.ref t) (itP (.box, b)) := .tup (SqT.of upd_same) (.cons (.str _) (.cons (.int _) .nil))
    generalize L2.upd H t (.tup [.str ("box" : Str), .int (b : Nat)]) = H1 at *
    refine ⟨x, .ref t, h, d, (.box, b), q, rfl, Dp.same f1 _ _ hx, dt, hq, h1, h2, fun c => (kH (by rw [hq]; exact fun z => c (Option.some.inj z))).same f1, fun c H2 e2 => ?_⟩
    have hq' : whereD d (.box, b) = some (.hand, (h : Int)) := by rw [hq, c]
    have e12 := f1.trans e2
    have l5 := sizeLine_eq
    have l1 : (Str.empty : Str).length = 0 := rfl
    have l2 : ("box " : Str).length = 4 := by decide +kernel
    have l4 : (" has a seal" : Str).length = 11 := by decide +kernel
    have l3 := digits_small (i := (b : Nat)) (by omega) (by omega)
    refine ⟨_, rfl, _, rfl, x, b, d, rfl, Dp.same e12 _ _ hx, fun hin H3 e3 => ?_, fun hno H3 e3 => ?_⟩
    · exact ⟨_, rfl, iteT ⟨_, rfl, by rw [str_app]; omega, _, rfl, .inr ⟨_, rfl, log2_small (by omega) (by omega), _, rfl, by rw [str_app, str_app]; omega, _, rfl, by rw [str_app, str_app, str_app]; omega, kS hq' hin _ (e12.trans e3)⟩⟩⟩
    · exact ⟨_, rfl, iteF (kQ hq' hno _ (e12.trans e3))⟩
structure BareF (P : Program) (w : World) (K : PySem.W.Frag) (mg : Str → Option Value) (base : Heap) (XH XS g : Addr) (fd : FuncData) : Prop where
  G : FnOk P w K mg base (L2.CX P w) 3 g fd ["state", "hand", "box"] (spBare K XH XS)
  m : mg "need_bare" = some (.ref g)
  k : PySem.W.keepIn K (.ref g) = true
  b : Binds K fd ["state", "hand", "box"] []
/-! ### state_behind_break -/
def spBreak (K : PySem.W.Frag) (XH XN : Addr) : Sp := fun vs H Q E => ∃ (x : V) (h b : Nat) (d : Hs), vs = [x, .int (h : Nat), .int (b : Nat)] ∧ Dp K H x (stD d) ∧ b < d.bs.length ∧ Ls d ∧ h ≤ 1000 ∧ b ≤ 1000 ∧
  (whereD d (.box, b) ≠ some (.hand, (h : Int)) → Rp XH H E) ∧ (whereD d (.box, b) = some (.hand, (h : Int)) → (Wd.box, (b : Int)) ∉ d.ss → Rp XN H E) ∧ (whereD d (.box, b) = some (.hand, (h : Int)) → (Wd.box, (b : Int)) ∈ d.ss → ∀ v H', Same H H' → Dp K H' v (stD (setD d (.sl, onIx d b) (.gone, 0))) → Q v H')
theorem scBreak : FnScope ["state", "hand", "box", "seal"] ["state", "hand", "box"] (defScope sBreak) := ⟨rfl, rfl, rfl, by decide +kernel, rfl, by decide +kernel, by decide +kernel⟩
theorem ok_break {f g g2 g3 XH XN : Addr} {fd fdg fdg2 fdg3 : FuncData} (F : Fun K "state_behind_break" "state_behind_break" sBreak f fd) (N : HeldF P w K mg base XH g fdg) (O : OnF P w K mg base g2 fdg2) (W : WithF P w K mg base g3 fdg3) (X1 : PErr K mg "NotSealed" XN) :
    FnOk P w K mg base (L2.CX P w) 3 f fd ["state", "hand", "box"] (spBreak K XH XN) := by
  refine F.okX scBreak (fun vs H Q E h => ?_) (fun cdv A outer s H vs Q E hr h => ?_)
  · obtain ⟨x, h, b, d, rfl, _⟩ := h
    rfl
  · obtain ⟨x, h, b, d, rfl, hx, hb, hL, h1, h2, kH, kS, kQ⟩ := h
    have hr1 : Room 1 _ := hr.mono (by decide)
    have tk : Takes (cxOf (L2.CX P w) P w K mg base ["state", "hand", "box", "seal"] "state_behind_break" (defScope sBreak) f cdv A outer s H E) (fun cls d _ H => E cls d H) := takes_of rfl rfl rfl rfl
    refine ⟨_, pss_cons (ps_expr (pe_call N.G hr rfl N.m N.k N.b .nil (passes_call tk (fun _ _ _ _ h => h)) (pa_cons (pv 0) (pa_cons (pv 1) (pa_cons (pe_tup (pa_cons pe_str (pa_cons (pv 2) pa_nil))) pa_nil)))))
      (pss_cons (ps_set (i := 3) scBreak.nd rfl (.inl rfl) (pe_call O.G hr1 rfl O.m O.k O.b .nil pass0 (pa_cons (pv 0) (pa_cons (pv 2) pa_nil))))
      (pss_cons (ps_if (pt_cmp (pc_isN (pv 3)))
      (pss_one (ps_raise rfl tk (SkE.pmk_own1 PySem.F.excBase_ValueError X1.ex X1.mg X1.kp (raises_own X1.sb X1.ty) rfl (pe_joined (.cons pe_str (.cons (pe_fmt (pv 2)) (.cons pe_str .nil))))))) pss_nil)
      (pss_one (ps_ret (pe_call W.G hr1 rfl W.m W.k W.b .nil pass0 (pa_cons (pv 0) (pa_cons (pe_tup (pa_cons pe_str (pa_cons (pv 3) pa_nil))) (pa_cons (pe_tup (pa_cons pe_str (pa_cons pe_int pa_nil))) pa_nil)))))))), ?_⟩
    obtain ⟨q, hq⟩ := where_box hb
    refine ⟨_, rfl, _, rfl, _, rfl, (by show 2 ≤ sizeLine; decide), fun t ht => ?_⟩
    have f1 := same_upd (o := HO.tup [.str ("box" : Str), .int (b : Nat)]) ht
    have dt : Dp K (L2.upd H t (.tup [.str ("box" : Str), .int (b : Nat)])) (.ref t) (itP (.box, b)) := .tup (SqT.of upd_same) (.cons (.str _) (.cons (.int _) .nil))
    generalize L2.upd H t (.tup [.str ("box" : Str), .int (b : Nat)]) = H1 at *
    refine ⟨x, .ref t, h, d, (.box, b), q, rfl, Dp.same f1 _ _ hx, dt, hq, h1, h2, fun c => (kH (by rw [hq]; exact fun z => c (Option.some.inj z))).same f1, fun c H2 e2 => ?_⟩
    have hq' : whereD d (.box, b) = some (.hand, (h : Int)) := by rw [hq, c]
    have e12 := f1.trans e2
    have l5 := sizeLine_eq
    have l1 : (Str.empty : Str).length = 0 := rfl
    have l2 : ("box " : Str).length = 4 := by decide +kernel
    have l4 : (" has no seal" : Str).length = 12 := by decide +kernel
    have l3 := digits_small (i := (b : Nat)) (by omega) (by omega)
    refine ⟨_, rfl, _, rfl, x, b, d, rfl, Dp.same e12 _ _ hx, fun hin H3 e3 => ?_, fun hno H3 e3 => ?_⟩
    · obtain ⟨⟨z, hz1, hz2⟩, _⟩ := on_some hin
      have e13 := e12.trans e3
      refine ⟨_, rfl, _, rfl, iteF ⟨_, rfl, _, rfl, (by show 2 ≤ sizeLine; decide), fun t1 ht1 => ⟨(by show 2 ≤ sizeLine; decide), fun t2 ht2 => ?_⟩⟩⟩
      have f2 := same_upd (o := HO.tup [.str ("seal" : Str), .int (onIx d b : Nat)]) ht1
      have f3 := same_upd (o := HO.tup [.str ("gone" : Str), .int 0]) ht2
      have e15 := (e13.trans f2).trans f3
      exact ⟨x, .ref t1, .ref t2, d, (.sl, onIx d b), (.gone, 0), rfl, Dp.same e15 _ _ hx, .tup (SqT.of (f3 _ _ upd_same)) (.cons (.str _) (.cons (.int _) .nil)), .tup (SqT.of upd_same) (.cons (.str _) (.cons (.int _) .nil)), where_lt (q := z) hz1, hL, fun v H' e dv => kQ hq' hin v H' (e15.trans e) dv⟩
    · exact ⟨_, rfl, _, rfl, iteT ⟨_, rfl, by rw [str_app]; omega, _, rfl, .inr ⟨_, rfl, log2_small (by omega) (by omega), _, rfl, by rw [str_app, str_app]; omega, _, rfl, by rw [str_app, str_app, str_app]; omega, kS hq' hno _ (e12.trans e3)⟩⟩⟩
structure BreakF (P : Program) (w : World) (K : PySem.W.Frag) (mg : Str → Option Value) (base : Heap) (XH XN g : Addr) (fd : FuncData) : Prop where
  G : FnOk P w K mg base (L2.CX P w) 3 g fd ["state", "hand", "box"] (spBreak K XH XN)
  m : mg "state_behind_break" = some (.ref g)
  k : PySem.W.keepIn K (.ref g) = true
  b : Binds K fd ["state", "hand", "box"] []
end
end Kw


set_option Elab.async false
set_option linter.all false
set_option maxRecDepth 100000
set_option maxHeartbeats 4000000
namespace Kw
open PySem PySem.Spec PyProof.Rows L2
theorem mGo_hit {w0 : Str} {rest : List V} {D : Ends} {σ : L2.St} {H : Hp} {c : MCase} {cs : List MCase} (h1 : c.slots.length = rest.length) (h2 : c.word = w0) (h : c.body D (setAll c.slots rest σ) H) : mGo w0 rest D σ H (c :: cs) := by
  show (if c.slots.length = rest.length ∧ c.word = w0 then _ else _)
  rw [if_pos ⟨h1, h2⟩]
  exact h
theorem mGo_miss {w0 : Str} {rest : List V} {D : Ends} {σ : L2.St} {H : Hp} {c : MCase} {cs : List MCase} (h2 : ¬ c.word = w0) (h : mGo w0 rest D σ H cs) : mGo w0 rest D σ H (c :: cs) := by
  show (if c.slots.length = rest.length ∧ c.word = w0 then _ else _)
  rw [if_neg (fun z => h2 z.2)]
  exact h
section
variable {P : Program} {w : World} {K : PySem.W.Frag} {mg : Str → Option Value} {base : Heap}
/-! ### state_behind -/
/-- the errors by their names -/
def spBehind (K : PySem.W.Frag) (ce : Str → Addr) : Sp := fun vs H Q E => ∃ (x y : V) (d : Hs) (e : Dd), vs = [x, y] ∧ Dp K H x (stD d) ∧ Dp K H y (ddD e) ∧ Kn d e ∧ Sm e ∧ Ls d ∧
  (∀ z, barOf d e = z → z ≠ "" → Rp (ce z) H E) ∧ (barOf d e = "" → ∀ v H', Same H H' → Dp K H' v (stD (nextOf d e)) → Q v H')
theorem scBehind : FnScope ["state", "deed", "hand", "item", "other", "box", "seal"] ["state", "deed"] (defScope sBehind) := ⟨rfl, rfl, rfl, by decide +kernel, rfl, by decide +kernel, by decide +kernel⟩
theorem nb1 : ("NotHeld" : Str) ≠ "" := by decide +kernel
theorem nb2 : ("IsSealed" : Str) ≠ "" := by decide +kernel
theorem nb3 : ("NotInside" : Str) ≠ "" := by decide +kernel
theorem nb4 : ("NotSealed" : Str) ≠ "" := by decide +kernel
theorem ok_behind {f gH gR gW gL gZ : Addr} {fd fdH fdR fdW fdL fdZ : FuncData} {ce : Str → Addr} (F : Fun K "state_behind" "state_behind" sBehind f fd) (N : HeldF P w K mg base (ce "NotHeld") gH fdH) (R : BareF P w K mg base (ce "NotHeld") (ce "IsSealed") gR fdR) (W : WithF P w K mg base gW fdW) (L : PlF P w K mg base gL fdL)
    (Z : BreakF P w K mg base (ce "NotHeld") (ce "NotSealed") gZ fdZ) (X1 : PErr K mg "NotInside" (ce "NotInside")) :
    FnOk P w K mg base (L2.CX P w) 4 f fd ["state", "deed"] (spBehind K ce) := by
  refine F.okX scBehind (fun vs H Q E h => ?_) (fun cdv A outer s H vs Q E hr h => ?_)
  · obtain ⟨x, y, d, e, rfl, _⟩ := h
    rfl
  · obtain ⟨x, y, d, e, rfl, hx, hy, hk, hm, hL, kE, kQ⟩ := h
    have hr1 : Room 1 _ := hr.mono (by decide)
    have hr2 : Room 2 _ := hr.mono (by decide)
    have hr3 : Room 3 _ := hr
    have tk : Takes (cxOf (L2.CX P w) P w K mg base ["state", "deed", "hand", "item", "other", "box", "seal"] "state_behind" (defScope sBehind) f cdv A outer s H E) (fun cls d _ H => E cls d H) := takes_of rfl rfl rfl rfl
    have hu : (cxOf (L2.CX P w) P w K mg base ["state", "deed", "hand", "item", "other", "box", "seal"] "state_behind" (defScope sBehind) f cdv A outer s H E).A.units + 64 < cLine := by have := hr.un; show (A.deeper _).units + 64 < cLine; omega
    refine ⟨_, (pss_cons (ps_match rfl scBehind.nd (pv 1) (.cons (.name (i := 2) rfl rfl (.name (i := 3) rfl rfl (.name (i := 4) rfl rfl .nil))) (pss_cons (ps_expr (pe_call N.G hr2 rfl N.m N.k N.b .nil (passes_call tk (fun _ _ _ _ h => h)) (pa_cons (pv 0) (pa_cons (pv 2) (pa_cons (pv 3) pa_nil)))))
        (pss_one (ps_ret (pe_call W.G hr1 rfl W.m W.k W.b .nil pass0 (pa_cons (pv 0) (pa_cons (pv 3) (pa_cons (pe_tup (pa_cons pe_str (pa_cons (pv 4) pa_nil))) pa_nil)))))))
      (.cons (.name (i := 2) rfl rfl (.name (i := 3) rfl rfl (.name (i := 5) rfl rfl .nil))) (pss_cons (ps_expr (pe_call N.G hr2 rfl N.m N.k N.b .nil (passes_call tk (fun _ _ _ _ h => h)) (pa_cons (pv 0) (pa_cons (pv 2) (pa_cons (pv 3) pa_nil)))))
        (pss_cons (ps_expr (pe_call R.G hr3 rfl R.m R.k R.b .nil (passes_call tk (fun _ _ _ _ h => h)) (pa_cons (pv 0) (pa_cons (pv 2) (pa_cons (pv 5) pa_nil)))))
        (pss_one (ps_ret (pe_call W.G hr1 rfl W.m W.k W.b .nil pass0 (pa_cons (pv 0) (pa_cons (pv 3) (pa_cons (pe_tup (pa_cons pe_str (pa_cons (pv 5) pa_nil))) pa_nil))))))))
      (.cons (.name (i := 2) rfl rfl (.name (i := 3) rfl rfl (.name (i := 5) rfl rfl .nil))) (pss_cons (ps_expr (pe_call R.G hr3 rfl R.m R.k R.b .nil (passes_call tk (fun _ _ _ _ h => h)) (pa_cons (pv 0) (pa_cons (pv 2) (pa_cons (pv 5) pa_nil)))))
        (pss_cons (ps_if (pt_cmpR (op_neD hu) (pe_call L.G hr1 rfl L.m L.k L.b .nil pass0 (pa_cons (pv 0) (pa_cons (pv 3) pa_nil))) (pe_tup (pa_cons pe_str (pa_cons (pv 5) pa_nil))) (nomark _)) (pss_one (ps_raise rfl tk (SkE.pmk_own1 PySem.F.excBase_ValueError X1.ex X1.mg X1.kp (raises_own X1.sb X1.ty) rfl (pe_joined (.cons (pe_fmtI hr1 (pv 3)) (.cons pe_str (.cons (pe_fmt (pv 5)) .nil))))))) pss_nil)
        (pss_one (ps_ret (pe_call W.G hr1 rfl W.m W.k W.b .nil pass0 (pa_cons (pv 0) (pa_cons (pv 3) (pa_cons (pe_tup (pa_cons pe_str (pa_cons (pv 2) pa_nil))) pa_nil))))))))
      (.cons (.name (i := 2) rfl rfl (.name (i := 5) rfl rfl (.name (i := 6) rfl rfl .nil))) (pss_cons (ps_expr (pe_call N.G hr2 rfl N.m N.k N.b .nil (passes_call tk (fun _ _ _ _ h => h)) (pa_cons (pv 0) (pa_cons (pv 2) (pa_cons (pe_tup (pa_cons pe_str (pa_cons (pv 6) pa_nil))) pa_nil)))))
        (pss_cons (ps_expr (pe_call R.G hr3 rfl R.m R.k R.b .nil (passes_call tk (fun _ _ _ _ h => h)) (pa_cons (pv 0) (pa_cons (pv 2) (pa_cons (pv 5) pa_nil)))))
        (pss_one (ps_ret (pe_call W.G hr1 rfl W.m W.k W.b .nil pass0 (pa_cons (pv 0) (pa_cons (pe_tup (pa_cons pe_str (pa_cons (pv 6) pa_nil))) (pa_cons (pe_tup (pa_cons pe_str (pa_cons (pv 5) pa_nil))) pa_nil))))))))
      .nil)))))
      (pss_one (ps_ret (pe_call Z.G hr3 rfl Z.m Z.k Z.b .nil (passes_call tk (fun _ _ _ _ h => h)) (pa_cons (pv 0) (pa_cons (pe_ix ix_tup (pv 1) pe_int (fun _ _ => rfl)) (pa_cons (pe_ix ix_tup (pv 1) pe_int (fun _ _ => rfl)) pa_nil))))))), ?_⟩
    obtain ⟨yd, vs, rfl, sy, dvs⟩ := dd_at hy
    have kH : ∀ z, barOf d e = z → z ≠ "" → Rp (ce z) H E := kE
    have tl : ∀ (H1 : Hp) (t : Addr) (wd : Wd) (n : Nat), H1 t = none → Dp K (L2.upd H1 t (.tup [.str wd.str, .int (n : Nat)])) (.ref t) (plD (wd, (n : Int))) := fun H1 t wd n h => .tup (SqT.of upd_same) (.cons (.str _) (.cons (.int _) .nil))
    refine ⟨_, rfl, yd, e.word, _, rfl, sy, ?_⟩
    cases e with
    | give h p o =>
      obtain ⟨m1, m2, m3⟩ := hm
      cases dvs with
      | cons dp r =>
      cases r with
      | cons do_ r =>
      cases r
      cases do_
      obtain ⟨q, hq⟩ := Option.isSome_iff_exists.mp (show (whereD d p).isSome from hk)
      have eb : barOf d (.give h p o) = if q = (.hand, (h : Int)) then ("" : Str) else ("NotHeld" : Str) := by
        simp only [barOf, hq, Option.some.injEq]
      dsimp only [Dd.word, Dd.hand] at *
      refine mGo_hit rfl rfl ?_
      refine ⟨_, rfl, _, rfl, _, rfl, x, _, h, d, p, q, rfl, hx, dp, hq, m1, m2, fun c => kE _ (by rw [eb, if_neg c]) nb1, fun c H1 e1 => ?_⟩
      refine ⟨_, rfl, _, rfl, _, rfl, (by show 2 ≤ sizeLine; decide), fun t ht => ?_⟩
      have f1 := same_upd (o := HO.tup [.str ("hand" : Str), .int (o : Nat)]) ht
      have e2 := e1.trans f1
      exact ⟨x, _, .ref t, d, p, (.hand, (o : Int)), rfl, Dp.same e2 _ _ hx, Dp.same e2 _ _ dp, tl _ t .hand o ht, where_lt hq, hL, fun v H' e dv => kQ (by rw [eb, if_pos c]) v H' (e2.trans e) dv⟩
    | put h p b =>
      obtain ⟨m1, m2, m3⟩ := hm
      obtain ⟨hk1, hb⟩ := hk
      cases dvs with
      | cons dp r =>
      cases r with
      | cons do_ r =>
      cases r
      cases do_
      obtain ⟨q, hq⟩ := Option.isSome_iff_exists.mp hk1
      dsimp only [Dd.word, Dd.hand] at *
      refine mGo_miss (by dsimp only; decide +kernel) (mGo_hit rfl rfl ?_)
      by_cases c0 : ¬ q = (.hand, (h : Int))
      · -- the item is not held: what comes first does not matter
        refine ⟨_, rfl, _, rfl, _, rfl, x, _, h, d, p, q, rfl, hx, dp, hq, m1, m2, fun c => kE _ ?_ nb1, fun c => absurd c c0⟩
        simp only [barOf, hq, Option.some.injEq, if_neg c0]
        split <;> rfl
      have c0 := Classical.not_not.mp c0
      refine ⟨_, rfl, _, rfl, _, rfl, x, _, h, d, p, q, rfl, hx, dp, hq, m1, m2, fun c => absurd c0 c, fun c H1 e1 => ?_⟩
      refine ⟨_, rfl, _, rfl, _, rfl, x, h, b, d, rfl, Dp.same e1 _ _ hx, hb, m1, m3, fun z => (kE _ ?_ nb1).same e1, fun z1 z2 => (kE _ ?_ nb2).same e1, fun z1 z2 H2 e2 => ?_⟩
      · simp only [barOf, if_neg z]
      · simp only [barOf, if_pos z1, hq, Option.some.injEq, if_pos c0, if_pos z2]
      have e12 := e1.trans e2
      refine ⟨_, rfl, _, rfl, _, rfl, (by show 2 ≤ sizeLine; decide), fun t ht => ?_⟩
      have f1 := same_upd (o := HO.tup [.str ("box" : Str), .int (b : Nat)]) ht
      have e3 := e12.trans f1
      refine ⟨x, _, .ref t, d, p, (.box, (b : Int)), rfl, Dp.same e3 _ _ hx, Dp.same e3 _ _ dp, tl _ t .box b ht, where_lt hq, hL, fun v H' e dv => kQ ?_ v H' (e3.trans e) dv⟩
      simp only [barOf, if_pos z1, hq, Option.some.injEq, if_pos c0, if_neg z2]
    | take h p b =>
      obtain ⟨m1, m2, m3⟩ := hm
      obtain ⟨hk1, hb⟩ := hk
      cases dvs with
      | cons dp r =>
      cases r with
      | cons do_ r =>
      cases r
      cases do_
      obtain ⟨q, hq⟩ := Option.isSome_iff_exists.mp hk1
      obtain ⟨ip, rfl, sp⟩ := it_at dp
      dsimp only [Dd.word, Dd.hand] at *
      refine mGo_miss (by dsimp only; decide +kernel) (mGo_miss (by dsimp only; decide +kernel) (mGo_hit rfl rfl ?_))
      refine ⟨_, rfl, _, rfl, _, rfl, x, h, b, d, rfl, hx, hb, m1, m3, fun z => kE _ ?_ nb1, fun z1 z2 => kE _ ?_ nb2, fun z1 z2 H2 e2 => ?_⟩
      · simp only [barOf, if_neg z]
      · simp only [barOf, if_pos z1, if_pos z2]
      refine ⟨_, rfl, _, rfl, x, _, d, p, q, rfl, Dp.same e2 _ _ hx, Dp.same e2 _ _ dp, hq, fun v H3 e3 dv => ?_⟩
      refine ⟨_, rfl, (by show 2 ≤ sizeLine; decide), fun t ht => ?_⟩
      have f1 := same_upd (o := HO.tup [.str ("box" : Str), .int (b : Nat)]) ht
      refine ⟨plD q, plD (.box, (b : Int)), Dp.same f1 _ _ dv, tl _ t .box b ht, shaped_pl _, shaped_pl _, _, rfl, ?_⟩
      rw [eqv_pl]
      have e4 := (e2.trans e3).trans f1
      by_cases c : q = (.box, (b : Int))
      · rw [decide_eq_true c]
        refine iteF ⟨_, rfl, _, rfl, _, rfl, (by show 2 ≤ sizeLine; decide), fun t2 ht2 => ?_⟩
        have f2 := same_upd (o := HO.tup [.str ("hand" : Str), .int (h : Nat)]) ht2
        have e5 := e4.trans f2
        refine ⟨x, _, .ref t2, d, p, (.hand, (h : Int)), rfl, Dp.same e5 _ _ hx, Dp.same e5 _ _ dp, tl _ t2 .hand h ht2, where_lt hq, hL, fun v H' e dv => kQ ?_ v H' (e5.trans e) dv⟩
        simp only [barOf, if_pos z1, if_neg z2, hq, Option.some.injEq, if_pos c]
      · rw [decide_eq_false c]
        have l5 := sizeLine_eq
        have l1 : (Str.empty : Str).length = 0 := rfl
        have l2 : (" is not straight in box " : Str).length = 24 := by decide +kernel
        have l3 := digits_small (i := (b : Nat)) (by omega) (by omega)
        refine iteT ⟨_, rfl, ip, _, _, rfl, SqT.same e4 sp, (kd_len _).1, (kd_len _).2, by omega, by omega, fun m hm => ⟨_, rfl, by rw [str_app]; omega, _, rfl, by rw [str_app, str_app]; omega, _, rfl, .inr ⟨_, rfl, log2_small (by omega) (by omega), _, rfl, by rw [str_app, str_app, str_app]; omega, kE _ ?_ nb3 _ e4⟩⟩⟩
        simp only [barOf, if_pos z1, if_neg z2, hq, Option.some.injEq, if_neg c]
    | lock h b s =>
      obtain ⟨m1, m2, m3⟩ := hm
      obtain ⟨hb, hsl⟩ := hk
      cases dvs with
      | cons dp r =>
      cases r with
      | cons do_ r =>
      cases r
      cases do_
      cases dp
      obtain ⟨q, hq⟩ : ∃ q, d.ss[s]? = some q := ⟨_, List.getElem?_eq_getElem hsl⟩
      have hq' : whereD d (.sl, s) = some q := hq
      dsimp only [Dd.word, Dd.hand] at *
      refine mGo_miss (by dsimp only; decide +kernel) (mGo_miss (by dsimp only; decide +kernel) (mGo_miss (by dsimp only; decide +kernel) (mGo_hit rfl rfl ?_)))
      refine ⟨_, rfl, _, rfl, _, rfl, (by show 2 ≤ sizeLine; decide), fun t1 ht1 => ?_⟩
      have f1 := same_upd (o := HO.tup [.str ("seal" : Str), .int (s : Nat)]) ht1
      have ds : Dp K (L2.upd H t1 (.tup [.str ("seal" : Str), .int (s : Nat)])) (.ref t1) (itP (.sl, s)) := .tup (SqT.of upd_same) (.cons (.str _) (.cons (.int _) .nil))
      by_cases c0 : ¬ q = (.hand, (h : Int))
      · refine ⟨x, .ref t1, h, d, (.sl, s), q, rfl, Dp.same f1 _ _ hx, ds, hq', m1, m3, fun c => (kE _ ?_ nb1).same f1, fun c => absurd c c0⟩
        simp only [barOf, hq, Option.some.injEq, if_neg c0]
        split <;> rfl
      have c0 := Classical.not_not.mp c0
      refine ⟨x, .ref t1, h, d, (.sl, s), q, rfl, Dp.same f1 _ _ hx, ds, hq', m1, m3, fun c => absurd c0 c, fun c H1 e1 => ?_⟩
      have e1 := f1.trans e1
      refine ⟨_, rfl, _, rfl, _, rfl, x, h, b, d, rfl, Dp.same e1 _ _ hx, hb, m1, m2, fun z => (kE _ ?_ nb1).same e1, fun z1 z2 => (kE _ ?_ nb2).same e1, fun z1 z2 H2 e2 => ?_⟩
      · simp only [barOf, if_neg z]
      · simp only [barOf, if_pos z1, hq, Option.some.injEq, if_pos c0, if_pos z2]
      have e12 := e1.trans e2
      refine ⟨_, rfl, _, rfl, (by show 2 ≤ sizeLine; decide), fun t2 ht2 => ?_⟩
      have f2 := same_upd (o := HO.tup [.str ("seal" : Str), .int (s : Nat)]) ht2
      have ds2 : Dp K (L2.upd H2 t2 (.tup [.str ("seal" : Str), .int (s : Nat)])) (.ref t2) (itP (.sl, s)) := .tup (SqT.of upd_same) (.cons (.str _) (.cons (.int _) .nil))
      refine ⟨_, rfl, (by show 2 ≤ sizeLine; decide), fun t ht => ?_⟩
      have f3 := same_upd (o := HO.tup [.str ("box" : Str), .int (b : Nat)]) ht
      have e3 := (e12.trans f2).trans f3
      refine ⟨x, .ref t2, .ref t, d, (.sl, s), (.box, (b : Int)), rfl, Dp.same e3 _ _ hx, Dp.same f3 _ _ ds2, tl _ t .box b ht, hsl, hL, fun v H' e dv => kQ ?_ v H' (e3.trans e) dv⟩
      simp only [barOf, if_pos z1, hq, Option.some.injEq, if_pos c0, if_neg z2]
    | brk h b =>
      obtain ⟨m1, m2⟩ := hm
      have hb : b < d.bs.length := hk
      cases dvs with
      | cons dp r =>
      cases r
      cases dp
      dsimp only [Dd.word, Dd.hand] at *
      refine mGo_miss (by dsimp only; decide +kernel) (mGo_miss (by dsimp only; decide +kernel) (mGo_miss (by dsimp only; decide +kernel) (mGo_miss (by dsimp only; decide +kernel) ?_)))
      refine ⟨_, rfl, _, rfl, yd, _, 1, _, rfl, rfl, sy, rfl, _, rfl, yd, _, 2, _, rfl, rfl, sy, rfl, x, h, b, d, rfl, hx, hb, hL, m1, m2, fun z => kE _ ?_ nb1, fun z1 z2 => kE _ ?_ nb4, fun z1 z2 v H' e dv => kQ ?_ v H' e dv⟩
      · simp only [barOf, if_neg z]
      · simp only [barOf, if_pos z1, if_neg z2]
      · simp only [barOf, if_pos z1, if_pos z2]
/-! ### need_move, need_deed -/
structure NLoadF (P : Program) (w : World) (K : PySem.W.Frag) (mg : Str → Option Value) (base : Heap) (C X g : Addr) (fd : FuncData) : Prop where
  G : FnOk P w K mg base (L2.CX P w) 3 g fd ["house", "item"] (spNLoad K C X)
  m : mg "need_load" = some (.ref g)
  k : PySem.W.keepIn K (.ref g) = true
  b : Binds K fd ["house", "item"] []
structure NItemF (P : Program) (w : World) (K : PySem.W.Frag) (mg : Str → Option Value) (base : Heap) (C X g : Addr) (fd : FuncData) : Prop where
  G : FnOk P w K mg base (L2.CX P w) 3 g fd ["house", "item"] (spNItem K C X)
  m : mg "need_item" = some (.ref g)
  k : PySem.W.keepIn K (.ref g) = true
  b : Binds K fd ["house", "item"] []
structure NHandF (P : Program) (w : World) (K : PySem.W.Frag) (mg : Str → Option Value) (base : Heap) (C X g : Addr) (fd : FuncData) : Prop where
  G : FnOk P w K mg base (L2.CX P w) 2 g fd ["house", "hand"] (spNHand K C X)
  m : mg "need_hand" = some (.ref g)
  k : PySem.W.keepIn K (.ref g) = true
  b : Binds K fd ["house", "hand"] []
structure NBoxF (P : Program) (w : World) (K : PySem.W.Frag) (mg : Str → Option Value) (base : Heap) (C X g : Addr) (fd : FuncData) : Prop where
  G : FnOk P w K mg base (L2.CX P w) 2 g fd ["house", "box"] (spNBox K C X)
  m : mg "need_box" = some (.ref g)
  k : PySem.W.keepIn K (.ref g) = true
  b : Binds K fd ["house", "box"] []
structure NSealF (P : Program) (w : World) (K : PySem.W.Frag) (mg : Str → Option Value) (base : Heap) (C X g : Addr) (fd : FuncData) : Prop where
  G : FnOk P w K mg base (L2.CX P w) 2 g fd ["house", "seal"] (spNSeal K C X)
  m : mg "need_seal" = some (.ref g)
  k : PySem.W.keepIn K (.ref g) = true
  b : Binds K fd ["house", "seal"] []
def mvOf (d : Hs) (p : It) (b : Nat) : Str := if ¬ inH d p ∨ p.1 = .sl then "UnknownItem" else if d.bs.length ≤ b then "UnknownBox" else if p = (.box, b) then "InsideItself" else ""
def spNMove (K : PySem.W.Frag) (C : Addr) (ce : Str → Addr) : Sp := fun vs H Q E => ∃ (h : Addr) (y : V) (p : It) (b : Nat) (d : Hs), vs = [.ref h, y, .int (b : Nat)] ∧ HouseAt K C H h d ∧ Dp K H y (itP p) ∧ p.2 ≤ 1000 ∧ b ≤ 1000 ∧
  (∀ z, mvOf d p b = z → z ≠ "" → Rp (ce z) H E) ∧ (mvOf d p b = "" → ∀ H', Same H H' → Q .non H')
theorem scNMove : FnScope ["house", "item", "box"] ["house", "item", "box"] (defScope sNMove) := ⟨rfl, rfl, rfl, by decide +kernel, rfl, by decide +kernel, by decide +kernel⟩
theorem ok_nmove {f g1 g2 C : Addr} {fd fd1 fd2 : FuncData} {ce : Str → Addr} (F : Fun K "need_move" "need_move" sNMove f fd) (NL : NLoadF P w K mg base C (ce "UnknownItem") g1 fd1) (NB : NBoxF P w K mg base C (ce "UnknownBox") g2 fd2) (X1 : PErr K mg "InsideItself" (ce "InsideItself")) :
    FnOk P w K mg base (L2.CX P w) 4 f fd ["house", "item", "box"] (spNMove K C ce) := by
  refine F.okX scNMove (fun vs H Q E h => ?_) (fun cdv A outer s H vs Q E hr h => ?_)
  · obtain ⟨h, y, p, b, d, rfl, _⟩ := h
    rfl
  · obtain ⟨h, y, p, b, d, rfl, hh, hy, m1, m2, kE, kQ⟩ := h
    have hr2 : Room 2 _ := hr.mono (by decide)
    have hr3 : Room 3 _ := hr
    have tk : Takes (cxOf (L2.CX P w) P w K mg base ["house", "item", "box"] "need_move" (defScope sNMove) f cdv A outer s H E) (fun cls d _ H => E cls d H) := takes_of rfl rfl rfl rfl
    have hu : (cxOf (L2.CX P w) P w K mg base ["house", "item", "box"] "need_move" (defScope sNMove) f cdv A outer s H E).A.units + 64 < cLine := by have := hr.un; show (A.deeper _).units + 64 < cLine; omega
    refine ⟨_, (pss_cons (ps_expr (pe_call NL.G hr3 rfl NL.m NL.k NL.b .nil (passes_call tk (fun _ _ _ _ h => h)) (pa_cons (pv 0) (pa_cons (pv 1) pa_nil))))
        (pss_cons (ps_expr (pe_call NB.G hr2 rfl NB.m NB.k NB.b .nil (passes_call tk (fun _ _ _ _ h => h)) (pa_cons (pv 0) (pa_cons (pv 2) pa_nil))))
        (pss_one (ps_if (pt_cmpR (op_eqD hu) (pv 1) (pe_tup (pa_cons pe_str (pa_cons (pv 2) pa_nil))) (nomark _)) (pss_one (ps_raise rfl tk (SkE.pmk_own1 PySem.F.excBase_ValueError X1.ex X1.mg X1.kp (raises_own X1.sb X1.ty) rfl (pe_joined (.cons pe_str (.cons (pe_fmt (pv 2)) (.cons pe_str .nil))))))) pss_nil)))), ?_⟩
    refine ⟨_, rfl, _, rfl, h, y, p, d, rfl, hh, hy, m1, fun z => kE _ (by unfold mvOf; rw [if_pos z]) ne_e2, fun z => ?_⟩
    refine ⟨_, rfl, _, rfl, h, b, d, rfl, hh, m2, fun z2 => kE _ (by unfold mvOf; rw [if_neg z, if_pos z2]) ne_e3, fun z2 => ?_⟩
    refine ⟨_, rfl, _, rfl, (by show 2 ≤ sizeLine; decide), fun t ht => ?_⟩
    have f1 := same_upd (o := HO.tup [.str ("box" : Str), .int (b : Nat)]) ht
    refine ⟨itP p, itP (.box, b), Dp.same f1 _ _ hy, .tup (SqT.of upd_same) (.cons (.str _) (.cons (.int _) .nil)), shaped_it _, shaped_it _, _, rfl, ?_⟩
    rw [eqv_it]
    have z3 : ¬ d.bs.length ≤ b := by omega
    by_cases c : p = (.box, b)
    · rw [decide_eq_true c]
      have l5 := sizeLine_eq
      have l1 : (Str.empty : Str).length = 0 := rfl
      have l2 : ("box " : Str).length = 4 := by decide +kernel
      have l4 : (" cannot be inside itself" : Str).length = 24 := by decide +kernel
      have l3 := digits_small (i := (b : Nat)) (by omega) (by omega)
      exact iteT ⟨_, rfl, by rw [str_app]; omega, _, rfl, .inr ⟨_, rfl, log2_small (by omega) (by omega), _, rfl, by rw [str_app, str_app]; omega, _, rfl, by rw [str_app, str_app, str_app]; omega, kE _ (by unfold mvOf; rw [if_neg z, if_neg z3, if_pos c]) ne_e4 _ f1⟩⟩
    · rw [decide_eq_false c]
      exact iteF (kQ (by unfold mvOf; rw [if_neg z, if_neg z3, if_neg c]) _ f1)
structure NMoveF (P : Program) (w : World) (K : PySem.W.Frag) (mg : Str → Option Value) (base : Heap) (C : Addr) (ce : Str → Addr) (g : Addr) (fd : FuncData) : Prop where
  G : FnOk P w K mg base (L2.CX P w) 4 g fd ["house", "item", "box"] (spNMove K C ce)
  m : mg "need_move" = some (.ref g)
  k : PySem.W.keepIn K (.ref g) = true
  b : Binds K fd ["house", "item", "box"] []
def spNDeed (K : PySem.W.Frag) (C : Addr) (ce : Str → Addr) : Sp := fun vs H Q E => ∃ (h : Addr) (y : V) (e : Dd) (d : Hs), vs = [.ref h, y] ∧ HouseAt K C H h d ∧ Dp K H y (ddD e) ∧ Sm e ∧
  (∀ z, unkOf d e = z → z ≠ "" → Rp (ce z) H E) ∧ (unkOf d e = "" → ∀ H', Same H H' → Q .non H')
theorem scNDeed : FnScope ["house", "deed", "hand", "item", "other", "box", "seal"] ["house", "deed"] (defScope sNDeed) := ⟨rfl, rfl, rfl, by decide +kernel, rfl, by decide +kernel, by decide +kernel⟩
theorem sm_hand {e : Dd} (h : Sm e) : e.hand ≤ 1000 := by cases e <;> exact h.1
theorem ok_ndeed {f gI gH gM gB gS C : Addr} {fd fdI fdH fdM fdB fdS : FuncData} {ce : Str → Addr} (F : Fun K "need_deed" "need_deed" sNDeed f fd) (NI : NItemF P w K mg base C (ce "UnknownItem") gI fdI) (NH : NHandF P w K mg base C (ce "UnknownHand") gH fdH) (NM : NMoveF P w K mg base C ce gM fdM)
    (NB : NBoxF P w K mg base C (ce "UnknownBox") gB fdB) (NS : NSealF P w K mg base C (ce "UnknownSeal") gS fdS) (X1 : PErr K mg "UnknownHand" (ce "UnknownHand")) :
    FnOk P w K mg base (L2.CX P w) 5 f fd ["house", "deed"] (spNDeed K C ce) := by
  refine F.okX scNDeed (fun vs H Q E h => ?_) (fun cdv A outer s H vs Q E hr h => ?_)
  · obtain ⟨h, y, e, d, rfl, _⟩ := h
    rfl
  · obtain ⟨h, y, e, d, rfl, hh, hy, hm, kE, kQ⟩ := h
    have hr2 : Room 2 _ := hr.mono (by decide)
    have hr3 : Room 3 _ := hr.mono (by decide)
    have hr4 : Room 4 _ := hr
    have tk : Takes (cxOf (L2.CX P w) P w K mg base ["house", "deed", "hand", "item", "other", "box", "seal"] "need_deed" (defScope sNDeed) f cdv A outer s H E) (fun cls d _ H => E cls d H) := takes_of rfl rfl rfl rfl
    refine ⟨_, (pss_cons (ps_expr (pe_call NH.G hr2 rfl NH.m NH.k NH.b .nil (passes_call tk (fun _ _ _ _ h => h)) (pa_cons (pv 0) (pa_cons (pe_ix ix_tup (pv 1) pe_int (fun _ _ => rfl)) pa_nil))))
      (pss_one (ps_match rfl scNDeed.nd (pv 1) (.cons (.name (i := 2) rfl rfl (.name (i := 3) rfl rfl (.name (i := 4) rfl rfl .nil))) (pss_cons (ps_expr (pe_call NI.G hr3 rfl NI.m NI.k NI.b .nil (passes_call tk (fun _ _ _ _ h => h)) (pa_cons (pv 0) (pa_cons (pv 3) pa_nil))))
        (pss_cons (ps_expr (pe_call NH.G hr2 rfl NH.m NH.k NH.b .nil (passes_call tk (fun _ _ _ _ h => h)) (pa_cons (pv 0) (pa_cons (pv 4) pa_nil))))
        (pss_one (ps_if (pt_cmpR op_eq (pv 2) (pv 4) (nomark _)) (pss_one (ps_raise rfl tk (SkE.pmk_own1 PySem.F.excBase_ValueError X1.ex X1.mg X1.kp (raises_own X1.sb X1.ty) rfl (pe_joined (.cons pe_str (.cons (pe_fmt (pv 2)) (.cons pe_str .nil))))))) pss_nil))))
      (.cons (.wild (.name (i := 3) rfl rfl (.name (i := 5) rfl rfl .nil))) (pss_one (ps_expr (pe_call NM.G hr4 rfl NM.m NM.k NM.b .nil (passes_call tk (fun _ _ _ _ h => h)) (pa_cons (pv 0) (pa_cons (pv 3) (pa_cons (pv 5) pa_nil))))))
      (.cons (.wild (.name (i := 3) rfl rfl (.name (i := 5) rfl rfl .nil))) (pss_one (ps_expr (pe_call NM.G hr4 rfl NM.m NM.k NM.b .nil (passes_call tk (fun _ _ _ _ h => h)) (pa_cons (pv 0) (pa_cons (pv 3) (pa_cons (pv 5) pa_nil))))))
      (.cons (.wild (.name (i := 5) rfl rfl (.name (i := 6) rfl rfl .nil))) (pss_cons (ps_expr (pe_call NB.G hr2 rfl NB.m NB.k NB.b .nil (passes_call tk (fun _ _ _ _ h => h)) (pa_cons (pv 0) (pa_cons (pv 5) pa_nil))))
        (pss_one (ps_expr (pe_call NS.G hr2 rfl NS.m NS.k NS.b .nil (passes_call tk (fun _ _ _ _ h => h)) (pa_cons (pv 0) (pa_cons (pv 6) pa_nil))))))
      (.cons (.wild (.name (i := 5) rfl rfl .nil)) (pss_one (ps_expr (pe_call NB.G hr2 rfl NB.m NB.k NB.b .nil (passes_call tk (fun _ _ _ _ h => h)) (pa_cons (pv 0) (pa_cons (pv 5) pa_nil)))))
      .nil)))))))), ?_⟩
    obtain ⟨yd, vs, rfl, sy, dvs⟩ := dd_at hy
    have sh := sm_hand hm
    have z1 := Same.refl H
    unfold unkOf at kE kQ
    refine ⟨_, rfl, _, rfl, yd, _, 1, _, rfl, rfl, sy, atI_nat (j := 1) rfl, h, (e.hand : Nat), d, rfl, hh, by omega, by omega, fun z => kE _ (if_pos z) ne_e1, fun z => ?_⟩
    have z' : ¬ d.hands ≤ ((e.hand : Nat) : Int) := by omega
    simp only [if_neg z'] at kE kQ
    refine ⟨_, rfl, yd, e.word, _, rfl, sy, ?_⟩
    cases e with
    | give hd p o =>
      obtain ⟨m1, m2, m3⟩ := hm
      cases dvs with
      | cons dp r =>
      cases r with
      | cons do_ r =>
      cases r
      cases do_
      dsimp only [Dd.word, Dd.hand] at *
      refine mGo_hit rfl rfl ?_
      refine ⟨_, rfl, _, rfl, h, _, p, d, rfl, hh, dp, m2, fun c => kE _ (if_pos c) ne_e2, fun c => ?_⟩
      have c' : ¬ ¬ inH d p := fun q => q c
      simp only [if_neg c'] at kE kQ
      refine ⟨_, rfl, _, rfl, h, (o : Nat), d, rfl, hh, by omega, by omega, fun c2 => kE _ (if_pos (.inl c2)) ne_e1, fun c2 => ?_⟩
      refine ⟨_, rfl, _, rfl, rfl, _, rfl, ?_⟩
      rw [decZ]
      by_cases c3 : ((hd : Nat) : Int) = ((o : Nat) : Int)
      · rw [decide_eq_true c3]
        have l5 := sizeLine_eq
        have l1 : (Str.empty : Str).length = 0 := rfl
        have l2 : ("hand " : Str).length = 5 := by decide +kernel
        have l4 : (" gives to itself" : Str).length = 16 := by decide +kernel
        have l3 := digits_small (i := (hd : Nat)) (by omega) (by omega)
        exact iteT ⟨_, rfl, by rw [str_app]; omega, _, rfl, .inr ⟨_, rfl, log2_small (by omega) (by omega), _, rfl, by rw [str_app, str_app]; omega, _, rfl, by rw [str_app, str_app, str_app]; omega, kE _ (if_pos (.inr (by omega))) ne_e1 _ z1⟩⟩
      · rw [decide_eq_false c3]
        exact iteF (kQ (if_neg fun q => q.elim (fun a => by omega) (fun a => c3 (by omega))) _ z1)
    | put hd p b =>
      obtain ⟨m1, m2, m3⟩ := hm
      cases dvs with
      | cons dp r =>
      cases r with
      | cons do_ r =>
      cases r
      cases do_
      dsimp only [Dd.word, Dd.hand] at *
      refine mGo_miss (by dsimp only; decide +kernel) (mGo_hit rfl rfl ?_)
      exact ⟨_, rfl, _, rfl, _, rfl, h, _, p, b, d, rfl, hh, dp, m2, m3, kE, kQ⟩
    | take hd p b =>
      obtain ⟨m1, m2, m3⟩ := hm
      cases dvs with
      | cons dp r =>
      cases r with
      | cons do_ r =>
      cases r
      cases do_
      dsimp only [Dd.word, Dd.hand] at *
      refine mGo_miss (by dsimp only; decide +kernel) (mGo_miss (by dsimp only; decide +kernel) (mGo_hit rfl rfl ?_))
      exact ⟨_, rfl, _, rfl, _, rfl, h, _, p, b, d, rfl, hh, dp, m2, m3, kE, kQ⟩
    | lock hd b s =>
      obtain ⟨m1, m2, m3⟩ := hm
      cases dvs with
      | cons dp r =>
      cases r with
      | cons do_ r =>
      cases r
      cases do_
      cases dp
      dsimp only [Dd.word, Dd.hand] at *
      refine mGo_miss (by dsimp only; decide +kernel) (mGo_miss (by dsimp only; decide +kernel) (mGo_miss (by dsimp only; decide +kernel) (mGo_hit rfl rfl ?_)))
      refine ⟨_, rfl, _, rfl, h, b, d, rfl, hh, m2, fun c => kE _ (if_pos c) ne_e3, fun c => ?_⟩
      have c' : ¬ d.bs.length ≤ b := by omega
      simp only [if_neg c'] at kE kQ
      exact ⟨_, rfl, _, rfl, h, s, d, rfl, hh, m3, fun c2 => kE _ (if_pos c2) ne_e5, fun c2 => kQ (if_neg (by omega)) _ z1⟩
    | brk hd b =>
      obtain ⟨m1, m2⟩ := hm
      cases dvs with
      | cons dp r =>
      cases r
      cases dp
      dsimp only [Dd.word, Dd.hand] at *
      refine mGo_miss (by dsimp only; decide +kernel) (mGo_miss (by dsimp only; decide +kernel) (mGo_miss (by dsimp only; decide +kernel) (mGo_miss (by dsimp only; decide +kernel) (mGo_hit rfl rfl ?_))))
      exact ⟨_, rfl, _, rfl, h, b, d, rfl, hh, m2, fun c => kE _ (if_pos c) ne_e3, fun c => kQ (if_neg (by omega)) _ z1⟩
end
end Kw


set_option Elab.async false
set_option linter.all false
set_option maxRecDepth 100000
set_option maxHeartbeats 4000000
namespace Kw
open PySem PySem.Spec PyProof.Rows L2
abbrev sWInit : Stmt := inClass (top 50) 0
abbrev sWCall : Stmt := inClass (top 50) 1
abbrev sWEq : Stmt := inClass (top 50) 2
abbrev sWCh : Stmt := inClass (top 50) 3
/-! ### _law_error, of any of the plain errors -/
def Known (K : PySem.W.Frag) (mg : Str → Option Value) (ce : Str → Addr) (CW : Addr) (z : Str) : Prop := ∃ j, ErrJ K mg (ce z) CW j ∧ j < 15 ∧ (j ≠ 2 ∧ j ≠ 3 ∧ j ≠ 4) ∧ nameJ j = z
def errOutG (K : PySem.W.Frag) (mg : Str → Option Value) (ce : Str → Addr) (CW : Addr) (Q : VK) : XK := fun cls d H' => ∃ z, cls = .ref (ce z) ∧ Known K mg ce CW z ∧ d = none ∧ ∀ H2, Same H' H2 → Q (.str z) H2
def TErrG (K : PySem.W.Frag) (mg : Str → Option Value) (ce : Str → Addr) (CW : Addr) : (XK → Hp → VK → Prop) → Hp → VK → Prop := fun tl H Q => tl (errOutG K mg ce CW Q) H (fun _ H' => Q (.str "") H')
/-! ### worlds -/
structure WorldC (K : PySem.W.Frag) (CW : Addr) : Prop where
  cl : Cls K CW
  nH : NoAttr K CW "house"
  nS : NoAttr K CW "state"
structure WorldAt (K : PySem.W.Frag) (CW : Addr) (H : Hp) (a h : Addr) (d : Hs) : Prop where
  ex : ∃ dx fs vst, H a = some (.ins CW dx fs) ∧ fs.lookup ("house" : Str) = some (.ref h) ∧ fs.lookup ("state" : Str) = some vst ∧ (∀ x : Str, ¬ x = "house" → ¬ x = "state" → fs.lookup x = none) ∧ fs.length ≤ 100 ∧ Dp K H vst (stD d)
theorem WorldAt.nl {K : PySem.W.Frag} {CW : Addr} {H H' : Hp} {a h : Addr} {d : Hs} (k : Nl H H') (x : WorldAt K CW H a h d) : WorldAt K CW H' a h d := by
  obtain ⟨dx, fs, vst, h0, h1, h2, h3, h4, h5⟩ := x.ex
  exact ⟨dx, fs, vst, k _ _ h0 (fun _ z => nomatch z) (fun _ z => nomatch z), h1, h2, h3, h4, Dp.nl k _ _ (noL_st _) h5⟩
theorem WorldAt.same {K : PySem.W.Frag} {CW : Addr} {H H' : Hp} {a h : Addr} {d : Hs} (k : Same H H') (x : WorldAt K CW H a h d) : WorldAt K CW H' a h d := x.nl (nl_same k)
section
variable {P : Program} {w : World} {K : PySem.W.Frag} {mg : Str → Option Value} {base : Heap}
def spWInit (K : PySem.W.Frag) (C CW : Addr) : Sp := fun vs H Q _ => ∃ (a dx h : Addr) (d : Hs), vs = [.ref a, .ref h] ∧ H a = some (.ins CW dx []) ∧ HouseAt K C H h d ∧ (∀ H', But a H H' → WorldAt K CW H' a h d → (∃ dy fs, H' a = some (.ins CW dy fs) ∧ fs.length ≤ 10) → Q .non H')
theorem scWInit : FnScope ["self", "house"] ["self", "house"] (defScope sWInit) := ⟨rfl, rfl, rfl, by decide +kernel, rfl, by decide +kernel, by decide +kernel⟩
theorem but_ins {a C dx : Addr} {fs : List (Str × V)} {H H' : Hp} (ha : H a = some (.ins C dx fs)) (b : But a H H') {v : V} {d : PyData} (hn : noL d = true) (h : Dp K H v d) : Dp K H' v d :=
  Dp.tp (fun c xs e => by
    rcases e with e | ⟨o, e⟩
    · exact .inl (b c _ e (ne_of e ha (by intro z; cases z)))
    · exact .inr ⟨o, b c _ e (ne_of e ha (by intro z; cases z))⟩) _ _ hn h
theorem ok_winit {f C CW : Addr} {fd : FuncData} (F : Fun K "__init__" "World.__init__" sWInit f fd) (T : HouseC K C) (W : WorldC K CW) : FnOk P w K mg base CX0 1 f fd ["self", "house"] (spWInit K C CW) := by
  refine F.ok scWInit (fun vs H Q E h => ?_) (fun cdv A outer s H vs Q E hr h => ?_)
  · obtain ⟨a, dx, h, d, rfl, _⟩ := h
    rfl
  · obtain ⟨a, dx, h, d, rfl, ha, hh, k⟩ := h
    refine ⟨_, pss_cons (ps_fld (pv 0) (pv 1) rfl) (pss_one (ps_fld (pv 0) (pe_fld (pv 1) rfl) rfl)), ?_⟩
    obtain ⟨dh, vb, vt, vs, vst, g0, g1, g2, g3, g4⟩ := hh.ex
    have nh : h ≠ a := fun z => by
      rw [z, ha] at g0
      have := Option.some.inj g0
      injection this with _ _ q
      have z2 := fs_hands d.hands vb vt vs vst
      rw [← q] at z2
      cases z2
    refine ⟨_, rfl, _, rfl, a, CW, dx, _, rfl, ha, W.cl, W.nH, (by show 0 < 1000; decide), ?_⟩
    refine ⟨_, rfl, h, C, dh, _, vst, rfl, by rw [upd_ne nh]; exact g0, T.cl, T.nSt, fs_state _ _ _ _ _, _, rfl, a, CW, dx, _, rfl, upd_same, W.cl, W.nS, ?_, ?_⟩
    · have a4 := length_putF "house" (.ref h) []
      have a5 : ([] : List (Str × V)).length = 0 := rfl
      omega
    rw [upd_upd]
    have bt : But a H (L2.upd H a (.ins CW dx (putF "state" vst (putF "house" (.ref h) [])))) := fun b o e ne => by rw [upd_ne ne]; exact e
    have a3 := length_putF "state" vst (putF "house" (.ref h) [])
    have a4 := length_putF "house" (.ref h) []
    have a5 : ([] : List (Str × V)).length = 0 := rfl
    refine k _ bt ⟨dx, _, vst, upd_same, ?_, ?_, ?_, by omega, but_ins ha bt (noL_st _) g4⟩ ⟨dx, _, upd_same, by omega⟩
    · rw [lookup_putF, if_neg (by decide +kernel), lookup_putF, if_pos rfl]
    · rw [lookup_putF, if_pos rfl]
    · intro x n1 n2
      rw [lookup_putF, if_neg n2, lookup_putF, if_neg n1]
      rfl
/-! ### world.changed(state) -/
structure WMk (P : Program) (w : World) (K : PySem.W.Frag) (mg : Str → Option Value) (base : Heap) (C CW g : Addr) (fd : FuncData) : Prop where
  M : Mk K CW g
  G : FnOk P w K mg base CX0 1 g fd ["self", "house"] (spWInit K C CW)
  m : mg "World" = some (.ref CW)
  b : Binds K fd ["self", "house"] []
def spWCh (K : PySem.W.Frag) (C CW : Addr) : Sp := fun vs H Q _ => ∃ (a h : Addr) (v : V) (d0 d d' : Hs), vs = [.ref a, v] ∧ WorldAt K CW H a h d ∧ HouseAt K C H h d0 ∧ Dp K H v (stD d') ∧ ∀ b H', Same H H' → H b = none → WorldAt K CW H' b h d' → Q (.ref b) H'
theorem scWCh : FnScope ["self", "state", "world"] ["self", "state"] (defScope sWCh) := ⟨rfl, rfl, rfl, by decide +kernel, rfl, by decide +kernel, by decide +kernel⟩
theorem ok_wch {f g C CW : Addr} {fd fdg : FuncData} (F : Fun K "changed" "World.changed" sWCh f fd) (W : WorldC K CW) (M : WMk P w K mg base C CW g fdg) : FnOk P w K mg base CX0 3 f fd ["self", "state"] (spWCh K C CW) := by
  refine F.ok scWCh (fun vs H Q E h => ?_) (fun cdv A outer s H vs Q E hr h => ?_)
  · obtain ⟨a, h, v, d0, d, d', rfl, _⟩ := h
    rfl
  · obtain ⟨a, h, v, d0, d, d', rfl, hw, hh, hv, k⟩ := h
    have hr2 : Room 2 _ := hr
    refine ⟨_, pss_cons (ps_set (i := 2) scWCh.nd rfl (.inl rfl) (pe_make M.M M.G hr2 rfl M.m M.b .nil pass0 (pa_cons (pe_fld (pv 0) rfl) pa_nil))) (pss_cons (ps_fld (pv 2) (pv 1) rfl) (pss_one (ps_ret (pv 2)))), ?_⟩
    obtain ⟨dx, fs, vst, g0, g1, g2, g3, g4, g5⟩ := hw.ex
    refine ⟨_, rfl, a, CW, dx, _, .ref h, rfl, g0, W.cl, W.nH, g1, fun b dy hb hdy ne => ?_⟩
    have hb' : (L2.upd H dy (.own b)) b = none := by rw [upd_ne ne.symm]; exact hb
    have e1 : Same H (L2.upd (L2.upd H dy (.own b)) b (.ins CW dy [])) := Same.upd2 (same_upd hdy) hb'
    refine ⟨b, dy, h, d0, rfl, upd_same, hh.nl (nl_same e1), fun H2 bt hw2 hl2 => ⟨rfl, ?_⟩⟩
    obtain ⟨dz, fz, vz, z0, z1, z2, z3, z4, z5⟩ := hw2.ex
    obtain ⟨dy2, fy2, y0, y1⟩ := hl2
    rw [z0] at y0
    cases y0
    have a6 := length_putF "state" v fz
    have e2 : Same H H2 := fun c o hc => bt c o (e1 c o hc) (ne_of_none hc hb)
    refine ⟨_, rfl, _, rfl, b, CW, dz, _, rfl, z0, W.cl, W.nS, by omega, _, rfl, ?_⟩
    have e3 : Same H (L2.upd H2 b (.ins CW dz (putF "state" v fz))) := fun c o hc => by rw [upd_ne (ne_of_none hc hb)]; exact e2 c o hc
    refine k b _ e3 hb ⟨dz, _, v, upd_same, ?_, ?_, ?_, by omega, Dp.same e3 _ _ hv⟩
    · rw [lookup_putF, if_neg (by decide +kernel)]
      exact z1
    · rw [lookup_putF, if_pos rfl]
    · intro x n1 n2
      rw [lookup_putF, if_neg n2]
      exact z3 x n1 n2
end
end Kw


set_option Elab.async false
set_option linter.all false
set_option maxRecDepth 100000
set_option maxHeartbeats 4000000
namespace Kw
open PySem PySem.Spec PyProof.Rows L2
/-! ### houses and states of one shape -/
structure Shp (d0 d : Hs) : Prop where
  h : d0.hands = d.hands
  r : ∀ k, (rowOf d0 k).length = (rowOf d k).length
theorem Shp.refl (d : Hs) : Shp d d := ⟨rfl, fun _ => rfl⟩
theorem Shp.trans {a b c : Hs} (x : Shp a b) (y : Shp b c) : Shp a c := ⟨x.h.trans y.h, fun k => (x.r k).trans (y.r k)⟩
theorem Shp.set (d : Hs) (p : It) (q : Pl) : Shp d (setD d p q) := by
  obtain ⟨k, n⟩ := p
  refine ⟨?_, fun j => ?_⟩
  · cases k <;> rfl
  · cases k <;> cases j <;> first | rfl | (show List.length _ = (List.set _ _ _).length; rw [List.length_set])
theorem Shp.next (d : Hs) (e : Dd) : Shp d (nextOf d e) := by cases e <;> exact Shp.set _ _ _
theorem Shp.inH {d0 d : Hs} (s : Shp d0 d) (p : It) : Kw.inH d0 p ↔ Kw.inH d p := by
  unfold Kw.inH
  rw [s.r]
theorem unk_shp {d0 d : Hs} (s : Shp d0 d) (e : Dd) : unkOf d0 e = unkOf d e := by
  have hb : d0.bs.length = d.bs.length := s.r .box
  have hs : d0.ss.length = d.ss.length := s.r .sl
  unfold unkOf
  simp only [s.h, s.inH, hb, hs]
theorem Shp.ls {d0 d : Hs} (s : Shp d0 d) (l : Ls d0) : Ls d := by
  have hb : d0.bs.length = d.bs.length := s.r .box
  have ht : d0.ts.length = d.ts.length := s.r .thing
  have hs : d0.ss.length = d.ss.length := s.r .sl
  exact ⟨by rw [← hb]; exact l.b, by rw [← ht]; exact l.t, by rw [← hs]; exact l.s⟩
section
variable {P : Program} {w : World} {K : PySem.W.Frag} {mg : Str → Option Value} {base : Heap}
/-! ### world == other -/
theorem eqv_pls (l : List Pl) : ∀ m : List Pl, PyData.eqv (plsD l) (plsD m) = decide (l = m) := by
  have go : ∀ l m : List Pl, PyData.eqvAll (l.map plD) (m.map plD) = decide (l = m) := by
    intro l
    induction l with
    | nil => intro m; cases m with
      | nil => rfl
      | cons a r => simp [PyData.eqvAll]
    | cons a r ih => intro m; cases m with
      | nil => simp [PyData.eqvAll]
      | cons c s =>
        show (PyData.eqv (plD a) (plD c) && PyData.eqvAll (r.map plD) (s.map plD)) = _
        rw [eqv_pl, ih]
        by_cases h1 : a = c <;> by_cases h2 : r = s <;> simp [h1, h2]
  intro m
  exact go l m
def sameD (d e : Hs) : Bool := decide (d.bs = e.bs) && (decide (d.ts = e.ts) && decide (d.ss = e.ss))
theorem eqv_st2 (d e : Hs) : PyData.eqv (stD d) (stD e) = sameD d e := by
  simp [stD, PyData.eqv, PyData.eqvAll, eqv_pls, sameD]
theorem same_refl (d : Hs) : sameD d d = true := by simp [sameD]
end
end Kw


set_option Elab.async false
set_option linter.all false
set_option maxRecDepth 100000
set_option maxHeartbeats 4000000
namespace Kw
open PySem PySem.Spec PyProof.Rows L2 SrtO
section
variable {prog : Program} {w : World} {A : Around} {E : Value → Shared → Prop} {s : Shared}
/-- sorted of a list or a tuple, by an order of its items -/
theorem sorted_seq {l : Addr} {T : String} {o : Obj} {its : List Value} {n : Nat} {ltv : Value → Value → Bool} {Q : Value → Shared → Prop} (O : Swo ltv) (hT : T = "list" ∨ T = "tuple") (ho : s.heap.get? l = some o) (hc : o.cls = .type T) (hd : o.data = .seq its.toArray n) (hz : its.length ≤ sizeLine)
    (hS : 2 ≤ its.length → ∀ (h1 : Heap) (a : Addr), (∀ b o, s.heap.get? b = some o → b ≠ a ∧ h1.get? b = some o) → h1.get? a = some (seqObj "list" its.toArray 0) → SortableO prog w A.in1.in1 { s with heap := h1 } a its ltv)
    (k : ∀ (h2 h' : Heap) (d : Addr) (out : List Value), Srtd ltv out → Stb ltv out its → (∀ b o, s.heap.get? b = some o → h2.get? b = some o) → (∀ b o, h2.get? b = some o → h'.get? b = some o) → h2.objs.size ≤ d → (∃ n, h'.get? d = some (seqObj "list" out.toArray n)) → Q (.ref d) { s with heap := h' }) :
    wpAny (model prog w) A (call (.builtin "sorted") [.ref l]) Q E s := by
  refine Calls.call_function_entry kind_sorted plain_sorted entry_sorted (args_sorted1 _) ?_
  unfold Builtin.«sorted»
  refine wpAny_bind (m := checkCount "sorted" 1 1 _) (wpAny_pure ?_)
  refine wpAny_bind (wpAny_collect_seq l hT ho hc hd (fun h2 kp => ?_) (by rw [List.size_toArray]; exact hz))
  have ei : its.toArray.toList = its := by simp
  rw [ei]
  refine wpAny_bind (wpAny_newList ?_ hz)
  have ha : (h2.push { cls := .type "list", data := .seq its.toArray }).get? h2.objs.size = some (seqObj "list" its.toArray 0) := Heap.get?_push_size _ rfl
  have keep : ∀ b o, s.heap.get? b = some o → b ≠ h2.objs.size ∧ (h2.push { cls := .type "list", data := .seq its.toArray }).get? b = some o := fun b o q => by
    have q2 := kp b o q
    exact ⟨Nat.ne_of_lt (Heap.lt_size q2), Heap.get?_push_of_some _ q2⟩
  refine wpAny_bind (wpAny_holding (wpAny_call_entry slot_list_sort ⟨_, ha, rfl⟩ entry_list_sort (list_sort_ord O ha hz (fun g2 => hS g2 _ _ keep ha) fun out hs hb => ⟨_, rfl, ?_⟩) (args_list_sort _)))
  refine wpAny_pure ⟨_, rfl, ?_⟩
  refine k h2 _ _ out hs hb kp (fun b o q => ?_) (Nat.le_refl _) (sortedHeap_at ha)
  have lt := Heap.lt_size q
  have q2 : (h2.push { cls := .type "list", data := .seq its.toArray }).get? b = some o := Heap.get?_push_of_some _ q
  rw [sortedHeap_old (Nat.ne_of_lt lt) (Heap.lt_size q2)]
  exact q2
end
/-! ### items -/
def IsIt (h : Heap) (v : Value) (p : It) : Prop := ∃ a o t u n, v = .ref a ∧ h.get? a = some o ∧ o.cls = .type "tuple" ∧ o.data = .seq #[.str p.1.str t, .int (p.2 : Nat) u] n
theorem IsIt.uniq {h : Heap} {v : Value} {p q : It} (x : IsIt h v p) (y : IsIt h v q) : p = q := by
  obtain ⟨a, o, t, u, n, rfl, ho, _, hd⟩ := x
  obtain ⟨a', o', t', u', n', e, ho', _, hd'⟩ := y
  cases e
  rw [ho] at ho'
  cases ho'
  rw [hd] at hd'
  have e1 := Data.seq.inj hd'
  have e2 := congrArg Array.toList e1.1
  simp only [List.cons.injEq] at e2
  obtain ⟨e3, e4, _⟩ := e2
  have k1 := (Value.str.inj e3).1
  have k2 := (Value.int.inj e4).1
  exact Prod.ext (kd_inj k1) (by omega)
theorem IsIt.keeps {h h' : Heap} {v : Value} {p : It} (x : IsIt h v p) (k : ∀ b o, h.get? b = some o → h'.get? b = some o) : IsIt h' v p := by
  obtain ⟨a, o, t, u, n, e, ho, hc, hd⟩ := x
  exact ⟨a, o, t, u, n, e, k _ _ ho, hc, hd⟩
open Classical in
noncomputable def itOf (h : Heap) (v : Value) : It := if x : ∃ p, IsIt h v p then Classical.choose x else (.box, 0)
theorem itOf_eq {h : Heap} {v : Value} {p : It} (x : IsIt h v p) : itOf h v = p := by
  unfold itOf
  rw [dif_pos ⟨p, x⟩]
  exact (Classical.choose_spec (⟨p, x⟩ : ∃ p, IsIt h v p)).uniq x
section
variable {prog : Program} {w : World} {A : Around} {s : Shared}
theorem swo_it (f : Value → It) : Swo fun v u => itLt (f v) (f u) := swo_lex fun v => itKey (f v)
theorem it_cmp {vs : List Value} {f : Value → It} (hp : ∀ v ∈ vs, IsIt s.heap v (f v)) : Cmp prog w A s (tuples' true) (fun p => p.1 ∈ vs) (lt2 fun v u => itLt (f v) (f u)) := by
  intro x y hx hy
  have h1 := hp _ hx
  have h2 := hp _ hy
  show wpAny (model prog w) A (keyLt' (tuples' true) x.1 y.1) (fun r s' => s' = s ∧ r = itLt (f x.1) (f y.1)) (fun _ _ => False) s
  generalize f x.1 = p at *
  generalize f y.1 = q at *
  obtain ⟨a, o, t, u, n, e1, g1, g2, g3⟩ := h1
  obtain ⟨a2, o2, t2, u2, n2, e2, k1, k2, k3⟩ := h2
  rw [e1, e2]
  refine PySem.W.kat_lt g1 g3 k1 k3 ?_
  show PySem.W.KatLex prog w A true (decide (2 < 2)) _ [(.str p.1.str t, .str q.1.str t2), (.int (p.2 : Nat) u, .int (q.2 : Nat) u2)] 0 s
  refine PySem.W.kat_cons (SeqAt.EqAt.str_str p.1.str t q.1.str t2 prog w _ _ ?_)
  refine PySem.W.kat_go (fun z1 => ?_) (fun z1 => ?_)
  · have ek : p.1 = q.1 := kd_inj (by simpa using z1)
    refine PySem.W.kat_yes (PySem.W.kat_cons (SeqAt.EqAt.int_int _ u _ u2 prog w _ _ ?_))
    refine PySem.W.kat_go (fun z2 => ?_) (fun z2 => ?_)
    · have en : p.2 = q.2 := by
        have : ((p.2 : Nat) : Int) = (q.2 : Nat) := by simpa using z2
        omega
      have epq : p = q := Prod.ext ek en
      refine PySem.W.kat_yes (PySem.W.kat_nil ⟨rfl, ?_⟩)
      rw [epq]
      cases z : itLt q q with
      | false => rfl
      | true =>
        rcases itLt_iff.mp z with c | ⟨_, c⟩ <;> omega
    · refine PySem.W.kat_no (PySem.W.kat_one _ _ (PyProof.Rows.lt_int ⟨rfl, ?_⟩))
      by_cases c : p.2 < q.2
      · rw [itLt_iff.mpr (.inr ⟨ek, c⟩)]
        exact decide_eq_true (by omega)
      · have n1 : itLt p q = false := by
          cases z : itLt p q with
          | false => rfl
          | true =>
            rcases itLt_iff.mp z with d | ⟨_, d⟩
            · rw [ek] at d; omega
            · exact absurd d c
        rw [n1]
        exact decide_eq_false (by omega)
  · have ek : ¬ p.1 = q.1 := fun z => by rw [z] at z1; simp at z1
    refine PySem.W.kat_no (oneLt_str ⟨rfl, ?_⟩)
    rw [kd_lt]
    by_cases c : rkd p.1 < rkd q.1
    · rw [itLt_iff.mpr (.inl c)]
      exact decide_eq_true c
    · have n1 : itLt p q = false := by
        cases z : itLt p q with
        | false => rfl
        | true =>
          rcases itLt_iff.mp z with d | ⟨d, _⟩
          · exact absurd d c
          · exact absurd d ek
      rw [n1]
      exact decide_eq_false c
theorem it_firsts {h : Heap} {f : Value → It} : ∀ {vs : List Value}, (∀ v ∈ vs, IsIt h v (f v)) → ∃ fs : List Value, PySem.W.KatTups h vs fs ∧ fs.length = vs.length ∧ ∀ x ∈ fs, ∃ y t, x = Value.str y t
  | [], _ => ⟨[], PySem.W.KatTups.nil, rfl, fun _ hm => by simp at hm⟩
  | v :: vs, hp => by
    obtain ⟨fs, h1, h2, h3⟩ := it_firsts (vs := vs) fun v' hm => hp v' (List.mem_cons_of_mem _ hm)
    obtain ⟨a, o, t, u, n, e, ho, hc, hd⟩ := hp v List.mem_cons_self
    rw [e]
    refine ⟨.str (f v).1.str t :: fs, PySem.W.KatTups.cons ho hc hd rfl h1, by rw [List.length_cons, List.length_cons, h2], fun x hm => ?_⟩
    rcases List.mem_cons.mp hm with rfl | hm
    · exact ⟨_, _, rfl⟩
    · exact h3 x hm
theorem it_sortable {a : Addr} {vs : List Value} {f : Value → It} (h0 : 0 < vs.length) (hp : ∀ v ∈ vs, IsIt s.heap v (f v)) (ha : ∀ o, s.heap.get? a = some o → o.cls ≠ .type "tuple") : SortableO prog w A s a vs fun v u => itLt (f v) (f u) := by
  intro h' keep
  have hp' : ∀ v ∈ vs, IsIt h' v (f v) := fun v hm => by
    obtain ⟨b, o, t, u, n, e, ho, hc, hd⟩ := hp v hm
    exact ⟨b, o, t, u, n, e, keep b o (fun z => by subst z; exact ha o ho hc) ho, hc, hd⟩
  obtain ⟨fs, h1, h2, h3⟩ := it_firsts hp'
  refine ⟨tuples' true, fun Q E hq => ?_, it_cmp (s := { s with heap := h' }) hp'⟩
  refine PySem.W.kat_kind (T := .type "str") h1 (by omega) (fun x hm => ?_) (by rfl) ?_
  · obtain ⟨y, t, rfl⟩ := h3 x hm
    exact PySem.W.Looks.now
  · have e : (Value.type "str" != Value.type "tuple") = true := by first | decide +kernel | rfl | decide
    rw [e]
    exact hq
end
section
variable {X : Cx}
/-- sorted(xs), xs a list or a tuple of items -/
def rSortI (K : PySem.W.Frag) : List V → Hp → VK → Prop := fun vs H Q => ∃ (a : Addr) (xs : List V) (ps : List It), vs = [.ref a] ∧ (SqL K H a xs ∨ SqT K H a xs) ∧ DpAll K H xs (ps.map itP) ∧
  ∀ (ys : List V) (qs : List It) (p : Addr), qs.Perm ps → qs.Pairwise (fun x y => itLt y x = false) → DpAll K H ys (qs.map itP) → H p = none → Q (.ref p) (L2.upd H p (.lst ys))
theorem isit_of {pins : List (Addr × Obj)} {σ : L2.St} {H : Hp} {x : V} {v : Value} {p : It} (I : Inv X pins σ H s) (h : Dp X.K H x (itP p)) (r : RelV x v) : IsIt s.heap v p := by
  obtain ⟨a, rfl, ha⟩ := it_at h
  cases r
  obtain ⟨its, rv, ⟨o, ho, hc, n, hd⟩, _⟩ := I.tuple ha
  obtain ⟨t, u, rfl⟩ := two_of rv
  exact ⟨a, o, t, u, n, rfl, ho, hc, hd⟩
theorem all_isit {pins : List (Addr × Obj)} {σ : L2.St} {H : Hp} {s : Shared} (I : Inv X pins σ H s) : ∀ {xs : List V} {ps : List It} {vs : List Value}, DpAll X.K H xs (ps.map itP) → Vals xs vs → vs.map (itOf s.heap) = ps ∧ ∀ v ∈ vs, IsIt s.heap v (itOf s.heap v)
  | [], [], [], _, _ => ⟨rfl, fun v h => nomatch h⟩
  | x :: xs, p :: ps, v :: vs, .cons d1 dd, .cons r1 rr => by
    obtain ⟨h1, h2⟩ := all_isit I dd rr
    have h0 := isit_of I d1 r1
    have e0 := itOf_eq h0
    refine ⟨by rw [List.map_cons, h1, e0], fun u hu => ?_⟩
    rcases List.mem_cons.mp hu with rfl | hu
    · rw [e0]; exact h0
    · exact h2 u hu
theorem back_dp {pins : List (Addr × Obj)} {σ : L2.St} {H : Hp} {s : Shared} (I : Inv X pins σ H s) : ∀ {ys : List V} {vs : List Value}, (∀ y ∈ ys, ∃ p : It, Dp X.K H y (itP p)) → Vals ys vs → DpAll X.K H ys ((vs.map (itOf s.heap)).map itP)
  | [], [], _, _ => .nil
  | y :: ys, v :: vs, h, .cons r1 rr => by
    obtain ⟨p, hp⟩ := h y List.mem_cons_self
    have e0 := itOf_eq (isit_of I hp r1)
    refine .cons ?_ (back_dp I (fun u hu => h u (List.mem_cons_of_mem _ hu)) rr)
    rw [e0]
    exact hp
theorem dp_mem {K : PySem.W.Frag} {H : Hp} : ∀ {xs : List V} {ps : List It}, DpAll K H xs (ps.map itP) → ∀ x ∈ xs, ∃ p : It, p ∈ ps ∧ Dp K H x (itP p)
  | [], _, _, x, h => nomatch h
  | x :: xs, p :: ps, .cons d1 dd, y, h => by
    rcases List.mem_cons.mp h with rfl | h
    · exact ⟨p, List.mem_cons_self, d1⟩
    · obtain ⟨q, h1, h2⟩ := dp_mem dd y h
      exact ⟨q, List.mem_cons_of_mem _ h1, h2⟩
theorem cr_sortI : CallR X (.builtin "sorted") (rSortI X.K) := by
  intro pins s σ H vs us Q I r h
  obtain ⟨a, xs, ps, rfl, hs, hd, q⟩ := h
  obtain ⟨u, rfl, ru⟩ := vals1 r
  obtain rfl : u = Value.ref a := ru
  have seq : ∃ (T : String) (its : List Value) (o : Obj) (n : Nat), (T = "list" ∨ T = "tuple") ∧ s.heap.get? a = some o ∧ o.cls = .type T ∧ o.data = .seq its.toArray n ∧ Vals xs its ∧ xs.length ≤ sizeLine := by
    rcases hs with hs | hs
    · obtain ⟨its, rv, pl, hz⟩ := I.list hs
      obtain ⟨o, ho, hc, n, hd⟩ := pl.isList
      exact ⟨"list", its, o, n, .inl rfl, ho, hc, hd, rv, hz⟩
    · obtain ⟨its, rv, ⟨o, ho, hc, n, hd⟩, hz⟩ := I.tuple hs
      exact ⟨"tuple", its, o, n, .inr rfl, ho, hc, hd, rv, hz⟩
  obtain ⟨T, its, o, n, hT, ho, hc, hd2, rv, hz⟩ := seq
  obtain ⟨e1, e2⟩ := all_isit I hd rv
  refine sorted_seq (swo_it (itOf s.heap)) hT ho hc hd2 (by rw [← rv.length]; exact hz) (fun g2 h1 a1 keep ha1 => ?_) fun h2 h' d out o1 o2 k1 k2 hd3 hn => ?_
  · refine it_sortable (s := { s with heap := h1 }) (by omega) (fun v hv => (e2 v hv).keeps fun b o e => (keep b o e).2) fun o e => ?_
    have e' : some o = some (seqObj "list" its.toArray 0) := e.symm.trans ha1
    cases e'
    intro c
    exact absurd (Value.type.inj c) (by decide)
  · obtain ⟨n', hn⟩ := hn
    obtain ⟨ys, ry, py⟩ := vals_perm o2.perm rv
    have I2 : Inv X pins σ H { s with heap := h2 } := I.kept (t' := s.toks) k1
    have dy : DpAll X.K H ys ((out.map (itOf s.heap)).map itP) := back_dp I (fun y hy => by
      obtain ⟨p, _, h⟩ := dp_mem hd y (py.mem_iff.mp hy)
      exact ⟨p, h⟩) ry
    have pq : (out.map (itOf s.heap)).Perm ps := by
      have := o2.perm.map (itOf s.heap)
      rw [e1] at this
      exact this
    have sq : (out.map (itOf s.heap)).Pairwise (fun x y => itLt y x = false) := List.pairwise_map.mpr o1
    have hlen : ys.length ≤ sizeLine := by rw [py.length_eq]; exact hz
    exact ⟨.ref d, L2.upd H d (.lst ys), I2.laid (t' := s.toks) k2 hd3 ⟨hlen, out, n', ry, hn⟩, rfl, q ys _ d pq sq dy (I2.hok.fresh hd3)⟩
end
end Kw


set_option Elab.async false
set_option linter.all false
set_option maxRecDepth 100000
set_option maxHeartbeats 4000000
namespace Kw
open PySem PySem.Spec PyProof.Rows L2
/-! ### places that there are, boxes not around one another -/
def PlOk (d : Hs) (k : Kd) (q : Pl) : Prop := (q.1 = .hand → 0 ≤ q.2 ∧ q.2 < d.hands) ∧ (q.1 = .box → ∃ j : Nat, q.2 = (j : Int) ∧ j < d.bs.length) ∧ (q.1 = .gone → k = .sl ∧ q.2 = 0)
structure Wf (d : Hs) : Prop where
  pl : ∀ k (i : Nat) q, (rowOf d k)[i]? = some q → PlOk d k q
  ac : ∃ ρ : Nat → Nat, ∀ (i j : Nat), d.bs[i]? = some (.box, (j : Int)) → ρ j < ρ i
theorem set_get {l : List Pl} {i j : Nat} {q z : Pl} (h : (l.set i q)[j]? = some z) : (j = i ∧ z = q) ∨ (j ≠ i ∧ l[j]? = some z) := by
  by_cases c : j = i
  · subst c
    rw [List.getElem?_set_self (by have := (List.getElem?_eq_some_iff.mp h).1; rwa [List.length_set] at this)] at h
    exact .inl ⟨rfl, (Option.some.inj h).symm⟩
  · rw [List.getElem?_set_ne (Ne.symm c)] at h
    exact .inr ⟨c, h⟩
theorem row_set (d : Hs) (p : It) (q : Pl) (k : Kd) : rowOf (setD d p q) k = if k = p.1 then (rowOf d k).set p.2 q else rowOf d k := by
  obtain ⟨k', n⟩ := p
  cases k' <;> cases k <;> rfl
theorem hands_set (d : Hs) (p : It) (q : Pl) : (setD d p q).hands = d.hands := by
  obtain ⟨k', n⟩ := p
  cases k' <;> rfl
theorem PlOk.shp {d d' : Hs} (s : Shp d d') {k : Kd} {q : Pl} (h : PlOk d k q) : PlOk d' k q := by
  have hb : d.bs.length = d'.bs.length := s.r .box
  unfold PlOk at *
  rw [← s.h, ← hb]
  exact h
/-- all but a box put into another -/
theorem Wf.set {d : Hs} (w : Wf d) {p : It} {q : Pl} (hq : PlOk d p.1 q) (hb : p.1 = .box → q.1 ≠ .box) : Wf (setD d p q) := by
  have sh := Shp.set d p q
  refine ⟨fun k i z hz => ?_, ?_⟩
  · rw [row_set] at hz
    by_cases c : k = p.1
    · rw [if_pos c] at hz
      rcases set_get hz with ⟨_, e⟩ | ⟨_, e⟩
      · rw [e, c]
        exact hq.shp sh
      · exact (w.pl k i z e).shp sh
    · rw [if_neg c] at hz
      exact (w.pl k i z hz).shp sh
  · obtain ⟨ρ, hρ⟩ := w.ac
    refine ⟨ρ, fun i j h => ?_⟩
    have h : (rowOf (setD d p q) .box)[i]? = some (.box, (j : Int)) := h
    rw [row_set] at h
    by_cases c : Kd.box = p.1
    · rw [if_pos c] at h
      rcases set_get h with ⟨_, e⟩ | ⟨_, e⟩
      · exact absurd (by rw [← e]) (hb c.symm)
      · exact hρ i j e
    · rw [if_neg c] at h
      exact hρ i j h
/-- a box that is held straight put into another that is held straight -/
theorem Wf.put {d : Hs} (w : Wf d) {n b : Nat} {h h' : Int} (hn : d.bs[n]? = some (.hand, h)) (hb : d.bs[b]? = some (.hand, h')) (ne : n ≠ b) : Wf (setD d (.box, n) (.box, (b : Int))) := by
  have sh := Shp.set d (.box, n) (.box, (b : Int))
  have lb := (List.getElem?_eq_some_iff.mp hb).1
  have hq : PlOk d .box (.box, (b : Int)) := ⟨fun z => (nomatch z), fun _ => ⟨b, rfl, lb⟩, fun z => (nomatch z)⟩
  refine ⟨fun k i z hz => ?_, ?_⟩
  · rw [row_set] at hz
    by_cases c : k = Kd.box
    · rw [if_pos c] at hz
      rcases set_get hz with ⟨_, e⟩ | ⟨_, e⟩
      · rw [e, c]
        exact hq.shp sh
      · exact (w.pl k i z e).shp sh
    · rw [if_neg c] at hz
      exact (w.pl k i z hz).shp sh
  · obtain ⟨ρ, hρ⟩ := w.ac
    refine ⟨fun x => if x = b then 0 else ρ x + 1, fun i j hij => ?_⟩
    have hij : (rowOf (setD d (.box, n) (.box, (b : Int))) .box)[i]? = some (.box, (j : Int)) := hij
    rw [row_set, if_pos rfl] at hij
    have nb : i ≠ b := fun z => by
      subst z
      rcases set_get hij with ⟨e1, _⟩ | ⟨_, e2⟩
      · exact ne e1.symm
      · have e3 : d.bs[i]? = some (.box, (j : Int)) := e2
        rw [hb] at e3
        cases e3
    dsimp only
    rw [if_neg nb]
    by_cases cj : j = b
    · rw [if_pos cj]
      omega
    · rw [if_neg cj]
      rcases set_get hij with ⟨_, e⟩ | ⟨_, e⟩
      · have := congrArg Prod.snd e
        have e2 : ((j : Nat) : Int) = (b : Nat) := this
        exact absurd (by omega) cj
      · have := hρ i j e
        omega
theorem Wf.next {d : Hs} (w : Wf d) {e : Dd} (kn : Kn d e) (hb : Hb d e) (bar : barOf d e = "") : Wf (nextOf d e) := by
  cases e with
  | give h p o => exact w.set ⟨fun _ => ⟨by show (0 : Int) ≤ (o : Nat); omega, hb.2⟩, fun z => (nomatch z), fun z => (nomatch z)⟩ (fun _ => by intro z; cases z)
  | put h p b =>
    obtain ⟨k, n⟩ := p
    have hq : PlOk d k (.box, (b : Int)) := ⟨fun z => (nomatch z), fun _ => ⟨b, rfl, kn.2⟩, fun z => (nomatch z)⟩
    by_cases c : k = .box
    · subst c
      simp only [barOf] at bar
      by_cases c1 : whereD d (.box, b) = some (.hand, (h : Int))
      · rw [if_pos c1] at bar
        by_cases c2 : whereD d (.box, n) = some (.hand, (h : Int))
        · exact w.put (show d.bs[n]? = _ from c2) (show d.bs[b]? = _ from c1) (fun z => hb.2 (by rw [z]))
        · rw [if_neg c2] at bar; exact absurd bar (by decide +kernel)
      · rw [if_neg c1] at bar; exact absurd bar (by decide +kernel)
    · exact w.set hq fun z => absurd z c
  | take h p b => exact w.set ⟨fun _ => ⟨by show (0 : Int) ≤ (h : Nat); omega, hb⟩, fun z => (nomatch z), fun z => (nomatch z)⟩ (fun _ => by intro z; cases z)
  | lock h b s => exact w.set (p := (.sl, s)) ⟨fun z => (nomatch z), fun _ => ⟨b, rfl, kn.1⟩, fun z => (nomatch z)⟩ (fun z => by cases z)
  | brk h b => exact w.set (p := (.sl, onIx d b)) ⟨fun z => (nomatch z), fun z => (nomatch z), fun _ => ⟨rfl, rfl⟩⟩ (fun z => by cases z)
/-! ### what is straight at a place -/
def atOf (l : List Pl) (k : Kd) (q : Pl) : List It := ((List.range l.length).filter fun i => decide (l[i]? = some q)).map fun i => (k, i)
def loadsOf (d : Hs) (q : Pl) : List It := atOf d.bs .box q ++ atOf d.ts .thing q
def insideOf (d : Hs) (b : Nat) : List It := loadsOf d (.box, (b : Int))
theorem itP_map (l : List Nat) (k : Kd) : (l.map fun i => (k, i)).map itP = l.map fun i => itP (k, i) := by
  rw [List.map_map]
  rfl
section
variable {P : Program} {w : World} {K : PySem.W.Frag} {mg : Str → Option Value} {base : Heap}
/-- [(word, i) for i in range(n) if ..] -/
theorem lc_fltR {σ : L2.St} {H1 : Hp} {D : Addr} {tt : TT} {Qd : Hp → Prop} (k : Kd) (n j : Nat) (p : Nat → Bool) (hj : j < σ.length) (hn : n ≤ 1000) (hD : H1 D = none)
    (ht : ∀ (i : Nat) (H : Hp) (T : Bool → Hp → Prop), i < n → Same H1 H → (∀ H', Same H H' → T (p i) H') → tt ((wipe σ [j]).set j (some (.int (i : Nat)))) H T)
    (hd : ∀ H zs, Same H1 H → H D = some (.lst zs) → DpAll K H zs (((List.range n).filter p).map fun i => itP (k, i)) → Qd H) :
    ∃ W : Nat → Nat → Hp → Prop, (∃ m, W 0 m (upd H1 D (.lst []))) ∧ ∀ i m H, W i m H →
      ((Itr 0 n).stop i H ∧ Qd H) ∨ ((Itr 0 n).go i H ∧ ∃ Nx : Hp → Prop, (∀ H', Nx H' → ∃ m', m' < m ∧ W (i + 1) m' H') ∧ ∀ x H', (Itr 0 n).yld i H x H' → gName j x (wipe σ [j]) H' fun σ2 H2 => wipe σ2 [j] = wipe σ [j] ∧ tt σ2 H2 fun b H3 =>
        if b = true then tTup (tCons (tC (.str k.str)) (tCons (tVar j) tNil)) σ2 H3 fun y H4 => ∃ acc, H4 D = some (.lst acc) ∧ acc.length < sizeLine ∧ Nx (upd H4 D (.lst (acc ++ [y]))) else Nx H3) := by
  have e0 : ∀ (H' : Hp) (o : HO), Same H1 H' → Same H1 (L2.upd H' D o) := fun H' o e c u h => by rw [upd_ne (ne_of_none h hD)]; exact e c u h
  have nl : ∀ l : List Nat, noLs (l.map fun i => itP (k, i)) = true := fun l => noLs_map (fun i => itP (k, i)) (fun _ => rfl) l
  refine lc_range (lo := 0) (n := n) (fun i H => Same H1 H ∧ ∃ zs, H D = some (.lst zs) ∧ zs.length ≤ i ∧ DpAll K H zs (((List.range i).filter p).map fun i => itP (k, i))) ⟨same_upd hD, [], upd_same, Nat.le_refl _, .nil⟩ ?_ ?_
  · rintro i H hi ⟨e, zs, hz, lz, dz⟩
    rw [Int.zero_add]
    refine ⟨wipe_one _ j _, ht i H _ hi e fun H' e' => ?_⟩
    have hz' := e' _ _ hz
    have er : (List.range (i + 1)).filter p = (List.range i).filter p ++ (if p i = true then [i] else []) := by
      rw [List.range_succ, List.filter_append]
      congr 1
      simp only [List.filter_cons, List.filter_nil]
    refine ite_b _ (fun c => ?_) (fun c => ?_)
    · rw [c, if_pos rfl] at er
      refine ⟨_, List.getElem?_set_self (by rw [wipe_length]; exact hj), (by show 2 ≤ sizeLine; decide), fun t ht' => ?_⟩
      have f1 := same_upd (o := HO.tup [.str k.str, .int (i : Nat)]) ht'
      have hz2 := f1 _ _ hz'
      have nl2 := nl_updL (ys := zs ++ [V.ref t]) hz2
      refine ⟨zs, hz2, by rw [sizeLine_eq]; omega, e0 _ _ ((e.trans e').trans f1), zs ++ [.ref t], upd_same, by rw [List.length_append]; simp; exact lz, ?_⟩
      rw [er, List.map_append]
      exact DpAll.app (Dp.nls nl2 _ _ (nl _) (Dp.sames (e'.trans f1) _ _ dz)) (.cons (Dp.nl nl2 _ _ rfl (.tup (SqT.of upd_same) (.cons (.str _) (.cons (.int _) .nil)))) .nil)
    · rw [c, if_neg (by decide), List.append_nil] at er
      refine ⟨e.trans e', zs, hz', by omega, ?_⟩
      rw [er]
      exact Dp.sames e' _ _ dz
  · rintro H ⟨e, zs, hz, lz, dz⟩
    exact hd H zs e hz dz
/-! ### _law_inside -/
def spInside (K : PySem.W.Frag) : Sp := fun vs H Q _ => ∃ (x : V) (b : Nat) (d : Hs), vs = [x, .int (b : Nat)] ∧ Dp K H x (stD d) ∧ Ls d ∧ ∀ v H', Same H H' → Dp K H' v (.tuple ((insideOf d b).map itP)) → Q v H'
end
end Kw


set_option Elab.async false
set_option linter.all false
set_option maxRecDepth 100000
set_option maxHeartbeats 4000000
namespace Kw
open PySem PySem.Spec PyProof.Rows L2
abbrev sLoads : Stmt := top 40
abbrev sSealsAt : Stmt := top 41
/-- a comprehension over enumerate(tuple), the invariant Pv by the turn -/
theorem lc_enumT {K : PySem.W.Frag} {a : Addr} {xs : List V} {g : TG} {tt : TT} {te : TE} {vs : List Nat} {σ : L2.St} {H1 : Hp} {D : Addr} {Qd : Hp → Prop} (Pv : Nat → Hp → Prop) (h0 : Pv 0 (upd H1 D (.lst []))) (hl : ∀ i H, i ≤ xs.length → Pv i H → SqT K H a xs)
    (hs : ∀ i x H T, xs[i]? = some x → Pv i H → H T = none → g (.ref T) (wipe σ vs) (upd H T (.tup [.int (i : Nat), x])) fun σ2 H2 => wipe σ2 vs = wipe σ vs ∧ tt σ2 H2 fun b H3 =>
      if b = true then te σ2 H3 fun y H4 => ∃ acc, H4 D = some (.lst acc) ∧ acc.length < sizeLine ∧ Pv (i + 1) (upd H4 D (.lst (acc ++ [y]))) else Pv (i + 1) H3) (hd : ∀ H, Pv xs.length H → Qd H) :
    ∃ W : Nat → Nat → Hp → Prop, (∃ m, W 0 m (upd H1 D (.lst []))) ∧ ∀ i m H, W i m H →
      ((Itet K a).stop i H ∧ Qd H) ∨ ((Itet K a).go i H ∧ ∃ Nx : Hp → Prop, (∀ H', Nx H' → ∃ m', m' < m ∧ W (i + 1) m' H') ∧ ∀ x H', (Itet K a).yld i H x H' → g x (wipe σ vs) H' fun σ2 H2 => wipe σ2 vs = wipe σ vs ∧ tt σ2 H2 fun b H3 =>
        if b = true then te σ2 H3 fun y H4 => ∃ acc, H4 D = some (.lst acc) ∧ acc.length < sizeLine ∧ Nx (upd H4 D (.lst (acc ++ [y]))) else Nx H3) := by
  refine ⟨fun i m H => m = xs.length - i ∧ i ≤ xs.length ∧ Pv i H, ⟨xs.length, by simp, Nat.zero_le _, h0⟩, ?_⟩
  rintro i m H ⟨rfl, hi, p⟩
  have q := hl i H hi p
  by_cases hlt : i < xs.length
  · refine .inr ⟨⟨xs, xs[i], q, by simp [hlt]⟩, Pv (i + 1), fun H' p' => ⟨xs.length - (i + 1), by omega, rfl, hlt, p'⟩, fun x H' y => ?_⟩
    obtain ⟨T, x', ev, hT, eH, hx⟩ := y
    subst ev eH
    exact hs i x' H T (hx xs q) p hT
  · have e : i = xs.length := by omega
    subst e
    exact .inl ⟨⟨xs, q, Nat.le_refl _⟩, hd H p⟩
theorem wipe_two (σ : L2.St) (i j : Nat) (x y : Option V) (h : i ≠ j) : wipe (((wipe σ [i, j]).set i x).set j y) [i, j] = wipe σ [i, j] := by
  show (((((σ.set j none).set i none).set i x).set j y).set j none).set i none = (σ.set j none).set i none
  rw [List.set_set, List.set_set, List.set_comm _ _ h, List.set_set, List.set_set]
section
variable {P : Program} {w : World} {K : PySem.W.Frag} {mg : Str → Option Value} {base : Heap}
/-- [(word, i) for i, q in enumerate(row) if q == place] -/
theorem lc_at {σ : L2.St} {H1 : Hp} {D a : Addr} {xs : List V} {tt : TT} {Qd : Hp → Prop} (k : Kd) (l : List Pl) (i j : Nat) (q : Pl) (hij : i ≠ j) (hi : i < σ.length) (hj : j < σ.length) (hD : H1 D = none)
    (sq : SqT K H1 a xs) (dl : DpAll K H1 xs (l.map plD)) (ln : xs.length ≤ 1000)
    (ht : ∀ (n : Nat) (z : Pl) (y : V) (H : Hp) (T : Bool → Hp → Prop), l[n]? = some z → Dp K H y (plD z) → Same H1 H → (∀ H', Same H H' → T (decide (z = q)) H') → tt (((wipe σ [i, j]).set i (some (.int (n : Nat)))).set j (some y)) H T)
    (hd : ∀ H zs, Same H1 H → H D = some (.lst zs) → DpAll K H zs ((atOf l k q).map itP) → Qd H) :
    ∃ W : Nat → Nat → Hp → Prop, (∃ m, W 0 m (upd H1 D (.lst []))) ∧ ∀ n m H, W n m H →
      ((Itet K a).stop n H ∧ Qd H) ∨ ((Itet K a).go n H ∧ ∃ Nx : Hp → Prop, (∀ H', Nx H' → ∃ m', m' < m ∧ W (n + 1) m' H') ∧ ∀ x H', (Itet K a).yld n H x H' → (gTup K 2 (gCons (gName i) (gCons (gName j) gNil))) x (wipe σ [i, j]) H' fun σ2 H2 => wipe σ2 [i, j] = wipe σ [i, j] ∧ tt σ2 H2 fun b H3 =>
        if b = true then tTup (tCons (tC (.str k.str)) (tCons (tVar i) tNil)) σ2 H3 fun y H4 => ∃ acc, H4 D = some (.lst acc) ∧ acc.length < sizeLine ∧ Nx (upd H4 D (.lst (acc ++ [y]))) else Nx H3) := by
  have e0 : ∀ (H' : Hp) (o : HO), Same H1 H' → Same H1 (L2.upd H' D o) := fun H' o e c u h => by rw [upd_ne (ne_of_none h hD)]; exact e c u h
  have nl : ∀ l : List Nat, noLs (l.map fun i => itP (k, i)) = true := fun l => noLs_map (fun i => itP (k, i)) (fun _ => rfl) l
  have ll : xs.length = l.length := by rw [DpAll.len dl, List.length_map]
  refine lc_enumT (K := K) (a := a) (xs := xs) (fun n H => Same H1 H ∧ ∃ zs, H D = some (.lst zs) ∧ zs.length ≤ n ∧ DpAll K H zs (((List.range n).filter fun m => decide (l[m]? = some q)).map fun i => itP (k, i))) ⟨same_upd hD, [], upd_same, Nat.le_refl _, .nil⟩ (fun n H _ p => SqT.same p.1 sq) ?_ ?_
  · rintro n y H T hy ⟨e, zs, hz, lz, dz⟩ hT
    obtain ⟨z, hz1, hz2⟩ := pls_get dl hy
    have hn := (List.getElem?_eq_some_iff.mp hy).1
    have f0 := same_upd (o := HO.tup [.int (n : Nat), y]) hT
    refine ⟨T, _, rfl, SqT.of upd_same, rfl, _, _, rfl, _, _, rfl, rfl, wipe_two σ i j _ _ hij, ht n z y _ _ hz1 (Dp.same (e.trans f0) _ _ hz2) (e.trans f0) fun H' e' => ?_⟩
    have e'' := f0.trans e'
    have hz' := e'' _ _ hz
    have er : (List.range (n + 1)).filter (fun m => decide (l[m]? = some q)) = (List.range n).filter (fun m => decide (l[m]? = some q)) ++ (if z = q then [n] else []) := by
      rw [List.range_succ, List.filter_append]
      congr 1
      simp only [List.filter_cons, List.filter_nil, hz1, Option.some.injEq, decide_eq_true_eq]
    by_cases c : z = q
    · rw [if_pos c] at er
      rw [decide_eq_true c]
      have vi : ((((wipe σ [i, j]).set i (some (V.int (n : Nat)))).set j (some y))[i]?) = some (some (V.int (n : Nat))) := by
        rw [List.getElem?_set_ne hij.symm, List.getElem?_set_self (by rw [wipe_length]; exact hi)]
      refine iteTe rfl ⟨_, vi, (by show 2 ≤ sizeLine; decide), fun t ht' => ?_⟩
      have f1 := same_upd (o := HO.tup [.str k.str, .int (n : Nat)]) ht'
      have hz2 := f1 _ _ hz'
      have nl2 := nl_updL (ys := zs ++ [V.ref t]) hz2
      refine ⟨zs, hz2, by rw [sizeLine_eq]; omega, e0 _ _ ((e.trans e'').trans f1), zs ++ [.ref t], upd_same, by rw [List.length_append]; simp; exact lz, ?_⟩
      rw [er, List.map_append]
      exact DpAll.app (Dp.nls nl2 _ _ (nl _) (Dp.sames (e''.trans f1) _ _ dz)) (.cons (Dp.nl nl2 _ _ rfl (.tup (SqT.of upd_same) (.cons (.str _) (.cons (.int _) .nil)))) .nil)
    · rw [if_neg c, List.append_nil] at er
      rw [decide_eq_false c]
      refine iteFe rfl ⟨e.trans e'', zs, hz', by omega, ?_⟩
      rw [er]
      exact Dp.sames e'' _ _ dz
  · rintro H ⟨e, zs, hz, lz, dz⟩
    refine hd H zs e hz ?_
    unfold atOf
    rw [itP_map, ← ll]
    exact dz
end
end Kw


set_option Elab.async false
set_option linter.all false
set_option maxRecDepth 100000
set_option maxHeartbeats 4000000
namespace Kw
open PySem PySem.Spec PyProof.Rows L2
/-! ### what holds at the end -/
def Hold (d : Hs) (r : Pl) : Nat → Pl → Prop
  | 0, z => z.1 ≠ .box ∧ z = r
  | n + 1, z => ∃ j : Nat, z = (.box, (j : Int)) ∧ ∃ q, d.bs[j]? = some q ∧ Hold d r n q
theorem firstBad_none {f : Nat → Pl → Bool} : ∀ (l : List Pl) (k : Nat), firstBad f k l = none → ∀ (i : Nat) (q : Pl), l[i]? = some q → f (k + i) q = false
  | [], _, _, _, _, e => by simp at e
  | p :: r, k, h, i, q, e => by
    unfold firstBad at h
    cases c : f k p with
    | true => rw [c, if_pos rfl] at h; cases h
    | false =>
      rw [c, if_neg (by decide)] at h
      match i, e with
      | 0, e =>
        simp at e
        subst e
        exact c
      | i + 1, e =>
        have := firstBad_none r (k + 1) h i q (by simpa using e)
        rwa [show k + 1 + i = k + (i + 1) by omega] at this
theorem plOk_at {p : Pl} {n m : Int} (h : plOk p n m = true) : (p.1 = .hand → 0 ≤ p.2 ∧ p.2 < n) ∧ (p.1 = .box → 0 ≤ p.2 ∧ p.2 < m) ∧ p.1 ≠ .gone := by
  obtain ⟨w, i⟩ := p
  unfold plOk numOk at h
  cases w
  · simp at h
    exact ⟨fun _ => h, fun z => by simp at z, by simp⟩
  · simp at h
    exact ⟨fun z => by simp at z, fun _ => h, by simp⟩
  · simp at h
theorem errOf_none {d : Hs} (h : errOf d.hands d.bs d.ts d.ss = none) : (∀ (i : Nat) q, d.bs[i]? = some q → plOk q d.hands i = true) ∧ (∀ (i : Nat) q, d.ts[i]? = some q → plOk q d.hands d.bs.length = true) ∧ (∀ (i : Nat) q, d.ss[i]? = some q → plOk q d.hands d.bs.length = true) := by
  unfold errOf at h
  split at h
  · cases h
  split at h
  · cases h
  next hb =>
  split at h
  · cases h
  next ht =>
  split at h
  · cases h
  next hs =>
  unfold badBoxes at hb
  split at hb
  · cases hb
  refine ⟨fun i q e => ?_, fun i q e => ?_, fun i q e => ?_⟩
  · have := firstBad_none _ _ hb i q e
    unfold badB at this
    rw [Nat.zero_add] at this
    simp at this
    exact this.2
  · have := firstBad_none _ _ ht i q e
    unfold badT at this
    simp at this
    exact this.2
  · have := firstBad_none _ _ hs i q e
    unfold badS at this
    simp at this
    exact this.1.2
theorem HsOk.wf {d : Hs} (h : HsOk d) : Wf d := by
  obtain ⟨hb, ht, hs⟩ := errOf_none h.okE
  have one : ∀ (k : Kd) (q : Pl) (m : Int), plOk q d.hands m = true → m ≤ d.bs.length → PlOk d k q := fun k q m e hm => by
    obtain ⟨h1, h2, h3⟩ := plOk_at e
    exact ⟨h1, fun z => by obtain ⟨a, b⟩ := h2 z; exact ⟨q.2.toNat, by omega, by omega⟩, fun z => absurd z h3⟩
  refine ⟨fun k i q e => ?_, id, fun i j e => ?_⟩
  · cases k
    · have := (List.getElem?_eq_some_iff.mp (show d.bs[i]? = some q from e)).1
      exact one _ q i (hb i q e) (by omega)
    · exact one _ q _ (ht i q e) (Int.le_refl _)
    · exact one _ q _ (hs i q e) (Int.le_refl _)
  · have := (plOk_at (hb i _ e)).2.1 rfl
    show j < i
    have h2 : ((j : Nat) : Int) < (i : Nat) := this.2
    omega
theorem Wf.holdB {d : Hs} (w : Wf d) : ∀ j : Nat, j < d.bs.length → ∃ r n, Hold d r n (.box, (j : Int)) := by
  obtain ⟨ρ, hρ⟩ := w.ac
  have go : ∀ m j : Nat, ρ j < m → j < d.bs.length → ∃ r n, Hold d r n (.box, (j : Int)) := by
    intro m
    induction m with
    | zero => intro j h; omega
    | succ m ih =>
      intro j h hj
      obtain ⟨q, hq⟩ : ∃ q, d.bs[j]? = some q := ⟨_, List.getElem?_eq_getElem hj⟩
      by_cases c : q.1 = .box
      · obtain ⟨j', e1, e2⟩ := (w.pl .box j q hq).2.1 c
        have eq : q = (.box, (j' : Int)) := Prod.ext c e1
        subst eq
        obtain ⟨r, n, hr⟩ := ih j' (by have := hρ j j' hq; omega) e2
        exact ⟨r, n + 1, j, rfl, _, hq, hr⟩
      · exact ⟨q, 1, j, rfl, q, hq, c, rfl⟩
  exact fun j => go (ρ j + 1) j (by omega)
theorem Wf.hold {d : Hs} (w : Wf d) {p : It} {q : Pl} (h : whereD d p = some q) : ∃ r n, Hold d r n q := by
  by_cases c : q.1 = .box
  · obtain ⟨j, e1, e2⟩ := (w.pl p.1 p.2 q h).2.1 c
    have eq : q = (.box, (j : Int)) := Prod.ext c e1
    subst eq
    exact w.holdB j e2
  · exact ⟨q, 0, c, rfl⟩
theorem Hold.end {d : Hs} {r : Pl} : ∀ {n : Nat} {z : Pl}, Hold d r n z → r.1 ≠ .box
  | 0, _, h => by obtain ⟨h, e⟩ := h; rw [← e]; exact h
  | _ + 1, _, ⟨_, _, _, _, h⟩ => h.end
/-- what a call of the holder gives -/
def endV (r : Pl) : V := if r.1 = .hand then .int r.2 else .non
section
variable {P : Program} {w : World} {K : PySem.W.Frag} {mg : Str → Option Value} {base : Heap}
def spLoads (K : PySem.W.Frag) : Sp := fun vs H Q _ => ∃ (x y : V) (d : Hs) (q : Pl), vs = [x, y] ∧ Dp K H x (stD d) ∧ Dp K H y (plD q) ∧ Ls d ∧ ∀ p xs H', Same H H' → H' p = some (.lst xs) → DpAll K H' xs ((loadsOf d q).map itP) → Q (.ref p) H'
def spSealsAt (K : PySem.W.Frag) : Sp := fun vs H Q _ => ∃ (x y : V) (d : Hs) (q : Pl), vs = [x, y] ∧ Dp K H x (stD d) ∧ Dp K H y (plD q) ∧ Ls d ∧ ∀ p xs H', Same H H' → H' p = some (.lst xs) → DpAll K H' xs ((atOf d.ss .sl q).map itP) → Q (.ref p) H'
theorem scLoads : FnScope ["state", "place", "boxes", "number", "other", "things"] ["state", "place"] (defScope sLoads) := ⟨rfl, rfl, rfl, by decide +kernel, rfl, by decide +kernel, by decide +kernel⟩
theorem scSealsAt : FnScope ["state", "place", "number", "other"] ["state", "place"] (defScope sSealsAt) := ⟨rfl, rfl, rfl, by decide +kernel, rfl, by decide +kernel, by decide +kernel⟩
theorem at_len (l : List Pl) (k : Kd) (q : Pl) : (atOf l k q).length ≤ l.length := by
  unfold atOf
  rw [List.length_map]
  have := List.length_filter_le (fun i => decide (l[i]? = some q)) (List.range l.length)
  rw [List.length_range] at this
  exact this
theorem ok_loads {f : Addr} {fd : FuncData} (F : Fun K "loads_at" "loads_at" sLoads f fd) (B : Bt mg) : FnOk P w K mg base CX0 1 f fd ["state", "place"] (spLoads K) := by
  refine F.ok scLoads (fun vs H Q E h => ?_) (fun cdv A outer s H vs Q E hr h => ?_)
  · obtain ⟨x, y, d, q, rfl, _⟩ := h
    rfl
  · obtain ⟨x, y, d, q, rfl, hx, hy, hL, k⟩ := h
    have hu : (cxOf CX0 P w K mg base ["state", "place", "boxes", "number", "other", "things"] "loads_at" (defScope sLoads) f cdv A outer s H E).nox.A.units + 64 < cLine := by have := hr.un; show (A.deeper _).units + 64 < cLine; omega
    refine ⟨_, pss_cons (ps_setLc (i := 2) (own := [("number", 3), ("other", 4)]) (g := gTup K 2 (gCons (gName 3) (gCons (gName 4) gNil))) (tt := tTest (tOp (rEqD K) (tVar 4) (tVar 1))) (te := tTup (tCons (tC (.str ("box" : Str))) (tCons (tVar 3) tNil))) rfl scLoads.nd rfl rfl (sw_true rfl rfl rfl (by decide +kernel))
        (pi_enumT (by rfl) B.enu (pa_cons (pe_ix ix_tup (pv 0) pe_int (fun _ _ => rfl)) pa_nil))
        (blkOk_by (own := [("number", 3), ("other", 4)]) (N := ["state", "place", "boxes", "number", "other", "things"]) (sc := defScope sLoads) (by decide +kernel)) (fun _ _ _ _ _ => pg_tup (by rfl) (pgs_cons (pg_name (i := 3) scLoads.nd rfl (.inl rfl)) (pgs_cons (pg_name (i := 4) scLoads.nd rfl (.inl rfl)) pgs_nil)))
        (fun _ _ _ _ _ => pts_one (pt_cmpR (op_eqD hu) (pv 4) (pv 1) (nomark _))) (fun _ _ _ _ _ => pe_tup (pa_cons pe_str (pa_cons (pv 3) pa_nil))))
      (pss_cons (ps_setLc (i := 5) (own := [("number", 3), ("other", 4)]) (g := gTup K 2 (gCons (gName 3) (gCons (gName 4) gNil))) (tt := tTest (tOp (rEqD K) (tVar 4) (tVar 1))) (te := tTup (tCons (tC (.str ("thing" : Str))) (tCons (tVar 3) tNil))) rfl scLoads.nd rfl rfl (sw_true rfl rfl rfl (by decide +kernel))
        (pi_enumT (by rfl) B.enu (pa_cons (pe_ix ix_tup (pv 0) pe_int (fun _ _ => rfl)) pa_nil))
        (blkOk_by (own := [("number", 3), ("other", 4)]) (N := ["state", "place", "boxes", "number", "other", "things"]) (sc := defScope sLoads) (by decide +kernel)) (fun _ _ _ _ _ => pg_tup (by rfl) (pgs_cons (pg_name (i := 3) scLoads.nd rfl (.inl rfl)) (pgs_cons (pg_name (i := 4) scLoads.nd rfl (.inl rfl)) pgs_nil)))
        (fun _ _ _ _ _ => pts_one (pt_cmpR (op_eqD hu) (pv 4) (pv 1) (nomark _))) (fun _ _ _ _ _ => pe_tup (pa_cons pe_str (pa_cons (pv 3) pa_nil))))
      (pss_one (ps_ret (pe_op op_cat (pv 2) (pv 5))))), ?_⟩
    obtain ⟨a, v1, v2, v3, rfl, sa, d1, d2, d3⟩ := st_at hx
    obtain ⟨a1, x1, rfl, s1, dl1, l1⟩ := pls_at d1
    obtain ⟨a2, x2, rfl, s2, dl2, l2⟩ := pls_at d2
    have lb := hL.b
    have lt := hL.t
    refine ⟨_, rfl, a, _, 0, _, rfl, rfl, sa, rfl, a1, x1, rfl, s1, fun D1 hD1 => ?_⟩
    refine lc_at (K := K) .box d.bs 3 4 q (by decide) (by show 3 < 6; decide) (by show 4 < 6; decide) hD1 s1 dl1 (by omega) (fun n z y' H' T hz dz e hT => ?_) (fun H1 z1 e1 hz1 dz1 => ?_)
    · refine ⟨_, rfl, _, rfl, plD z, plD q, dz, Dp.same e _ _ hy, shaped_pl _, shaped_pl _, _, rfl, ?_⟩
      rw [eqv_pl]
      exact hT _ (Same.refl _)
    refine ⟨_, rfl, a, _, 1, _, rfl, rfl, SqT.same e1 sa, rfl, a2, x2, rfl, SqT.same e1 s2, fun D2 hD2 => ?_⟩
    refine lc_at (K := K) .thing d.ts 3 4 q (by decide) (by show 3 < 6; decide) (by show 4 < 6; decide) hD2 (SqT.same e1 s2) (Dp.sames e1 _ _ dl2) (by omega) (fun n z y' H' T hz dz e hT => ?_) (fun H2 z2 e2 hz2 dz2 => ?_)
    · refine ⟨_, rfl, _, rfl, plD z, plD q, dz, Dp.same (e1.trans e) _ _ hy, shaped_pl _, shaped_pl _, _, rfl, ?_⟩
      rw [eqv_pl]
      exact hT _ (Same.refl _)
    have ln1 : z1.length ≤ 100 := by
      rw [DpAll.len dz1, List.length_map]
      have := at_len d.bs .box q
      omega
    have ln2 : z2.length ≤ 100 := by
      rw [DpAll.len dz2, List.length_map]
      have := at_len d.ts .thing q
      omega
    refine ⟨_, rfl, _, rfl, D1, D2, z1, z2, rfl, rfl, e2 _ _ hz1, hz2, by rw [sizeLine_eq]; omega, fun p hp => ?_⟩
    have f1 := same_upd (o := HO.lst (z1 ++ z2)) hp
    refine k _ _ _ ((e1.trans e2).trans f1) upd_same ?_
    unfold loadsOf
    rw [List.map_append]
    exact DpAll.app (Dp.sames (e2.trans f1) _ _ dz1) (Dp.sames f1 _ _ dz2)
theorem ok_sealsat {f : Addr} {fd : FuncData} (F : Fun K "seals_at" "seals_at" sSealsAt f fd) (B : Bt mg) : FnOk P w K mg base CX0 1 f fd ["state", "place"] (spSealsAt K) := by
  refine F.ok scSealsAt (fun vs H Q E h => ?_) (fun cdv A outer s H vs Q E hr h => ?_)
  · obtain ⟨x, y, d, q, rfl, _⟩ := h
    rfl
  · obtain ⟨x, y, d, q, rfl, hx, hy, hL, k⟩ := h
    have hu : (cxOf CX0 P w K mg base ["state", "place", "number", "other"] "seals_at" (defScope sSealsAt) f cdv A outer s H E).nox.A.units + 64 < cLine := by have := hr.un; show (A.deeper _).units + 64 < cLine; omega
    refine ⟨_, pss_one (ps_ret (pe_lc (own := [("number", 2), ("other", 3)]) (g := gTup K 2 (gCons (gName 2) (gCons (gName 3) gNil))) (tt := tTest (tOp (rEqD K) (tVar 3) (tVar 1))) (te := tTup (tCons (tC (.str ("seal" : Str))) (tCons (tVar 2) tNil))) rfl scSealsAt.nd
        (pi_enumT (by rfl) B.enu (pa_cons (pe_ix ix_tup (pv 0) pe_int (fun _ _ => rfl)) pa_nil))
        (blkOk_by (own := [("number", 2), ("other", 3)]) (N := ["state", "place", "number", "other"]) (sc := defScope sSealsAt) (by decide +kernel)) (fun _ _ _ _ _ => pg_tup (by rfl) (pgs_cons (pg_name (i := 2) scSealsAt.nd rfl (.inl rfl)) (pgs_cons (pg_name (i := 3) scSealsAt.nd rfl (.inl rfl)) pgs_nil)))
        (fun _ _ _ _ _ => pts_one (pt_cmpR (op_eqD hu) (pv 3) (pv 1) (nomark _))) (fun _ _ _ _ _ => pe_tup (pa_cons pe_str (pa_cons (pv 2) pa_nil))))), ?_⟩
    obtain ⟨a, v1, v2, v3, rfl, sa, d1, d2, d3⟩ := st_at hx
    obtain ⟨a3, x3, rfl, s3, dl3, l3⟩ := pls_at d3
    have ls := hL.s
    refine ⟨_, rfl, a, _, 2, _, rfl, rfl, sa, rfl, a3, x3, rfl, s3, fun D1 hD1 => ?_⟩
    refine lc_at (K := K) .sl d.ss 2 3 q (by decide) (by show 2 < 4; decide) (by show 3 < 4; decide) hD1 s3 dl3 (by omega) (fun n z y' H' T hz dz e hT => ?_) (fun H1 z1 e1 hz1 dz1 => ?_)
    · refine ⟨_, rfl, _, rfl, plD z, plD q, dz, Dp.same e _ _ hy, shaped_pl _, shaped_pl _, _, rfl, ?_⟩
      rw [eqv_pl]
      exact hT _ (Same.refl _)
    exact k _ _ _ e1 hz1 dz1
/-! ### holder_in, _law_holder -/
def spHolder (K : PySem.W.Frag) : Sp := fun vs H Q _ => ∃ (x y : V) (d : Hs) (p : It) (q r : Pl) (n : Nat), vs = [x, y] ∧ Dp K H x (stD d) ∧ Dp K H y (itP p) ∧ whereD d p = some q ∧ Hold d r n q ∧ ∀ H', Same H H' → Q (endV r) H'
end
end Kw


set_option Elab.async false
set_option linter.all false
set_option maxRecDepth 100000
set_option maxHeartbeats 4000000
namespace Kw
open PySem PySem.Spec PyProof.Rows L2
/-! ### sights -/
inductive Sg where
  | loc (p : It) (q : Pl)
  | bare (b : Nat)
  | inn (b : Nat) (l : List It)
  | gone (s : Nat)
  | nt (g : Sg)
def sgW : Sg → Str
  | .loc _ _ => "at"
  | .bare _ => "bare"
  | .inn _ _ => "in"
  | .gone _ => "gone"
  | .nt _ => "not"
def itsD (l : List It) : PyData := .tuple (l.map itP)
mutual
def sgT : Sg → List PyData
  | .loc p q => [itP p, plD q]
  | .bare b => [.int (b : Nat)]
  | .inn b l => [.int (b : Nat), itsD l]
  | .gone s => [.int (s : Nat)]
  | .nt g => [.tuple (.str (sgW g) :: sgT g)]
end
def sgD (g : Sg) : PyData := .tuple (.str (sgW g) :: sgT g)
def isS (d : Hs) : Sg → Bool
  | .loc p q => decide (whereD d p = some q)
  | .bare b => decide ((Wd.box, (b : Int)) ∉ d.ss)
  | .inn b l => decide (insideOf d b = l)
  | .gone s => decide (d.ss[s]? = some (.gone, 0))
  | .nt g => !isS d g
def depS : Sg → Nat
  | .nt g => depS g + 1
  | _ => 0
def KnS (d : Hs) : Sg → Prop
  | .loc p _ => (whereD d p).isSome
  | .bare b => b < d.bs.length
  | .inn b l => b < d.bs.length ∧ l.length ≤ 1000
  | .gone s => s < d.ss.length
  | .nt g => KnS d g
theorem sg_at {K : PySem.W.Frag} {H : Hp} {x : V} {g : Sg} (h : Dp K H x (sgD g)) : ∃ a vs, x = .ref a ∧ SqT K H a (.str (sgW g) :: vs) ∧ DpAll K H vs (sgT g) := by
  cases h with
  | tup hs ha =>
    cases ha with
    | cons d1 r =>
      cases d1
      exact ⟨_, _, rfl, hs, r⟩
theorem lay_its : ∀ ps : List It, PyData.canLayAll0 (ps.map itP) = true
  | [] => rfl
  | p :: ps => by simp [PyData.canLayAll0, lay_it p, lay_its ps]
theorem depth_its : ∀ ps : List It, PyData.depthAll (ps.map itP) ≤ 1
  | [] => by simp [PyData.depthAll]
  | p :: ps => by
    have := depth_its ps
    have := depth_it p
    simp [PyData.depthAll]
    omega
theorem shaped_its (ps : List It) : SeqAt.shaped (itsD ps) = true := by
  have h1 := lay_its ps
  have h2 := depth_its ps
  simp [SeqAt.shaped, itsD, PyData.canLay0, PyData.depth, h1]
  omega
theorem eqv_its (l m : List It) : PyData.eqv (itsD l) (itsD m) = decide (l = m) := by
  have go : ∀ l m : List It, PyData.eqvAll (l.map itP) (m.map itP) = decide (l = m) := by
    intro l
    induction l with
    | nil => intro m; cases m with
      | nil => rfl
      | cons a r => simp [PyData.eqvAll]
    | cons a r ih => intro m; cases m with
      | nil => simp [PyData.eqvAll]
      | cons c s =>
        show (PyData.eqv (itP a) (itP c) && PyData.eqvAll (r.map itP) (s.map itP)) = _
        rw [eqv_it, ih]
        by_cases h1 : a = c <;> by_cases h2 : r = s <;> simp [h1, h2]
  exact go l m
section
variable {P : Program} {w : World} {K : PySem.W.Frag} {mg : Str → Option Value} {base : Heap}
theorem its_at {H : Hp} {x : V} {l : List It} (h : Dp K H x (itsD l)) : ∃ a xs, x = .ref a ∧ SqT K H a xs ∧ DpAll K H xs (l.map itP) ∧ xs.length = l.length := by
  cases h with
  | tup hs ha => exact ⟨_, _, rfl, hs, ha, by rw [DpAll.len ha, List.length_map]⟩
theorem sg_wd {d : Hs} (g : Sg) : (sgW g = ("not" : Str) ↔ ∃ h, g = .nt h) ∧ (sgW g = ("at" : Str) ↔ ∃ p q, g = .loc p q) ∧ (sgW g = ("bare" : Str) ↔ ∃ b, g = .bare b) ∧ (sgW g = ("in" : Str) ↔ ∃ b l, g = .inn b l) ∧ (sgW g = ("gone" : Str) ↔ ∃ b, g = .gone b) := by
  have n1 : ¬ ("at" : Str) = "not" := by decide +kernel
  have n2 : ¬ ("at" : Str) = "bare" := by decide +kernel
  have n3 : ¬ ("at" : Str) = "in" := by decide +kernel
  have n4 : ¬ ("at" : Str) = "gone" := by decide +kernel
  have n5 : ¬ ("bare" : Str) = "not" := by decide +kernel
  have n6 : ¬ ("bare" : Str) = "in" := by decide +kernel
  have n7 : ¬ ("bare" : Str) = "gone" := by decide +kernel
  have n8 : ¬ ("in" : Str) = "not" := by decide +kernel
  have n9 : ¬ ("in" : Str) = "gone" := by decide +kernel
  have n10 : ¬ ("gone" : Str) = "not" := by decide +kernel
  cases g <;> simp [sgW, n1, n2, n3, n4, n5, n6, n7, n8, n9, n10, Ne.symm n1, Ne.symm n2, Ne.symm n3, Ne.symm n4, Ne.symm n5, Ne.symm n6, Ne.symm n7, Ne.symm n8, Ne.symm n9, Ne.symm n10]
/-! ### _law_holder -/
/-! ### _law_is -/
def spIs (K : PySem.W.Frag) (n : Nat) : Sp := fun vs H Q _ => ∃ (x y : V) (d : Hs) (g : Sg), vs = [x, y] ∧ depS g < n ∧ Dp K H x (stD d) ∧ Dp K H y (sgD g) ∧ KnS d g ∧ Ls d ∧ ∀ H', Same H H' → Q (.bl (isS d g)) H'
end
end Kw


set_option Elab.async false
set_option linter.all false
set_option maxRecDepth 100000
set_option maxHeartbeats 4000000
namespace Kw
open PySem PySem.Spec PyProof.Rows L2
structure OnceF (P : Program) (w : World) (K : PySem.W.Frag) (mg : Str → Option Value) (base : Heap) (x : Str) (n : Nat) (ps : List Str) (sp : Sp) (g : Addr) (fd : FuncData) : Prop where
  G : FnOk P w K mg base CX0 n g fd ps sp
  m : mg x = some (.ref g)
  k : PySem.W.keepIn K (.ref g) = true
  b : Binds K fd ps []
structure OnceX (P : Program) (w : World) (K : PySem.W.Frag) (mg : Str → Option Value) (base : Heap) (x : Str) (n : Nat) (ps : List Str) (sp : Sp) (g : Addr) (fd : FuncData) : Prop where
  G : FnOk P w K mg base (L2.CX P w) n g fd ps sp
  m : mg x = some (.ref g)
  k : PySem.W.keepIn K (.ref g) = true
  b : Binds K fd ps []
/-! ### the errors of a sight -/
def GoodI (d : Hs) (l : List It) : Prop := ∀ (i : Nat) p, l[i]? = some p → (inH d p ∧ p.1 ≠ .sl) ∧ ∀ p', 0 < i → l[i - 1]? = some p' → itLt p' p = true
open Classical in
noncomputable def unkS (d : Hs) : Sg → Str
  | .loc p q => if ¬ inH d p then "UnknownItem" else if q.1 = .hand then (if d.hands ≤ q.2 then "UnknownHand" else "") else if (d.bs.length : Int) ≤ q.2 then "UnknownBox" else ""
  | .bare b => if d.bs.length ≤ b then "UnknownBox" else ""
  | .inn b l => if d.bs.length ≤ b then "UnknownBox" else if GoodI d l then "" else "UnknownItem"
  | .gone s => if d.ss.length ≤ s then "UnknownSeal" else ""
  | .nt g => unkS d g
def SmS : Sg → Prop
  | .loc p q => p.2 ≤ 1000 ∧ 0 ≤ q.2 ∧ q.2 ≤ 1000
  | .bare b => b ≤ 1000
  | .inn b l => b ≤ 1000 ∧ l.length ≤ 1000 ∧ ∀ p ∈ l, p.2 ≤ 1000
  | .gone s => s ≤ 1000
  | .nt g => SmS g
section
variable {P : Program} {w : World} {K : PySem.W.Frag} {mg : Str → Option Value} {base : Heap}
/-! ### need_place -/
def plErr (d : Hs) (q : Pl) : Str := if q.1 = .hand then (if d.hands ≤ q.2 then "UnknownHand" else "") else if (d.bs.length : Int) ≤ q.2 then "UnknownBox" else ""
def spNPlace (K : PySem.W.Frag) (C : Addr) (ce : Str → Addr) : Sp := fun vs H Q E => ∃ (h : Addr) (y : V) (q : Pl) (d : Hs), vs = [.ref h, y] ∧ HouseAt K C H h d ∧ Dp K H y (plD q) ∧ 0 ≤ q.2 ∧ q.2 ≤ 1000 ∧
  (∀ z, plErr d q = z → z ≠ "" → Rp (ce z) H E) ∧ (plErr d q = "" → ∀ H', Same H H' → Q .non H')
/-! ### need_loads -/
def spNLoads (K : PySem.W.Frag) (C X : Addr) : Sp := fun vs H Q E => ∃ (h : Addr) (y : V) (l : List It) (d : Hs), vs = [.ref h, y] ∧ HouseAt K C H h d ∧ Dp K H y (itsD l) ∧ l.length ≤ 1000 ∧ (∀ p ∈ l, p.2 ≤ 1000) ∧
  (¬ GoodI d l → Rp X H E) ∧ (GoodI d l → ∀ H', Same H H' → Q .non H')
theorem its_get {H : Hp} {xs : List V} {l : List It} {i : Nat} {y : V} (h : DpAll K H xs (l.map itP)) (e : xs[i]? = some y) : ∃ p, l[i]? = some p ∧ Dp K H y (itP p) := by
  obtain ⟨d, hd1, hd2⟩ := DpAll.get h e
  rw [List.getElem?_map] at hd1
  cases hl : l[i]? with
  | none => rw [hl] at hd1; cases hd1
  | some p =>
    rw [hl] at hd1
    cases hd1
    exact ⟨p, rfl, hd2⟩
/-! ### need_sight -/
def spNSight (K : PySem.W.Frag) (C : Addr) (ce : Str → Addr) (n : Nat) : Sp := fun vs H Q E => ∃ (h : Addr) (y : V) (g : Sg) (d : Hs), vs = [.ref h, y] ∧ depS g < n ∧ HouseAt K C H h d ∧ Dp K H y (sgD g) ∧ SmS g ∧
  (∀ z, unkS d g = z → z ≠ "" → Rp (ce z) H E) ∧ (unkS d g = "" → ∀ H', Same H H' → Q .non H')
/-! ### is_true -/
end
end Kw


set_option Elab.async false
set_option linter.all false
set_option maxRecDepth 100000
set_option maxHeartbeats 4000000
namespace Kw
open PySem PySem.Spec PyProof.Rows L2
abbrev sWWhere : Stmt := inClass (top 50) 4
abbrev sWIn : Stmt := inClass (top 50) 6
abbrev sWSeal : Stmt := inClass (top 50) 7
abbrev sWHeld : Stmt := inClass (top 50) 8
theorem log2_small1 {i : Int} (h0 : -1 ≤ i) (h1 : i ≤ 1000) : i.natAbs.log2 < 1920 := by
  by_cases c : i = -1
  · subst c
    decide +kernel
  · exact log2_small (by omega) h1
theorem digits_small1 {i : Int} (h0 : -1 ≤ i) (h1 : i ≤ 1000) : (toString i : Str).length ≤ 4 := by
  by_cases c : i = -1
  · subst c
    decide +kernel
  · exact digits_small (by omega) h1
/-! ### what a hand holds -/
def kdI (k : Kd) (n : Nat) : List It := (List.range n).map fun i => (k, i)
def allI (d : Hs) : List It := kdI .box d.bs.length ++ kdI .sl d.ss.length ++ kdI .thing d.ts.length
theorem kindD_its (k : Kd) (n : Nat) : kindD k.str n = (kdI k n).map itP := by
  unfold kindD kdI
  rw [List.map_map]
  rfl
theorem allI_D (d : Hs) : itemsD d = .list ((allI d).map itP) := by
  unfold itemsD allI
  rw [List.map_append, List.map_append, ← kindD_its, ← kindD_its, ← kindD_its]
  rfl
def heldL (d : Hs) (q : Pl) : List It := atOf d.bs .box q ++ atOf d.ss .sl q ++ atOf d.ts .thing q
theorem at_mem {l : List Pl} {k : Kd} {q : Pl} {p : It} (h : p ∈ atOf l k q) : p.1 = k ∧ l[p.2]? = some q := by
  unfold atOf at h
  obtain ⟨i, h1, rfl⟩ := List.mem_map.mp h
  exact ⟨rfl, of_decide_eq_true (List.mem_filter.mp h1).2⟩
theorem at_asc (l : List Pl) (k : Kd) (q : Pl) : (atOf l k q).Pairwise fun x y => itLt x y = true := by
  unfold atOf
  rw [List.pairwise_map]
  refine List.Pairwise.filter _ ?_
  refine List.Pairwise.imp ?_ List.pairwise_lt_range
  intro a b h
  exact itLt_iff.mpr (.inr ⟨rfl, h⟩)
theorem itLt_asym {x y : It} (h : itLt x y = true) : itLt y x = false := by
  cases e : itLt y x with
  | false => rfl
  | true =>
    rcases itLt_iff.mp h with a | ⟨a, b⟩ <;> rcases itLt_iff.mp e with c | ⟨c, d⟩
    · omega
    · rw [c] at a; omega
    · rw [a] at c; omega
    · omega
theorem held_asc (d : Hs) (q : Pl) : (heldL d q).Pairwise fun x y => itLt x y = true := by
  unfold heldL
  have r1 : rkd .box < rkd .sl := by decide
  have r2 : rkd .sl < rkd .thing := by decide
  refine List.pairwise_append.mpr ⟨List.pairwise_append.mpr ⟨at_asc _ _ _, at_asc _ _ _, fun x hx y hy => ?_⟩, at_asc _ _ _, fun x hx y hy => ?_⟩
  · obtain ⟨a1, _⟩ := at_mem hx
    obtain ⟨a2, _⟩ := at_mem hy
    exact itLt_iff.mpr (.inl (by rw [a1, a2]; exact r1))
  · obtain ⟨a2, _⟩ := at_mem hy
    rcases List.mem_append.mp hx with hx | hx
    · obtain ⟨a1, _⟩ := at_mem hx
      exact itLt_iff.mpr (.inl (by rw [a1, a2]; omega))
    · obtain ⟨a1, _⟩ := at_mem hx
      exact itLt_iff.mpr (.inl (by rw [a1, a2]; exact r2))
theorem sorted_held {d : Hs} {q : Pl} {qs : List It} (hp : qs.Perm (loadsOf d q ++ atOf d.ss .sl q)) (ha : qs.Pairwise fun x y => itLt y x = false) : qs = heldL d q := by
  refine List.Perm.eq_of_pairwise (le := fun x y => itLt y x = false) (fun a b _ _ h1 h2 => itLt_total h2 h1) ha ((held_asc d q).imp fun h => itLt_asym h) (hp.trans ?_)
  unfold loadsOf heldL
  rw [List.append_assoc, List.append_assoc]
  exact List.Perm.append_left _ List.perm_append_comm
theorem unk_knS {d : Hs} : ∀ {g : Sg}, SmS g → unkS d g = "" → KnS d g
  | .loc p q, _, h => by
    unfold unkS at h
    by_cases c : ¬ inH d p
    · rw [if_pos c] at h; exact absurd h ne_e2
    · exact inH_where (Classical.not_not.mp c)
  | .bare b, _, h => by
    unfold unkS at h
    by_cases c : d.bs.length ≤ b
    · rw [if_pos c] at h; exact absurd h ne_e3
    · show b < d.bs.length; omega
  | .inn b l, m, h => by
    unfold unkS at h
    by_cases c : d.bs.length ≤ b
    · rw [if_pos c] at h; exact absurd h ne_e3
    · exact ⟨by omega, m.2.1⟩
  | .gone b, _, h => by
    unfold unkS at h
    by_cases c : d.ss.length ≤ b
    · rw [if_pos c] at h; exact absurd h ne_e5
    · show b < d.ss.length; omega
  | .nt g, m, h => unk_knS (g := g) m (by unfold unkS at h; exact h)
theorem Shp.good {d0 d : Hs} (s : Shp d0 d) (l : List It) : GoodI d0 l ↔ GoodI d l := by
  unfold GoodI
  simp only [s.inH]
theorem unkS_shp {d0 d : Hs} (s : Shp d0 d) : ∀ g : Sg, unkS d0 g = unkS d g
  | .loc p q => by
    have hb : d0.bs.length = d.bs.length := s.r .box
    unfold unkS
    simp only [s.h, s.inH, hb]
  | .bare b => by
    have hb : d0.bs.length = d.bs.length := s.r .box
    unfold unkS
    simp only [hb]
  | .inn b l => by
    have hb : d0.bs.length = d.bs.length := s.r .box
    have hg := s.good l
    unfold unkS
    by_cases c : GoodI d l
    · simp only [hb, if_pos c, if_pos (hg.mpr c)]
    · simp only [hb, if_neg c, if_neg (fun z => c (hg.mp z))]
  | .gone b => by
    have hb : d0.ss.length = d.ss.length := s.r .sl
    unfold unkS
    simp only [hb]
  | .nt g => by
    unfold unkS
    exact unkS_shp s g
section
variable {P : Program} {w : World} {K : PySem.W.Frag} {mg : Str → Option Value} {base : Heap}
/-! ### need_box, of any whole number near 0 -/
def spNBoxZ (K : PySem.W.Frag) (C X : Addr) : Sp := fun vs H Q E => ∃ (h : Addr) (n : Int) (d : Hs), vs = [.ref h, .int n] ∧ HouseAt K C H h d ∧ -1 ≤ n ∧ n ≤ 1000 ∧ (¬ (0 ≤ n ∧ n < d.bs.length) → Rp X H E) ∧ (0 ≤ n ∧ n < d.bs.length → Q .non H)
theorem ok_nboxZ {f g C X : Addr} {fd fdg : FuncData} (F : Fun K "need_box" "need_box" sNBox f fd) (B : Bt mg) (T : HouseC K C) (N : NumF P w K mg base g fdg) (X1 : PErr K mg "UnknownBox" X) :
    FnOk P w K mg base (L2.CX P w) 2 f fd ["house", "box"] (spNBoxZ K C X) := by
  refine F.okX scNBox (fun vs H Q E h => ?_) (fun cdv A outer s H vs Q E hr h => ?_)
  · obtain ⟨h, n, d, rfl, _⟩ := h
    rfl
  · obtain ⟨h, n, d, rfl, hh, h0, h1, kE, kQ⟩ := h
    have tk : Takes (cxOf (L2.CX P w) P w K mg base ["house", "box"] "need_box" (defScope sNBox) f cdv A outer s H E) (fun cls d _ H => E cls d H) := takes_of rfl rfl rfl rfl
    refine ⟨_, pss_one (ps_if (pt_not (pt_val (pe_call N.G hr rfl N.m N.k N.b .nil pass0 (pa_cons (pv 1) (pa_cons (pe_callB call_len_seq (by rfl) B.len PySem.boot_len (pa_cons (pe_fld (pv 0) rfl) pa_nil)) pa_nil)))))
      (pss_one (ps_raise rfl tk (SkE.pmk_own1 PySem.F.excBase_ValueError X1.ex X1.mg X1.kp (raises_own X1.sb X1.ty) rfl (pe_joined (.cons pe_str (.cons (pe_fmt (pv 1)) .nil)))))) pss_nil), ?_⟩
    obtain ⟨dx, vb, vt, vs, vst, g0, g1, g2, g3, g4⟩ := hh.ex
    obtain ⟨ab, xb, rfl, qb, db, lb⟩ := pls_at g1
    refine ⟨_, rfl, _, rfl, h, C, dx, _, _, rfl, g0, T.cl, T.nB, fs_boxes _ _ _ _ _, ab, xb, rfl, .inr qb, n, (xb.length : Nat), rfl, _, rfl, ?_⟩
    by_cases c : 0 ≤ n ∧ n < d.bs.length
    · have e : numOk n (xb.length : Nat) = true := by
        unfold numOk
        rw [decide_eq_true c.1, decide_eq_true (show n < (xb.length : Nat) by omega)]
        rfl
      rw [e]
      exact iteF (kQ c)
    · have e : numOk n (xb.length : Nat) = false := by
        unfold numOk
        by_cases c0 : 0 ≤ n
        · rw [decide_eq_false (show ¬ n < (xb.length : Nat) from fun z => c ⟨c0, by omega⟩), Bool.and_false]
        · rw [decide_eq_false c0, Bool.false_and]
      rw [e]
      have l5 := sizeLine_eq
      have l1 : (Str.empty : Str).length = 0 := rfl
      have l2 : ("there is no box " : Str).length = 16 := by decide +kernel
      have l3 := digits_small1 h0 h1
      exact iteT ⟨_, rfl, by rw [str_app]; omega, _, rfl, .inr ⟨_, rfl, log2_small1 h0 h1, _, rfl, by rw [str_app, str_app]; omega, kE c _ (Same.refl _)⟩⟩
structure WIn (K : PySem.W.Frag) (C CW : Addr) (H : Hp) (a h : Addr) (d0 d : Hs) : Prop where
  wd : WorldAt K CW H a h d
  hh : HouseAt K C H h d0
  sh : Shp d0 d
  ls : Ls d
theorem WIn.same {C CW : Addr} {H H' : Hp} {a h : Addr} {d0 d : Hs} (e : Same H H') (x : WIn K C CW H a h d0 d) : WIn K C CW H' a h d0 d := ⟨x.wd.same e, x.hh.nl (nl_same e), x.sh, x.ls⟩
/-! ### where, holder -/
def spWWhere (K : PySem.W.Frag) (C CW X : Addr) : Sp := fun vs H Q E => ∃ (a h : Addr) (y : V) (p : It) (d0 d : Hs), vs = [.ref a, y] ∧ WIn K C CW H a h d0 d ∧ Dp K H y (itP p) ∧ p.2 ≤ 1000 ∧ (¬ inH d p → Rp X H E) ∧ (∀ q, whereD d p = some q → ∀ v H', Same H H' → Dp K H' v (plD q) → Q v H')
def spWHold (K : PySem.W.Frag) (C CW X : Addr) : Sp := fun vs H Q E => ∃ (a h : Addr) (y : V) (p : It) (d0 d : Hs), vs = [.ref a, y] ∧ WIn K C CW H a h d0 d ∧ Dp K H y (itP p) ∧ p.2 ≤ 1000 ∧ Wf d ∧ (¬ inH d p → Rp X H E) ∧ (∀ q, whereD d p = some q → ∃ r n, Hold d r n q ∧ ∀ H', Same H H' → Q (endV r) H')
theorem scWWhere : FnScope ["self", "item"] ["self", "item"] (defScope sWWhere) := ⟨rfl, rfl, rfl, by decide +kernel, rfl, by decide +kernel, by decide +kernel⟩
theorem ok_wwhere {f gI gP C CW X : Addr} {fd fdI fdP : FuncData} (F : Fun K "where" "World.where" sWWhere f fd) (W : WorldC K CW) (NI : NItemF P w K mg base C X gI fdI) (L : PlF P w K mg base gP fdP) : FnOk P w K mg base (L2.CX P w) 4 f fd ["self", "item"] (spWWhere K C CW X) := by
  refine F.okX scWWhere (fun vs H Q E h => ?_) (fun cdv A outer s H vs Q E hr h => ?_)
  · obtain ⟨a, h, y, p, d0, d, rfl, _⟩ := h
    rfl
  · obtain ⟨a, h, y, p, d0, d, rfl, hw, hy, hp, kE, kQ⟩ := h
    have hr1 : Room 1 _ := hr.mono (by decide)
    have hr3 : Room 3 _ := hr
    have tk : Takes (cxOf (L2.CX P w) P w K mg base ["self", "item"] "World.where" (defScope sWWhere) f cdv A outer s H E) (fun cls d _ H => E cls d H) := takes_of rfl rfl rfl rfl
    obtain ⟨dx, fs, vst, g0, g1, g2, g3, g4, g5⟩ := hw.wd.ex
    refine ⟨_, pss_cons (ps_expr (pe_call NI.G hr3 rfl NI.m NI.k NI.b .nil (passes_call tk (fun _ _ _ _ h => h)) (pa_cons (pe_fld (pv 0) rfl) (pa_cons (pv 1) pa_nil))))
      (pss_one (ps_ret (pe_call L.G hr1 rfl L.m L.k L.b .nil pass0 (pa_cons (pe_fld (pv 0) rfl) (pa_cons (pv 1) pa_nil))))), ?_⟩
    refine ⟨_, rfl, a, CW, dx, fs, _, rfl, g0, W.cl, W.nH, g1, _, rfl, h, y, p, d0, rfl, hw.hh, hy, hp, fun c => kE fun z => c ((hw.sh.inH p).mpr z), fun c => ?_⟩
    obtain ⟨q, hq⟩ := Option.isSome_iff_exists.mp (inH_where ((hw.sh.inH p).mp c))
    exact ⟨_, rfl, a, CW, dx, fs, vst, rfl, g0, W.cl, W.nS, g2, _, rfl, vst, y, d, p, q, rfl, g5, hy, hq, kQ q hq⟩
/-! ### what is inside, what is on it -/
def spWIn (K : PySem.W.Frag) (C CW X : Addr) : Sp := fun vs H Q E => ∃ (a h : Addr) (n : Int) (d0 d : Hs), vs = [.ref a, .int n] ∧ WIn K C CW H a h d0 d ∧ -1 ≤ n ∧ n ≤ 1000 ∧ (¬ (0 ≤ n ∧ n < d.bs.length) → Rp X H E) ∧ (∀ b : Nat, n = (b : Int) → b < d.bs.length → ∀ v H', Same H H' → Dp K H' v (.list ((insideOf d b).map itP)) → Q v H')
def spWSeal (K : PySem.W.Frag) (C CW X : Addr) : Sp := fun vs H Q E => ∃ (a h : Addr) (n : Int) (d0 d : Hs), vs = [.ref a, .int n] ∧ WIn K C CW H a h d0 d ∧ -1 ≤ n ∧ n ≤ 1000 ∧ (¬ (0 ≤ n ∧ n < d.bs.length) → Rp X H E) ∧ (∀ b : Nat, n = (b : Int) → b < d.bs.length → ((Wd.box, (b : Int)) ∈ d.ss → ∀ H', Same H H' → Q (.int (onIx d b : Nat)) H') ∧ ((Wd.box, (b : Int)) ∉ d.ss → ∀ H', Same H H' → Q .non H'))
theorem scWIn : FnScope ["self", "box"] ["self", "box"] (defScope sWIn) := ⟨rfl, rfl, rfl, by decide +kernel, rfl, by decide +kernel, by decide +kernel⟩
theorem scWSeal : FnScope ["self", "box"] ["self", "box"] (defScope sWSeal) := ⟨rfl, rfl, rfl, by decide +kernel, rfl, by decide +kernel, by decide +kernel⟩
theorem ok_win {f gB gL C CW X : Addr} {fd fdB fdL : FuncData} (F : Fun K "inside" "World.inside" sWIn f fd) (W : WorldC K CW) (NB : OnceX P w K mg base "need_box" 2 ["house", "box"] (spNBoxZ K C X) gB fdB) (L : OnceF P w K mg base "loads_at" 1 ["state", "place"] (spLoads K) gL fdL) : FnOk P w K mg base (L2.CX P w) 3 f fd ["self", "box"] (spWIn K C CW X) := by
  refine F.okX scWIn (fun vs H Q E h => ?_) (fun cdv A outer s H vs Q E hr h => ?_)
  · obtain ⟨a, h, n, d0, d, rfl, _⟩ := h
    rfl
  · obtain ⟨a, h, n, d0, d, rfl, hw, h0, h1, kE, kQ⟩ := h
    have hr1 : Room 1 _ := hr.mono (by decide)
    have hr2 : Room 2 _ := hr
    have tk : Takes (cxOf (L2.CX P w) P w K mg base ["self", "box"] "World.inside" (defScope sWIn) f cdv A outer s H E) (fun cls d _ H => E cls d H) := takes_of rfl rfl rfl rfl
    obtain ⟨dx, fs, vst, g0, g1, g2, g3, g4, g5⟩ := hw.wd.ex
    refine ⟨_, pss_cons (ps_expr (pe_call NB.G hr2 rfl NB.m NB.k NB.b .nil (passes_call tk (fun _ _ _ _ h => h)) (pa_cons (pe_fld (pv 0) rfl) (pa_cons (pv 1) pa_nil))))
      (pss_one (ps_ret (pe_call L.G hr1 rfl L.m L.k L.b .nil pass0 (pa_cons (pe_fld (pv 0) rfl) (pa_cons (pe_tup (pa_cons pe_str (pa_cons (pv 1) pa_nil))) pa_nil))))), ?_⟩
    have hb : d0.bs.length = d.bs.length := hw.sh.r .box
    refine ⟨_, rfl, a, CW, dx, fs, _, rfl, g0, W.cl, W.nH, g1, _, rfl, h, n, d0, rfl, hw.hh, h0, h1, fun c => kE (by rw [← hb]; exact c), fun c => ?_⟩
    obtain ⟨b, rfl⟩ := nat_of c.1
    refine ⟨_, rfl, a, CW, dx, fs, vst, rfl, g0, W.cl, W.nS, g2, _, rfl, (by show 2 ≤ sizeLine; decide), fun t ht => ?_⟩
    have f1 := same_upd (o := HO.tup [.str ("box" : Str), .int (b : Nat)]) ht
    exact ⟨vst, .ref t, d, (.box, (b : Int)), rfl, Dp.same f1 _ _ g5, .tup (SqT.of upd_same) (.cons (.str _) (.cons (.int _) .nil)), hw.ls, fun p xs H' e hp dv' => kQ b rfl (by omega) _ H' (f1.trans e) (.lst (SqL.of hp) dv')⟩
theorem ok_wseal {f gB gL C CW X : Addr} {fd fdB fdL : FuncData} (F : Fun K "seal" "World.seal" sWSeal f fd) (W : WorldC K CW) (NB : OnceX P w K mg base "need_box" 2 ["house", "box"] (spNBoxZ K C X) gB fdB) (L : OnF P w K mg base gL fdL) : FnOk P w K mg base (L2.CX P w) 3 f fd ["self", "box"] (spWSeal K C CW X) := by
  refine F.okX scWSeal (fun vs H Q E h => ?_) (fun cdv A outer s H vs Q E hr h => ?_)
  · obtain ⟨a, h, n, d0, d, rfl, _⟩ := h
    rfl
  · obtain ⟨a, h, n, d0, d, rfl, hw, h0, h1, kE, kQ⟩ := h
    have hr1 : Room 1 _ := hr.mono (by decide)
    have hr2 : Room 2 _ := hr
    have tk : Takes (cxOf (L2.CX P w) P w K mg base ["self", "box"] "World.seal" (defScope sWSeal) f cdv A outer s H E) (fun cls d _ H => E cls d H) := takes_of rfl rfl rfl rfl
    obtain ⟨dx, fs, vst, g0, g1, g2, g3, g4, g5⟩ := hw.wd.ex
    refine ⟨_, pss_cons (ps_expr (pe_call NB.G hr2 rfl NB.m NB.k NB.b .nil (passes_call tk (fun _ _ _ _ h => h)) (pa_cons (pe_fld (pv 0) rfl) (pa_cons (pv 1) pa_nil))))
      (pss_one (ps_ret (pe_call L.G hr1 rfl L.m L.k L.b .nil pass0 (pa_cons (pe_fld (pv 0) rfl) (pa_cons (pv 1) pa_nil))))), ?_⟩
    have hb : d0.bs.length = d.bs.length := hw.sh.r .box
    refine ⟨_, rfl, a, CW, dx, fs, _, rfl, g0, W.cl, W.nH, g1, _, rfl, h, n, d0, rfl, hw.hh, h0, h1, fun c => kE (by rw [← hb]; exact c), fun c => ?_⟩
    obtain ⟨b, rfl⟩ := nat_of c.1
    refine ⟨_, rfl, a, CW, dx, fs, vst, rfl, g0, W.cl, W.nS, g2, _, rfl, vst, b, d, rfl, g5, kQ b rfl (by omega)⟩
/-! ### held -/
def spWHeld (K : PySem.W.Frag) (C CW X : Addr) : Sp := fun vs H Q E => ∃ (a h : Addr) (n : Int) (d0 d : Hs), vs = [.ref a, .int n] ∧ WIn K C CW H a h d0 d ∧ 0 ≤ n ∧ n ≤ 1000 ∧ (d0.hands ≤ n → Rp X H E) ∧ (n < d0.hands → ∀ v H', Same H H' → Dp K H' v (.list ((heldL d (.hand, n)).map itP)) → Q v H')
theorem scWHeld : FnScope ["self", "hand", "place"] ["self", "hand"] (defScope sWHeld) := ⟨rfl, rfl, rfl, by decide +kernel, rfl, by decide +kernel, by decide +kernel⟩
theorem ok_wheld {f gH gL gS C CW X : Addr} {fd fdH fdL fdS : FuncData} (F : Fun K "held" "World.held" sWHeld f fd) (mS : mg "sorted" = none) (W : WorldC K CW) (NH : NHandF P w K mg base C X gH fdH) (L : OnceF P w K mg base "loads_at" 1 ["state", "place"] (spLoads K) gL fdL) (S : OnceF P w K mg base "seals_at" 1 ["state", "place"] (spSealsAt K) gS fdS) : FnOk P w K mg base (L2.CX P w) 3 f fd ["self", "hand"] (spWHeld K C CW X) := by
  refine F.okX scWHeld (fun vs H Q E h => ?_) (fun cdv A outer s H vs Q E hr h => ?_)
  · obtain ⟨a, h, n, d0, d, rfl, _⟩ := h
    rfl
  · obtain ⟨a, h, n, d0, d, rfl, hw, h0, h1, kE, kQ⟩ := h
    have hr1 : Room 1 _ := hr.mono (by decide)
    have hr2 : Room 2 _ := hr
    have tk : Takes (cxOf (L2.CX P w) P w K mg base ["self", "hand", "place"] "World.held" (defScope sWHeld) f cdv A outer s H E) (fun cls d _ H => E cls d H) := takes_of rfl rfl rfl rfl
    obtain ⟨dx, fs, vst, g0, g1, g2, g3, g4, g5⟩ := hw.wd.ex
    refine ⟨_, pss_cons (ps_expr (pe_call NH.G hr2 rfl NH.m NH.k NH.b .nil (passes_call tk (fun _ _ _ _ h => h)) (pa_cons (pe_fld (pv 0) rfl) (pa_cons (pv 1) pa_nil))))
      (pss_cons (ps_set (i := 2) scWHeld.nd rfl (.inl rfl) (pe_tup (pa_cons pe_str (pa_cons (pv 1) pa_nil))))
      (pss_one (ps_ret (pe_callB cr_sortI (by rfl) mS (by decide +kernel) (pa_cons (pe_op op_cat (pe_call L.G hr1 rfl L.m L.k L.b .nil pass0 (pa_cons (pe_fld (pv 0) rfl) (pa_cons (pv 2) pa_nil))) (pe_call S.G hr1 rfl S.m S.k S.b .nil pass0 (pa_cons (pe_fld (pv 0) rfl) (pa_cons (pv 2) pa_nil)))) pa_nil))))), ?_⟩
    refine ⟨_, rfl, a, CW, dx, fs, _, rfl, g0, W.cl, W.nH, g1, _, rfl, h, n, d0, rfl, hw.hh, h0, h1, kE, fun c => ?_⟩
    refine ⟨_, rfl, (by show 2 ≤ sizeLine; decide), fun t ht => ?_⟩
    have f1 := same_upd (o := HO.tup [.str ("hand" : Str), .int n]) ht
    have dt : Dp K (L2.upd H t (.tup [.str ("hand" : Str), .int n])) (.ref t) (plD (.hand, n)) := .tup (SqT.of upd_same) (.cons (.str _) (.cons (.int _) .nil))
    generalize L2.upd H t (.tup [.str ("hand" : Str), .int n]) = H1 at *
    have w1 := hw.same f1
    refine ⟨_, rfl, a, CW, dx, fs, vst, rfl, f1 _ _ g0, W.cl, W.nS, g2, _, rfl, vst, .ref t, d, (.hand, n), rfl, (Dp.same f1 _ _ g5), dt, hw.ls, fun p1 x1 H2 e2 s1 a1 => ?_⟩
    have w2 := w1.same e2
    refine ⟨_, rfl, a, CW, dx, fs, vst, rfl, (f1.trans e2) _ _ g0, W.cl, W.nS, g2, _, rfl, vst, .ref t, d, (.hand, n), rfl, (Dp.same (f1.trans e2) _ _ g5), Dp.same e2 _ _ dt, hw.ls, fun p2 x2 H3 e3 s2 a2 => ?_⟩
    have a1' := Dp.sames e3 _ _ a1
    have n1 : x1.length ≤ 300 := by
      rw [DpAll.len a1, List.length_map]
      unfold loadsOf
      rw [List.length_append]
      have := at_len d.bs .box (.hand, n)
      have := at_len d.ts .thing (.hand, n)
      have := hw.ls.b
      have := hw.ls.t
      omega
    have n2 : x2.length ≤ 300 := by
      rw [DpAll.len a2, List.length_map]
      have := at_len d.ss .sl (.hand, n)
      have := hw.ls.s
      omega
    refine ⟨p1, p2, x1, x2, rfl, rfl, e3 _ _ s1, s2, by rw [sizeLine_eq]; omega, fun p hp => ?_⟩
    have f4 := same_upd (o := HO.lst (x1 ++ x2)) hp
    have da : DpAll K (L2.upd H3 p (.lst (x1 ++ x2))) (x1 ++ x2) ((loadsOf d (.hand, n) ++ atOf d.ss .sl (.hand, n)).map itP) := by
      rw [List.map_append]
      exact DpAll.app (Dp.sames f4 _ _ a1') (Dp.sames f4 _ _ a2)
    refine ⟨p, x1 ++ x2, _, rfl, .inl (SqL.of upd_same), da, fun ys qs p9 hq1 hq2 dq hp9 => ?_⟩
    have f5 := same_upd (o := HO.lst ys) hp9
    have eq := sorted_held hq1 hq2
    subst eq
    exact kQ c _ _ ((((f1.trans e2).trans e3).trans f4).trans f5) (.lst (SqL.of upd_same) (Dp.sames f5 _ _ dq))
/-! ### is_so -/
def spWSo (K : PySem.W.Frag) (C CW : Addr) (ce : Str → Addr) (n : Nat) : Sp := fun vs H Q E => ∃ (a h : Addr) (y : V) (g : Sg) (d0 d : Hs), vs = [.ref a, y] ∧ WIn K C CW H a h d0 d ∧ depS g < n ∧ Dp K H y (sgD g) ∧ SmS g ∧ (∀ z, unkS d g = z → z ≠ "" → Rp (ce z) H E) ∧ (unkS d g = "" → ∀ H', Same H H' → Q (.bl (isS d g)) H')
end
end Kw


set_option Elab.async false
set_option linter.all false
set_option maxRecDepth 100000
set_option maxHeartbeats 4000000
namespace Kw
open PySem PySem.Spec PyProof.Rows L2
theorem itLt_trans {x y z : It} (h1 : itLt x y = true) (h2 : itLt y z = true) : itLt x z = true := by
  refine itLt_iff.mpr ?_
  rcases itLt_iff.mp h1 with a | ⟨a, b⟩ <;> rcases itLt_iff.mp h2 with c | ⟨c, e⟩
  · exact .inl (by omega)
  · exact .inl (by rw [← c]; exact a)
  · exact .inl (by rw [a]; exact c)
  · exact .inr ⟨a.trans c, by omega⟩
theorem good_of {d : Hs} {l : List It} (h : ∀ p ∈ l, inH d p ∧ p.1 ≠ .sl) (hp : l.Pairwise fun x y => itLt x y = true) : GoodI d l := fun i p e => by
  refine ⟨h p (List.mem_of_getElem? e), fun p' h0 e' => ?_⟩
  obtain ⟨h1, rfl⟩ := List.getElem?_eq_some_iff.mp e
  obtain ⟨h2, rfl⟩ := List.getElem?_eq_some_iff.mp e'
  exact List.pairwise_iff_getElem.mp hp (i - 1) i h2 h1 (by omega)
theorem of_good {d : Hs} {l : List It} (h : GoodI d l) : l.Pairwise fun x y => itLt x y = true := by
  refine List.pairwise_iff_getElem.mpr fun i j hi hj hij => ?_
  have go : ∀ (k : Nat) (hk : i + 1 + k < l.length), itLt (l[i]) (l[i + 1 + k]) = true := by
    intro k
    induction k with
    | zero => intro hk; exact (h (i + 1) l[i + 1] (List.getElem?_eq_getElem hk)).2 l[i] (by omega) (List.getElem?_eq_getElem hi)
    | succ k ih =>
      intro hk
      have h1 := ih (by omega)
      have h2 := (h (i + 1 + (k + 1)) l[i + 1 + (k + 1)] (List.getElem?_eq_getElem hk)).2 l[i + 1 + k] (by omega) (List.getElem?_eq_getElem (by omega))
      exact itLt_trans h1 h2
  have := go (j - i - 1) (by omega)
  have e : i + 1 + (j - i - 1) = j := by omega
  simp only [e] at this
  exact this
theorem good_inside (d : Hs) (b : Nat) : GoodI d (insideOf d b) := by
  refine good_of (fun p hp => ?_) ?_
  · unfold insideOf loadsOf at hp
    rcases List.mem_append.mp hp with hp | hp
    · obtain ⟨a1, a2⟩ := at_mem hp
      refine ⟨?_, by rw [a1]; decide⟩
      unfold inH
      rw [a1]
      exact (List.getElem?_eq_some_iff.mp a2).1
    · obtain ⟨a1, a2⟩ := at_mem hp
      refine ⟨?_, by rw [a1]; decide⟩
      unfold inH
      rw [a1]
      exact (List.getElem?_eq_some_iff.mp a2).1
  · unfold insideOf loadsOf
    refine List.pairwise_append.mpr ⟨at_asc _ _ _, at_asc _ _ _, fun x hx y hy => ?_⟩
    obtain ⟨a1, _⟩ := at_mem hx
    obtain ⟨a2, _⟩ := at_mem hy
    exact itLt_iff.mpr (.inl (by rw [a1, a2]; decide))
theorem inside_len (d : Hs) (b : Nat) : (insideOf d b).length ≤ d.bs.length + d.ts.length := by
  unfold insideOf loadsOf
  rw [List.length_append]
  have := at_len d.bs .box (.box, (b : Int))
  have := at_len d.ts .thing (.box, (b : Int))
  omega
theorem inside_mem {d : Hs} {b : Nat} {p : It} (h : p ∈ insideOf d b) : p.2 < (rowOf d p.1).length := by
  obtain ⟨i, hi⟩ := mem_get h
  exact (good_inside d b i p hi).1.1
theorem allI_mem {d : Hs} {p : It} (h : p ∈ allI d) : inH d p := by
  unfold allI at h
  have one : ∀ k n, p ∈ kdI k n → p.1 = k ∧ p.2 < n := fun k n h => by
    unfold kdI at h
    obtain ⟨i, h1, rfl⟩ := List.mem_map.mp h
    exact ⟨rfl, List.mem_range.mp h1⟩
  unfold inH
  rcases List.mem_append.mp h with h | h
  · rcases List.mem_append.mp h with h | h <;> (obtain ⟨a, b⟩ := one _ _ h; rw [a]; exact b)
  · obtain ⟨a, b⟩ := one _ _ h
    rw [a]
    exact b
theorem allI_len (d : Hs) : (allI d).length = d.bs.length + d.ss.length + d.ts.length := by
  unfold allI kdI
  simp
  omega
def SgV (d : Hs) (g : Sg) : Prop := depS g ≤ 1 ∧ SmS g ∧ unkS d g = ""
section
variable {P : Program} {w : World} {K : PySem.W.Frag} {mg : Str → Option Value} {base : Heap}
/-! ### _law_hands -/
def spHands (K : PySem.W.Frag) (C : Addr) : Sp := fun vs H Q _ => ∃ (b l h : Addr) (d : Hs), vs = [.ref b, .ref h] ∧ BoxAt H b l ∧ HouseAt K C H h d ∧ 1 ≤ d.hands ∧ d.hands ≤ 4 ∧
  ∀ (t : Addr) (hs : List Nat) H', SqT K H' t (nV hs) → hs.length ≤ 4 → (∀ u ∈ hs, (u : Int) < d.hands) → BoxAt H' b l → Kb b l H H' → Q (.ref t) H'
/-! ### all items, with the list itself -/
def spItemsA (K : PySem.W.Frag) (C : Addr) : Sp := fun vs H Q _ => ∃ (h : Addr) (d : Hs), vs = [.ref h] ∧ HouseAt K C H h d ∧ d.bs.length ≤ 100 ∧ d.ts.length ≤ 100 ∧ d.ss.length ≤ 100 ∧ ∀ p H' xs, Same H H' → H p = none → H' p = some (.lst xs) → DpAll K H' xs ((allI d).map itP) → Q (.ref p) H'
/-! ### _law_sight -/
def spSight (K : PySem.W.Frag) (C : Addr) : Sp := fun vs H Q _ => ∃ (b l h : Addr) (v : V) (d0 d : Hs), vs = [.ref b, .ref h, v] ∧ BoxAt H b l ∧ HouseAt K C H h d0 ∧ Dp K H v (stD d) ∧ Shp d0 d ∧ HsOk d0 ∧ Wf d ∧
  ∀ y g H', Dp K H' y (sgD g) → SgV d g → BoxAt H' b l → Kb b l H H' → Q y H'
structure ItF (P : Program) (w : World) (K : PySem.W.Frag) (mg : Str → Option Value) (base : Heap) (C p g : Addr) (fd : FuncData) : Prop where
  Pr : PropOf K C "all_items" p g
  I : FnOk P w K mg base CX0 1 g fd ["self"] (spItemsA K C)
  b : Binds K fd ["self"] []
theorem noL_sg : ∀ g : Sg, noL (sgD g) = true
  | .loc p q => rfl
  | .bare b => rfl
  | .inn b l => by
    have : noLs (l.map itP) = true := noLs_map itP (fun _ => rfl) l
    simp [sgD, sgT, itsD, noL, noLs, this]
  | .gone b => rfl
  | .nt g => by
    have : noL (sgD g) = true := noL_sg g
    unfold sgD at this
    simp [sgD, sgT, noL, noLs] at this ⊢
    exact this
end
end Kw


set_option Elab.async false
set_option linter.all false
set_option maxRecDepth 100000
set_option maxHeartbeats 4000000
namespace Kw
open PySem PySem.Spec PyProof.Rows L2
theorem by_cont {T : VK → Prop} {Q : VK} (PP : V → Hp → Prop) (h : ∀ Q' : VK, (∀ x H', PP x H' → Q' x H') → T Q') (k : ∀ x H', PP x H' → Q x H') : T Q := h Q k
theorem nx_by {D : Ends} {σ : L2.St} {H : Hp} (h : D.nx σ H) : tNext D σ H := h
theorem seq_by {a b : TS} {D : Ends} {σ : L2.St} {H : Hp} (h : a { D with nx := b D } σ H) : tSeq a b D σ H := h
theorem asg_by {te : TE} {g : TG} {D : Ends} {σ : L2.St} {H : Hp} (h : te σ H fun x H1 => g x σ H1 D.nx) : tAsg te g D σ H := h
theorem good_nil (d : Hs) : GoodI d [] := fun i p e => by simp at e
theorem shaped_itsL (ps : List It) : SeqAt.shaped (.list (ps.map itP)) = true := by
  have h1 := lay_its ps
  have h2 := depth_its ps
  simp [SeqAt.shaped, PyData.canLay0, PyData.depth, h1]
  omega
theorem eqv_itsL (l m : List It) : PyData.eqv (.list (l.map itP)) (.list (m.map itP)) = decide (l = m) := eqv_its l m
theorem any_it (p : It) : ∀ l : List It, ((l.map itP).any fun z => PyData.eqv z (itP p)) = l.any fun q => decide (q = p)
  | [] => rfl
  | a :: l => by
    rw [List.map_cons, List.any_cons, List.any_cons, any_it p l, eqv_it]
section
variable {P : Program} {w : World} {K : PySem.W.Frag} {mg : Str → Option Value} {base : Heap}
def spUnkS (K : PySem.W.Frag) (C : Addr) (n : Nat) : Sp := fun vs H Q _ => ∃ (h : Addr) (y : V) (g : Sg) (d : Hs), vs = [.ref h, y] ∧ depS g < n ∧ HouseAt K C H h d ∧ Dp K H y (sgD g) ∧ SmS g ∧ ∀ H', Same H H' → Q (.str (unkS d g)) H'
end
end Kw


set_option Elab.async false
set_option linter.all false
set_option maxRecDepth 100000
set_option maxHeartbeats 4000000
namespace Kw
open PySem PySem.Spec PyProof.Rows L2
theorem seq_cont {t u : TS} {D : Ends} {σ : L2.St} {H : Hp} (PP : L2.St → Hp → Prop) (h : ∀ D' : Ends, (∀ σ' H', PP σ' H' → D'.nx σ' H') → t D' σ H) (k : ∀ σ' H', PP σ' H' → u D σ' H') : tSeq t u D σ H := h _ k
theorem ifs_by {c : TT} {t u : TS} {D : Ends} {σ : L2.St} {H : Hp} (PP : Bool → Hp → Prop) (h : ∀ Q' : Bool → Hp → Prop, (∀ b H', PP b H' → Q' b H') → c σ H Q') (k1 : ∀ H', PP true H' → t D σ H') (k2 : ∀ H', PP false H' → u D σ H') : tIfS c t u D σ H :=
  h _ fun b H' p => by
    cases b with
    | true => exact k1 H' p
    | false => exact k2 H' p
theorem at_last {α : Type} (xs : List α) (x : α) : atI (xs ++ [x]) (-1) = some x := by
  unfold atI ixN
  rw [if_neg (by omega), if_pos (by rw [List.length_append]; simp; omega), List.length_append]
  show (xs ++ [x])[((-1 : Int) + ((xs.length + [x].length : Nat) : Int)).toNat]? = some x
  rw [show ((-1 : Int) + ((xs.length + [x].length : Nat) : Int)).toNat = xs.length by simp; omega, List.getElem?_append_right (Nat.le_refl _), Nat.sub_self]
  rfl
theorem HsOk.ls {d : Hs} (h : HsOk d) : Ls d := ⟨by have := h.b1; omega, by have := h.t1; omega, by have := h.s1; omega⟩
theorem shaped_dds (es : List Dd) : SeqAt.shaped (.list (es.map ddD)) = true := by
  have go : ∀ l : List Dd, PyData.canLayAll0 (l.map ddD) = true := by
    intro l
    induction l with
    | nil => rfl
    | cons a r ih =>
      show (PyData.canLay0 (ddD a) && PyData.canLayAll0 (r.map ddD)) = true
      rw [ih, (sd_dd a).lay]
      rfl
  have hd : ∀ l : List Dd, PyData.depthAll (l.map ddD) ≤ 10 := by
    intro l
    induction l with
    | nil => exact Nat.zero_le _
    | cons a r ih =>
      have h1 := (sd_dd a).dep
      show max (PyData.depth (ddD a)) (PyData.depthAll (r.map ddD)) ≤ 10
      omega
  have h1 := hd es
  simp [SeqAt.shaped, PyData.canLay0, PyData.depth, go es]
  omega
theorem rg_nV (n : Nat) : rgV 0 (n : Int) = nV (List.range n) := by
  unfold rgV nV
  rw [show ((n : Int) - 0).toNat = n by omega]
  refine List.map_congr_left fun i _ => ?_
  rw [Int.zero_add]
theorem Kb.fresh {b l : Addr} {H0 H : Hp} {Z : Addr} (k : Kb b l H0 H) (hB : BoxAt H b l) (hZ : H Z = none) : H0 Z = none := by
  obtain ⟨n1, n2⟩ := hB.neL hZ
  cases h : H0 Z with
  | none => rfl
  | some o =>
    by_cases c1 : ∃ xs, o = .lst xs
    · obtain ⟨xs, rfl⟩ := c1
      have := k.kp.ls _ _ h n1 n2
      rw [hZ] at this
      cases this
    · by_cases c2 : ∃ ps, o = .tbl ps
      · obtain ⟨ps, rfl⟩ := c2
        have := k.tb _ _ h
        rw [hZ] at this
        cases this
      · have := k.kp.nl _ _ h (fun xs z => c1 ⟨xs, z⟩) (fun ps z => c2 ⟨ps, z⟩)
        rw [hZ] at this
        cases this
/-- what a story keeps -/
structure SI (K : PySem.W.Frag) (C b l h R M S : Addr) (d0 : Hs) (H0 : Hp) (n : Nat) (v : V) (d : Hs) (H : Hp) : Prop where
  bx : BoxAt H b l
  hh : HouseAt K C H h d0
  st : StF K H v d
  sh : Shp d0 d
  wf : Wf d
  kb : Kb b l H0 H
  r : ∃ xs, H R = some (.lst xs) ∧ xs.length ≤ n
  m : ∃ xs, H M = some (.lst xs) ∧ xs.length ≤ n
  s : ∃ xs, H S = some (.lst xs) ∧ xs.length ≤ n
/-- addresses apart -/
structure SA (b l R M S : Addr) (H0 : Hp) : Prop where
  r0 : H0 R = none
  m0 : H0 M = none
  s0 : H0 S = none
  rb : R ≠ b ∧ R ≠ l
  mb : M ≠ b ∧ M ≠ l
  sb : S ≠ b ∧ S ≠ l
  rm : R ≠ M
  rs : R ≠ S
  ms : M ≠ S
section
variable {K : PySem.W.Frag} {C b l h R M S : Addr} {d0 d : Hs} {H0 H H' : Hp} {n : Nat} {v : V}
theorem SI.keep (a : SA b l R M S H0) (k : Kb b l H H') (hB : BoxAt H' b l) (x : SI K C b l h R M S d0 H0 n v d H) : SI K C b l h R M S d0 H0 n v d H' := by
  obtain ⟨r, r1, r2⟩ := x.r
  obtain ⟨m, m1, m2⟩ := x.m
  obtain ⟨s, s1, s2⟩ := x.s
  exact ⟨hB, x.hh.nl k.nl, x.st.nl k.nl, x.sh, x.wf, x.kb.trans k, ⟨r, k.kp.ls _ _ r1 a.rb.1 a.rb.2, r2⟩, ⟨m, k.kp.ls _ _ m1 a.mb.1 a.mb.2, m2⟩, ⟨s, k.kp.ls _ _ s1 a.sb.1 a.sb.2, s2⟩⟩
theorem SI.same (a : SA b l R M S H0) (e : Same H H') (x : SI K C b l h R M S d0 H0 n v d H) : SI K C b l h R M S d0 H0 n v d H' := x.keep a (Kb.same e) (x.bx.same e)
theorem SI.updL (a : SA b l R M S H0) {D : Addr} {xs ys : List V} (hD : H D = some (.lst xs)) (f : H0 D = none) (n1 : D ≠ b ∧ D ≠ l) (hy : ys.length ≤ n + 1) (x : SI K C b l h R M S d0 H0 n v d H) : SI K C b l h R M S d0 H0 (n + 1) v d (L2.upd H D (.lst ys)) := by
  have k := nl_updL (ys := ys) hD
  have one : ∀ Z, (∃ zs, H Z = some (.lst zs) ∧ zs.length ≤ n) → ∃ zs, (L2.upd H D (.lst ys)) Z = some (.lst zs) ∧ zs.length ≤ n + 1 := fun Z ⟨zs, z1, z2⟩ => by
    by_cases c : Z = D
    · subst c
      exact ⟨ys, upd_same, hy⟩
    · exact ⟨zs, by rw [upd_ne c]; exact z1, by omega⟩
  exact ⟨x.bx.updD n1.1 n1.2, x.hh.nl k, x.st.nl k, x.sh, x.wf, x.kb.updD f, one _ x.r, one _ x.m, one _ x.s⟩
theorem SI.updZ (a : SA b l R M S H0) {D : Addr} {xs ys : List V} (hD : H D = some (.lst xs)) (f : H0 D = none) (n1 : D ≠ b ∧ D ≠ l) (n2 : R ≠ D ∧ M ≠ D ∧ S ≠ D) (x : SI K C b l h R M S d0 H0 n v d H) : SI K C b l h R M S d0 H0 n v d (L2.upd H D (.lst ys)) := by
  have k := nl_updL (ys := ys) hD
  obtain ⟨r, r1, r2⟩ := x.r
  obtain ⟨m, m1, m2⟩ := x.m
  obtain ⟨s, s1, s2⟩ := x.s
  exact ⟨x.bx.updD n1.1 n1.2, x.hh.nl k, x.st.nl k, x.sh, x.wf, x.kb.updD f, ⟨r, by rw [upd_ne n2.1]; exact r1, r2⟩, ⟨m, by rw [upd_ne n2.2.1]; exact m1, m2⟩, ⟨s, by rw [upd_ne n2.2.2]; exact s1, s2⟩⟩
theorem SI.next {e : Dd} {v' : V} (x : SI K C b l h R M S d0 H0 n v d H) (st : StF K H v' (nextOf d e)) (kn : Kn d e) (hb : Hb d e) (br : barOf d e = "") : SI K C b l h R M S d0 H0 n v' (nextOf d e) H :=
  ⟨x.bx, x.hh, st, x.sh.trans (Shp.next d e), x.wf.next kn hb br, x.kb, x.r, x.m, x.s⟩
theorem SI.more (x : SI K C b l h R M S d0 H0 n v d H) {n' : Nat} (hn : n ≤ n') : SI K C b l h R M S d0 H0 n' v d H := by
  obtain ⟨r, r1, r2⟩ := x.r
  obtain ⟨m, m1, m2⟩ := x.m
  obtain ⟨s, s1, s2⟩ := x.s
  exact ⟨x.bx, x.hh, x.st, x.sh, x.wf, x.kb, ⟨r, r1, by omega⟩, ⟨m, m1, by omega⟩, ⟨s, s1, by omega⟩⟩
end
section
variable {P : Program} {w : World} {K : PySem.W.Frag} {mg : Str → Option Value} {base : Heap}
theorem dds_allK {d : Hs} {H : Hp} : ∀ {xs : List V}, (∀ v ∈ xs, DdV K d v H) → ∃ es : List Dd, DpAll K H xs (es.map ddD)
  | [], _ => ⟨[], .nil⟩
  | x :: xs, h => by
    obtain ⟨es, he⟩ := dds_allK (xs := xs) fun v hv => h v (List.mem_cons_of_mem _ hv)
    obtain ⟨e, h1, _⟩ := h x (List.mem_cons_self ..)
    exact ⟨e :: es, .cons h1 he⟩
def spStory (K : PySem.W.Frag) (C : Addr) : Sp := fun vs H Q _ => ∃ (b l h : Addr) (many : Int) (d0 : Hs), vs = [.ref b, .ref h, .int many, .int 3] ∧ 0 ≤ many ∧ many ≤ 20 ∧ BoxAt H b l ∧ HouseAt K C H h d0 ∧ HouseF K C H h d0 ∧ HsOk d0 ∧
  ∀ (t S : Addr) (r1 r2 : V) (ss : List V) (v : V) (d : Hs) H', SqT K H' t [r1, r2, .ref S] → H' S = some (.lst ss) → atI ss (-1) = some v → StF K H' v d → Shp d0 d → Wf d → BoxAt H' b l → Kb b l H H' → Q (.ref t) H'
end
end Kw


set_option Elab.async false
set_option linter.all false
set_option maxRecDepth 100000
set_option maxHeartbeats 4000000
namespace Kw
open PySem PySem.Spec PyProof.Rows L2
/-! ## the laws of the second form: their draws -/
abbrev sMix : Stmt := top 52
abbrev sNx : Stmt := top 53
def HAt (H : Hp) (h c : Addr) : Prop := ∃ (st k : Int) (ns : List Int), H h = some (.lst [.int st, .ref c, .int k]) ∧ H c = some (.lst (ns.map V.int)) ∧ ns.length ≤ 63
theorem HAt.same {H H' : Hp} {h c : Addr} (e : Same H H') (x : HAt H h c) : HAt H' h c := by
  obtain ⟨st, k, ns, h1, h2, h3⟩ := x
  exact ⟨st, k, ns, e _ _ h1, e _ _ h2, h3⟩
theorem HAt.upd {H : Hp} {h c p : Addr} {o : HO} (hp : H p = none) (x : HAt H h c) : HAt (L2.upd H p o) h c := HAt.same (same_upd hp) x
theorem HAt.ne {H : Hp} {h c : Addr} (x : HAt H h c) : h ≠ c := by
  obtain ⟨st, k, ns, h1, h2, _⟩ := x
  refine ne_of h1 h2 fun z => ?_
  have z' : [V.int st, V.ref c, V.int k] = ns.map V.int := HO.lst.inj z
  match ns, z' with
  | [], z' => cases z'
  | [n], z' => cases z'
  | n :: m :: r, z' => cases z'
theorem HAt.neL {H : Hp} {h c D : Addr} (x : HAt H h c) (hD : H D = .none) : D ≠ h ∧ D ≠ c := by
  obtain ⟨st, k, ns, h1, h2, _⟩ := x
  exact ⟨(ne_of_none h1 hD).symm, (ne_of_none h2 hD).symm⟩
theorem HAt.updD {H : Hp} {h c D : Addr} {o : HO} (x : HAt H h c) (n1 : D ≠ h) (n2 : D ≠ c) : HAt (L2.upd H D o) h c := by
  obtain ⟨st, k, ns, h1, h2, h3⟩ := x
  exact ⟨st, k, ns, by rw [upd_ne n1.symm]; exact h1, by rw [upd_ne n2.symm]; exact h2, h3⟩
section
variable {P : Program} {w : World} {K : PySem.W.Frag} {mg : Str → Option Value} {base : Heap}
def spMix (K : PySem.W.Frag) : Sp := fun vs H Q _ => ∃ (a : Addr) (seed : Int) (ns : List Int), vs = [.ref a, .int seed] ∧ SqL K H a (ns.map V.int) ∧ ns.length ≤ 63 ∧ ∀ h c H', Same H H' → HAt H' h c → Q (.ref h) H'
theorem scMix : FnScope ["_law_script", "_law_seed", "_law_state", "_law_cell"] ["_law_script", "_law_seed"] (defScope sMix) := ⟨rfl, rfl, rfl, by decide +kernel, rfl, by decide +kernel, by decide +kernel⟩
theorem ok_mix {f : Addr} {fd : FuncData} (F : Fun K "_law_mix" "_law_mix" sMix f fd) (B : Bt mg) : FnOk P w K mg base CX0 1 f fd ["_law_script", "_law_seed"] (spMix K) := by
  refine F.ok scMix (fun vs H Q E h => ?_) (fun cdv A outer s H vs Q E hr h => ?_)
  · obtain ⟨a, seed, ns, rfl, _⟩ := h
    rfl
  · obtain ⟨a, seed, ns, rfl, hs, hl, k⟩ := h
    refine ⟨_, (pss_cons (ps_set (i := 2) scMix.nd rfl (.inl rfl) (pv 1)) (pss_cons (ps_for PassesOwn.never rfl (pi_list (pv 0)) (pg_name (i := 3) scMix.nd rfl (.inl rfl)) (pss_one (ps_set (i := 2) scMix.nd rfl (.inl rfl) (pe_op op_mod (pe_callTy call_int1 (by rfl) B.int (by decide +kernel) (pa_cons (pe_op op_add (pe_op op_add (pe_op op_mul (pv 2) pe_int) (pe_op op_mod (pe_callTy call_int1 (by rfl) B.int (by decide +kernel) (pa_cons (pv 3) pa_nil)) pe_int)) pe_int) pa_nil)) pe_int)))) (pss_one (ps_ret (pe_lst (pa_cons (pv 2) (pa_cons (pe_callTy call_list_of (by rfl) B.lst (by decide +kernel) (pa_cons (pv 0) pa_nil)) (pa_cons pe_int pa_nil)))))))), ?_⟩
    refine ⟨_, rfl, _, rfl, a, rfl, ⟨_, hs⟩, for_list (K := K) (a := a) (xs := ns.map V.int) (fun i σ H2 => H2 = H ∧ ∃ (z : Int) (v : Option V), σ = [some (.ref a), some (.int seed), some (.int z), v])
      ⟨rfl, seed, none, rfl⟩ (fun i σ H2 _ ⟨e, _⟩ => by rw [e]; exact hs) ?_ ?_⟩
    · rintro i y σ H2 hi ⟨rfl, z, v, rfl⟩
      obtain ⟨c, rfl⟩ : ∃ c, y = V.int c := by
        rw [List.getElem?_map] at hi
        cases e : ns[i]? with
        | none => rw [e] at hi; cases hi
        | some c => rw [e] at hi; exact ⟨c, (Option.some.inj hi).symm⟩
      refine ⟨_, rfl, _, _, rfl, rfl, .inr (by decide), _, rfl, .inl ⟨_, rfl, _, _, rfl, rfl, (show (0 : Int) < 2147483629 by decide), _, _, rfl, rfl, _, _, rfl, rfl, .inl ⟨_, rfl, _, _, rfl, rfl, (show (0 : Int) < 2147483647 by decide), ?_⟩⟩⟩
      exact ⟨rfl, _, _, rfl⟩
    · rintro σ H2 ⟨rfl, z, v, rfl⟩
      refine ⟨_, rfl, _, rfl, a, _, rfl, .inl hs, fun l hl' => ?_⟩
      refine ⟨(by show 3 ≤ sizeLine; decide), fun b hb => ?_⟩
      have e1 := same_upd (o := HO.lst (ns.map V.int)) hl'
      have e2 := Same.upd2 (o := HO.lst [V.int z, V.ref l, .int 0]) e1 hb
      refine k b l _ e2 ⟨_, _, ns, upd_same, ?_, hl⟩
      rw [upd_ne (fun q => by rw [← q, upd_same] at hb; cases hb), upd_same]
def spNx : Sp := fun vs H Q _ => ∃ (h c : Addr) (m : Int), vs = [.ref h, .int m] ∧ 0 < m ∧ m ≤ 1000 ∧ HAt H h c ∧ ∀ r H', 0 ≤ r → r < m → HAt H' h c → Kb h c H H' → Q (.int r) H'
theorem scNx : FnScope ["_law_h", "_law_limit", "_law_cell"] ["_law_h", "_law_limit"] (defScope sNx) := ⟨rfl, rfl, rfl, by decide +kernel, rfl, by decide +kernel, by decide +kernel⟩
theorem ok_nx {f : Addr} {fd : FuncData} (F : Fun K "_law_next" "_law_next" sNx f fd) (B : Bt mg) (mX : mg "max" = none) : FnOk P w K mg base CX0 1 f fd ["_law_h", "_law_limit"] spNx := by
  refine F.ok scNx (fun vs H Q E h => ?_) (fun cdv A outer s H vs Q E hr h => ?_)
  · obtain ⟨h, c, m, rfl, _⟩ := h
    rfl
  · obtain ⟨h, c, m, rfl, m0, m1, hB, k⟩ := h
    have nhc := hB.ne
    obtain ⟨st, z, ns, hh, hc, hn⟩ := hB
    refine ⟨_, (pss_cons (ps_set (i := 2) scNx.nd rfl (.inl rfl) (pe_ix ix_list (pe_op op_cat (pe_ix ix_list (pv 0) pe_int (fun _ _ => rfl)) (pe_lst (pa_cons pe_int pa_nil))) (pe_op op_mod (pe_callTy call_int1 (by rfl) B.int (by decide +kernel) (pa_cons (pe_ix ix_list (pv 0) pe_int (fun _ _ => rfl)) pa_nil)) (pe_callB (call_max2 rfl) (by rfl) mX (by decide +kernel) (pa_cons pe_int (pa_cons (pe_callB call_len_seq (by rfl) B.len PySem.boot_len (pa_cons (pe_ix ix_list (pv 0) pe_int (fun _ _ => rfl)) pa_nil)) pa_nil)))) (fun _ _ => rfl))) (pss_cons (ps_if (pt_cmpR op_ge (pv 2) (pe_op op_pow pe_int pe_int) (nomark _)) (pss_cons (ps_asg (pe_op op_fdiv (pv 2) (pv 1)) (pg_sub (pe_ix ix_list (pv 0) pe_int (fun _ _ => rfl)) (pe_op op_mod (pe_callTy call_int1 (by rfl) B.int (by decide +kernel) (pa_cons (pe_ix ix_list (pv 0) pe_int (fun _ _ => rfl)) pa_nil)) (pe_callB call_len_seq (by rfl) B.len PySem.boot_len (pa_cons (pe_ix ix_list (pv 0) pe_int (fun _ _ => rfl)) pa_nil))) set_list)) (pss_one (ps_ret (pe_op op_mod (pe_callTy call_int1 (by rfl) B.int (by decide +kernel) (pa_cons (pv 2) pa_nil)) (pv 1))))) pss_nil) (pss_cons (ps_asg (pe_op op_mod (pe_callTy call_int1 (by rfl) B.int (by decide +kernel) (pa_cons (pe_op op_add (pe_op op_add (pe_op op_mul (pe_ix ix_list (pv 0) pe_int (fun _ _ => rfl)) pe_int) (pe_op op_mul (pv 2) pe_int)) pe_int) pa_nil)) pe_int) (pg_sub (pv 0) pe_int set_list)) (pss_cons (ps_asg (pe_op op_add (pe_ix ix_list (pv 0) pe_int (fun _ _ => rfl)) pe_int) (pg_sub (pv 0) pe_int set_list)) (pss_one (ps_ret (pe_op op_mod (pe_callTy call_int1 (by rfl) B.int (by decide +kernel) (pa_cons (pe_op op_fdiv (pe_ix ix_list (pv 0) pe_int (fun _ _ => rfl)) pe_int) pa_nil)) (pv 1)))))))), ?_⟩
    have ll : (ns.map V.int).length = ns.length := List.length_map ..
    refine ⟨_, rfl, h, _, 1, _, rfl, rfl, SqL.of hh, rfl, (by show 1 ≤ sizeLine; decide), fun p0 hp0 => ?_⟩
    have e0 : Same H (L2.upd H p0 (.lst [.int 0])) := same_upd hp0
    have l5 := sizeLine_eq
    refine ⟨c, p0, _, _, rfl, rfl, e0 _ _ hc, upd_same, (by rw [ll]; show ns.length + 1 ≤ sizeLine; omega), fun p hp => ?_⟩
    have e1 := Same.upd2 (o := HO.lst (ns.map V.int ++ [.int 0])) e0 hp
    refine ⟨_, rfl, h, _, 2, _, rfl, rfl, SqL.of (e1 _ _ hh), rfl, .inl ⟨_, rfl, _, rfl, h, _, 1, _, rfl, rfl, SqL.of (e1 _ _ hh), rfl, c, _, rfl, .inl (SqL.of (e1 _ _ hc)), _, _, rfl, _, _, rfl, rfl, ?_, ?_⟩⟩
    · split
      · rename_i g
        omega
      · decide
    obtain ⟨q, hq, q0, q1⟩ : ∃ q : Nat, (z % (if (((ns.map V.int).length : Nat) : Int) > 1 then (((ns.map V.int).length : Nat) : Int) else 1)) = (q : Nat) ∧ (q = 0 ∨ q < ns.length) ∧ (0 < ns.length → q < ns.length) := by
      rw [ll]
      by_cases g : ((ns.length : Nat) : Int) > 1
      · rw [if_pos g]
        have g1 := Int.emod_nonneg z (show ((ns.length : Nat) : Int) ≠ 0 by omega)
        have g2 := Int.emod_lt_of_pos z (show (0 : Int) < ((ns.length : Nat) : Int) by omega)
        exact ⟨(z % ((ns.length : Nat) : Int)).toNat, by omega, by omega, by omega⟩
      · rw [if_neg g]
        exact ⟨0, by omega, .inl rfl, by omega⟩
    obtain ⟨cl, hcl, c0⟩ : ∃ cl : Int, (ns.map V.int ++ [V.int 0])[q]? = some (V.int cl) ∧ (ns = [] → cl = 0) := by
      by_cases g : 0 < ns.length
      · have g1 := q1 g
        refine ⟨ns[q], ?_, fun e => by rw [e] at g; exact absurd g (by decide)⟩
        rw [List.getElem?_append_left (by rw [ll]; exact g1), List.getElem?_map, List.getElem?_eq_getElem g1]
        rfl
      · have g2 : ns = [] := List.length_eq_zero_iff.mp (by omega)
        subst g2
        refine ⟨0, ?_, fun _ => rfl⟩
        rcases q0 with rfl | q0
        · rfl
        · exact absurd q0 (by simp)
    refine ⟨p, _, _, _, rfl, rfl, SqL.of upd_same, by rw [hq]; exact atI_nat hcl, ?_⟩
    have fin : ∀ (ns' : List Int) (st' z' : Int), ns'.length ≤ 63 → ∀ H', H' h = some (.lst [.int st', .ref c, .int z']) → H' c = some (.lst (ns'.map V.int)) → (∀ a o, H a = some o → a ≠ h → a ≠ c → H' a = some o) →
        ∀ x : Int, Q (.int (x % m)) H' := fun ns' st' z' hn' H' g1 g2 g3 x => by
      refine k _ _ (Int.emod_nonneg _ (by omega)) (Int.emod_lt_of_pos _ m0) ⟨st', z', ns', g1, g2, hn'⟩ ⟨⟨fun a o h1 n1 n2 => ?_, fun a xs h1 n1 n2 => ?_⟩, fun a ps h1 => ?_⟩
      · exact g3 a o h1 (ne_of h1 hh (n1 _)) (ne_of h1 hc (n1 _))
      · exact g3 a _ h1 n1 n2
      · exact g3 a _ h1 (ne_of h1 hh (by intro q; cases q)) (ne_of h1 hc (by intro q; cases q))
    have hh1 := e1 _ _ hh
    have hc1 := e1 _ _ hc
    refine ⟨_, rfl, _, _, rfl, rfl, ⟨by decide, by decide, by decide⟩, _, _, rfl, rfl, _, rfl, ?_⟩
    refine ite2 (fun g => ?_) (fun g => ?_)
    · have g' : (10 : Int) ^ 18 ≤ cl := of_decide_eq_true g
      have hpos : 0 < ns.length := by
        rcases Nat.eq_zero_or_pos ns.length with e | e
        · rw [c0 (List.length_eq_zero_iff.mp e)] at g'
          exact absurd g' (by decide)
        · exact e
      have g1 := Int.emod_nonneg z (show ((ns.length : Nat) : Int) ≠ 0 by omega)
      have g2 := Int.emod_lt_of_pos z (show (0 : Int) < ((ns.length : Nat) : Int) by omega)
      refine ⟨_, rfl, _, rfl, _, _, rfl, rfl, ⟨m0, by omega⟩, _, rfl, h, _, 1, _, rfl, rfl, SqL.of hh1, rfl, _, rfl, h, _, 2, _, rfl, rfl, SqL.of hh1, rfl, .inl ⟨_, rfl, _, rfl, h, _, 1, _, rfl, rfl, SqL.of hh1, rfl, c, _, rfl, .inl (SqL.of hc1), _, _, rfl, rfl, ?_, ?_⟩⟩
      · rw [ll]; omega
      refine ⟨c, _, _, (z % ((ns.length : Nat) : Int)).toNat, rfl, by rw [ll], hc1, ?_, ?_⟩
      · rw [ll]
        unfold ixN
        rw [if_pos g1, if_pos g2]
      refine ⟨_, rfl, .inl ⟨_, rfl, _, rfl, _, _, rfl, rfl, m0, ?_⟩⟩
      refine fin (ns.set (z % ((ns.length : Nat) : Int)).toNat (cl / m)) st z (by rw [List.length_set]; exact hn) _ (by rw [upd_ne nhc]; exact hh1) ?_ (fun a o h1 n1 n2 => ?_) cl
      · rw [upd_same]
        show some (HO.lst ((ns.map V.int).set _ (V.int (cl / m)))) = _
        rw [List.map_set]
      · rw [upd_ne n2]
        exact e1 _ _ h1
    · refine ⟨_, rfl, h, _, 0, _, rfl, rfl, SqL.of hh1, rfl, _, _, rfl, rfl, .inr ⟨by decide, by decide⟩, _, rfl, _, _, rfl, rfl, .inr ⟨by decide, by decide⟩, _, _, rfl, rfl, _, _, rfl, rfl, .inl ⟨_, rfl, _, _, rfl, rfl, (show (0 : Int) < 2147483647 by decide), ?_⟩⟩
      refine ⟨_, rfl, h, _, 0, 0, rfl, rfl, hh1, rfl, ?_⟩
      refine ⟨_, rfl, h, _, 2, _, rfl, rfl, SqL.of upd_same, rfl, _, _, rfl, rfl, _, rfl, h, _, 2, 2, rfl, rfl, upd_same, rfl, ?_⟩
      rw [upd_upd]
      refine ⟨_, rfl, h, _, 0, _, rfl, rfl, SqL.of upd_same, rfl, _, _, rfl, rfl, ⟨by decide, by decide⟩, .inl ⟨_, rfl, _, rfl, _, _, rfl, rfl, m0, ?_⟩⟩
      refine fin ns _ _ hn _ upd_same (by rw [upd_ne nhc.symm]; exact hc1) (fun a o h1 n1 n2 => ?_) _
      rw [upd_ne n1]
      exact e1 _ _ h1
end
end Kw

set_option Elab.async false
set_option linter.all false
set_option maxRecDepth 100000
set_option maxHeartbeats 4000000
namespace Kw
open PySem PySem.Spec PyProof.Rows L2
abbrev sPlc : Stmt := top 55
abbrev sMvd : Stmt := top 56
abbrev sLid : Stmt := top 57
abbrev sIns : Stmt := top 58
abbrev sItm : Stmt := top 59
section
variable {P : Program} {w : World} {K : PySem.W.Frag} {mg : Str → Option Value} {base : Heap}
/-- the row of a kind, by a written dict -/
theorem kd_read {σ : L2.St} {H : Hp} {p : It} {Q : V → Hp → Prop} {ti : TE} (hti : ∀ (H' : Hp) (Q' : V → Hp → Prop), Same H H' → Q' (.str p.1.str) H' → ti σ H' Q') (hq : ∀ (p0 : Addr) (o : HO), H p0 = none → Q (.int (p.1.ix : Nat)) (L2.upd H p0 o)) :
    tDGet (tDisp [(tC (V.str ("box" : Str)), tC (V.int 0)), (tC (V.str ("thing" : Str)), tC (V.int 1)), (tC (V.str ("seal" : Str)), tC (V.int 2))]) ti σ H Q := by
  intro p0 hp0
  refine ⟨upd_same, [(.inr ("box" : Str), .int 0), (.inr ("thing" : Str), .int 1), (.inr ("seal" : Str), .int 2)], rfl, by decide, ?_⟩
  rw [upd_upd]
  refine hti _ _ (same_upd hp0) ?_
  have e : mergeK [] [((Sum.inr ("box" : Str) : Key), V.int 0), (.inr ("thing" : Str), .int 1), (.inr ("seal" : Str), .int 2)] = [((Sum.inr ("box" : Str) : Key), V.int 0), (.inr ("thing" : Str), .int 1), (.inr ("seal" : Str), .int 2)] := by decide +kernel
  have z : valV [((Sum.inr ("box" : Str) : Key), V.int 0), (.inr ("thing" : Str), .int 1), (.inr ("seal" : Str), .int 2)] (Sum.inr p.1.str) = some (.int (p.1.ix : Nat)) := by
    obtain ⟨kd, i⟩ := p
    show valV _ (Sum.inr kd.str) = some (.int (kd.ix : Nat))
    cases kd <;> decide +kernel
  rw [e]
  have t := DGet.k (H := L2.upd H p0 (.dK [((Sum.inr ("box" : Str) : Key), V.int 0), (.inr ("thing" : Str), .int 1), (.inr ("seal" : Str), .int 2)])) (k := Sum.inr p.1.str) upd_same
  rw [z] at t
  exact ⟨p0, _, rfl, t, hq p0 _ hp0⟩
theorem scPlc : FnScope ["_law_state", "_law_item"] ["_law_state", "_law_item"] (defScope sPlc) := ⟨rfl, rfl, rfl, by decide +kernel, rfl, by decide +kernel, by decide +kernel⟩
theorem ok_plc {f : Addr} {fd : FuncData} (F : Fun K "_law_place" "_law_place" sPlc f fd) (B : Bt mg) : FnOk P w K mg base CX0 1 f fd ["_law_state", "_law_item"] (spWhere K) := by
  refine F.ok scPlc (fun vs H Q E h => ?_) (fun cdv A outer s H vs Q E hr h => ?_)
  · obtain ⟨x, y, d, p, q, rfl, _⟩ := h
    rfl
  · obtain ⟨x, y, d, p, q, rfl, hx, hy, hw, k⟩ := h
    obtain ⟨a, v1, v2, v3, rfl, sa, d1, d2, d3⟩ := st_at hx
    obtain ⟨b, rfl, sb⟩ := it_at hy
    obtain ⟨vr, hr1, dr⟩ := row_at d1 d2 d3 p.1
    obtain ⟨ar, xr, rfl, sr, dlr, lr⟩ := pls_at dr
    obtain ⟨vq, hq1, hq2⟩ := DpAll.at2 dlr (i := p.2) (d := plD q) (by rw [List.getElem?_map]; unfold whereD at hw; rw [hw]; rfl)
    have hu : (cxOf CX0 P w K mg base ["_law_state", "_law_item"] "_law_place" (defScope sPlc) f cdv A outer s H E).nox.A.units + 1 < cLine := by have := hr.units0; have h2 := hr.units; show (A.deeper _).units + 1 < cLine; omega
    refine ⟨_, pss_one (ps_ret (pe_ix ix_tup (pe_ix ix_tup (pv 0) (pe_dget hu (pe_disp (pps_cons pe_str pe_int (pps_cons pe_str pe_int (pps_cons pe_str pe_int pps_nil))) (by rfl) (by rfl) (fun z => by cases z) (by decide)) (pe_ix ix_tup (pv 1) pe_int (fun _ _ => rfl)) (fun _ _ => rfl)) (fun _ _ => rfl)) (pe_ix ix_tup (pv 1) pe_int (fun _ _ => rfl)) (fun _ _ => rfl))), ?_⟩
    refine ⟨_, rfl, kd_read (p := p) (fun H' Q' e hq => ⟨_, rfl, b, _, 0, _, rfl, rfl, SqT.same e sb, rfl, hq⟩) fun p0 o hp0 => ?_⟩
    have e1 := same_upd (o := o) hp0
    refine ⟨a, _, _, _, rfl, rfl, SqT.same e1 sa, hr1, _, rfl, b, _, 1, _, rfl, rfl, SqT.same e1 sb, rfl, ar, xr, _, vq, rfl, rfl, SqT.same e1 sr, atI_nat hq1, ?_⟩
    exact k _ _ e1 (Dp.same e1 _ _ hq2)
theorem scMvd : FnScope ["_law_state", "_law_item", "_law_place_here", "_law_found", "_law_row"] ["_law_state", "_law_item", "_law_place_here"] (defScope sMvd) := ⟨rfl, rfl, rfl, by decide +kernel, rfl, by decide +kernel, by decide +kernel⟩
theorem ok_mvd {f : Addr} {fd : FuncData} (F : Fun K "_law_moved" "_law_moved" sMvd f fd) (B : Bt mg) : FnOk P w K mg base CX0 1 f fd ["_law_state", "_law_item", "_law_place_here"] (spSet K) := by
  refine F.ok scMvd (fun vs H Q E h => ?_) (fun cdv A outer s H vs Q E hr h => ?_)
  · obtain ⟨x, y, z, d, p, q, rfl, _⟩ := h
    rfl
  · obtain ⟨x, y, z, d, p, q, rfl, hx, hy, hz, hw, k⟩ := h
    obtain ⟨a, v1, v2, v3, rfl, sa, d1, d2, d3⟩ := st_at hx
    obtain ⟨b, rfl, sb⟩ := it_at hy
    have hu : (cxOf CX0 P w K mg base ["_law_state", "_law_item", "_law_place_here", "_law_found", "_law_row"] "_law_moved" (defScope sMvd) f cdv A outer s H E).nox.A.units + 1 < cLine := by have h2 := hr.units; show (A.deeper _).units + 1 < cLine; omega
    refine ⟨_, pss_cons (ps_setLc (i := 3) (own := [("_law_row", 4)]) (g := gName 4) (tt := tYes) (te := tCB (fun xs H Q => ∃ p ys, xs = [V.ref p] ∧ (SqL K H p ys ∨ SqT K H p ys) ∧ ∀ l, H l = none → Q (.ref l) (upd H l (.lst ys))) (tCons (tVar 4) tNil)) rfl scMvd.nd rfl rfl (sw_true rfl rfl rfl (by decide +kernel)) (pi_tup (pv 0))
        (blkOk_by (own := [("_law_row", 4)]) (N := ["_law_state", "_law_item", "_law_place_here", "_law_found", "_law_row"]) (sc := defScope sMvd) (by decide +kernel)) (fun _ _ _ _ _ => pg_name (i := 4) scMvd.nd rfl (.inl rfl)) (fun _ _ _ _ _ => pts_nil)
        (fun _ _ _ _ _ => pe_callTy call_list_of (by rfl) B.lst (by decide +kernel) (pa_cons (pv 4) pa_nil)))
      (pss_cons (ps_asg (pv 2) (pg_sub (pe_ix ix_list (pv 3) (pe_dget hu (pe_disp (pps_cons pe_str pe_int (pps_cons pe_str pe_int (pps_cons pe_str pe_int pps_nil))) (by rfl) (by rfl) (fun z => by cases z) (by decide)) (pe_ix ix_tup (pv 1) pe_int (fun _ _ => rfl)) (fun _ _ => rfl)) (fun _ _ => rfl)) (pe_ix ix_tup (pv 1) pe_int (fun _ _ => rfl)) set_list))
      (pss_one (ps_ret (pe_callTy call_tuple_of (by rfl) B.tup (by decide +kernel) (pa_cons (pe_lc (own := [("_law_row", 4)]) (g := gName 4) (tt := tYes) (te := tCB (fun xs H Q => ∃ p ys, xs = [V.ref p] ∧ SqL K H p ys ∧ ∀ (l : Addr) (o : Obj), H l = none → o.cls = .type "tuple" → o.dict = none → Q (V.ref l) (upd H l (.frz o (.tup ys)))) (tCons (tVar 4) tNil)) rfl scMvd.nd (pi_list (pv 3))
        (blkOk_by (own := [("_law_row", 4)]) (N := ["_law_state", "_law_item", "_law_place_here", "_law_found", "_law_row"]) (sc := defScope sMvd) (by decide +kernel)) (fun _ _ _ _ _ => pg_name (i := 4) scMvd.nd rfl (.inl rfl)) (fun _ _ _ _ _ => pts_nil)
        (fun _ _ _ _ _ => pe_callTy call_tupleF (by rfl) B.tup (by decide +kernel) (pa_cons (pv 4) pa_nil))) pa_nil))))), ?_⟩
    have ilen : ∀ (j : Nat) (v : V), [v1, v2, v3][j]? = some v → ∃ l, (rows3 d)[j]? = some l ∧ Dp K H v (plsD l) := fun j v e => by
      match j, e with
      | 0, e => cases e; exact ⟨_, rfl, d1⟩
      | 1, e => cases e; exact ⟨_, rfl, d2⟩
      | 2, e => cases e; exact ⟨_, rfl, d3⟩
      | j + 3, e => simp at e
    -- rows = [list(row) for row in state]
    refine ⟨_, rfl, a, rfl, ⟨_, sa⟩, fun Dl hD => ?_⟩
    have e0 : ∀ (H' : Hp) (o : HO), Same H H' → Same H (L2.upd H' Dl o) := fun H' o e c u h => by rw [upd_ne (ne_of_none h hD)]; exact e c u h
    refine lc_tup (K := K) (a := a) (xs := [v1, v2, v3]) (fun i H' => Same H H' ∧ ∃ ls : List (Addr × List V), H' Dl = some (.lst (ls.map fun x => V.ref x.1)) ∧ ls.length = i ∧
        (∀ (j : Nat) x, ls[j]? = some x → H' x.1 = some (.lst x.2) ∧ x.1 ≠ Dl ∧ H x.1 = none ∧ ∃ l, (rows3 d)[j]? = some l ∧ DpAll K H' x.2 (l.map plD)) ∧ (∀ (j k : Nat) x y, ls[j]? = some x → ls[k]? = some y → j ≠ k → x.1 ≠ y.1))
      ⟨same_upd hD, [], upd_same, rfl, fun j x e => by simp at e, fun j k x y e => by simp at e⟩ (fun i H' _ ⟨e, _⟩ => SqT.same e sa) ?_ ?_
    · rintro i y H' hi ⟨e, ls, hls, ll, hall, hdis⟩
      obtain ⟨l, hl1, hl2⟩ := ilen i y hi
      obtain ⟨ar, xr, rfl, sr, dr, lr⟩ := pls_at hl2
      refine ⟨wipe_one _ 4 _, yes_lc ?_⟩
      refine ⟨_, rfl, ar, xr, rfl, .inr (SqT.same e sr), fun pn hpn => ?_⟩
      have nDp : Dl ≠ pn := ne_of_none hls hpn
      have f1 := same_upd (o := HO.lst xr) hpn
      have hls1 := f1 _ _ hls
      have i3 : i < 3 := (List.getElem?_eq_some_iff.mp hi).1
      refine ⟨ls.map fun x => V.ref x.1, hls1, by rw [sizeLine_eq, List.length_map]; omega, e0 _ _ (e.trans f1), ls ++ [(pn, xr)], ?_, by rw [List.length_append, ll]; rfl, fun j x hx => ?_, fun j k x y hx hy hjk => ?_⟩
      · rw [List.map_append]
        exact upd_same
      · have tp := tp_lst (o := HO.lst ((ls.map fun x => V.ref x.1) ++ [V.ref pn])) hls1
        by_cases c : j < ls.length
        · rw [List.getElem?_append_left c] at hx
          obtain ⟨g1, g2, g3, l', g4, g5⟩ := hall j x hx
          exact ⟨by rw [upd_ne g2]; exact f1 _ _ g1, g2, g3, l', g4, Dp.tps tp _ _ (noLs_map _ noL_pl _) (Dp.sames f1 _ _ g5)⟩
        · have ej : j = ls.length := by
            have := (List.getElem?_eq_some_iff.mp hx).1
            simp at this
            omega
          subst ej
          rw [List.getElem?_append_right (Nat.le_refl _), Nat.sub_self] at hx
          have ex : (pn, xr) = x := by simpa using hx
          subst ex
          refine ⟨by rw [upd_ne nDp.symm]; exact upd_same, nDp.symm, ?_, l, by rw [ll]; exact hl1, Dp.tps tp _ _ (noLs_map _ noL_pl _) (Dp.sames (e.trans f1) _ _ dr)⟩
          cases hq : H pn with
          | none => rfl
          | some u =>
            have := e _ _ hq
            rw [hpn] at this
            cases this
      · have old : ∀ (j : Nat) x, ls[j]? = some x → x.1 ≠ pn := fun j x hx => ne_of_none (hall j x hx).1 hpn
        have last : ∀ (j : Nat) (x : Addr × List V), (ls ++ [(pn, xr)])[j]? = some x → (ls[j]? = some x) ∨ (j = ls.length ∧ x.1 = pn) := fun j x hx => by
          by_cases c : j < ls.length
          · rw [List.getElem?_append_left c] at hx
            exact .inl hx
          · have ej : j = ls.length := by
              have := (List.getElem?_eq_some_iff.mp hx).1
              simp at this
              omega
            subst ej
            rw [List.getElem?_append_right (Nat.le_refl _), Nat.sub_self] at hx
            have ex : (pn, xr) = x := by simpa using hx
            exact .inr ⟨rfl, by rw [← ex]⟩
        rcases last j x hx with h1 | ⟨h1, h1'⟩ <;> rcases last k y hy with h2 | ⟨h2, h2'⟩
        · exact hdis j k x y h1 h2 hjk
        · rw [h2']
          exact old j x h1
        · rw [h1']
          exact (old k y h2).symm
        · exact absurd (h1.trans h2.symm) hjk
    rintro H3 ⟨e3, ls, hls, ll, hall, hdis⟩
    have ll : ls.length = 3 := ll
    -- rows[..][..] = place
    obtain ⟨⟨pr, lr⟩, hpr⟩ : ∃ x, ls[p.1.ix]? = some x := ⟨_, List.getElem?_eq_getElem (by rw [ll]; cases p.1 <;> decide)⟩
    obtain ⟨g1, g2, g3, l, g4, g5⟩ := hall _ _ hpr
    rw [rows_get] at g4
    cases g4
    have lrl : lr.length = (rowOf d p.1).length := by rw [DpAll.len g5, List.length_map]
    refine ⟨_, rfl, _, rfl, kd_read (p := p) (fun H' Q' e hq => ⟨_, rfl, b, _, 0, _, rfl, rfl, SqT.same (e3.trans e) sb, rfl, hq⟩) fun L oL hL => ?_⟩
    have e4 := same_upd (o := oL) hL
    have sb4 := SqT.same (e3.trans e4) sb
    have hls4 := e4 _ _ hls
    have g14 := e4 _ _ g1
    refine ⟨Dl, _, _, V.ref pr, rfl, rfl, SqL.of hls4, atI_nat (by rw [List.getElem?_map, hpr]; rfl), _, rfl, b, _, 1, _, rfl, rfl, sb4, rfl, pr, lr, _, p.2, rfl, rfl, g14, ?_, ?_⟩
    · unfold ixN
      rw [if_pos (by omega), if_pos (by omega)]
      rfl
    have nl5 := nl_updL (ys := lr.set p.2 z) g14
    have e5 : Same H (L2.upd (L2.upd H3 L oL) pr (.lst (lr.set p.2 z))) := fun c u hc => by
      rw [upd_ne (ne_of_none hc g3)]
      exact e4 _ _ (e3 _ _ hc)
    have hls5 : (L2.upd (L2.upd H3 L oL) pr (.lst (lr.set p.2 z))) Dl = some (.lst (ls.map fun x => V.ref x.1)) := by rw [upd_ne g2.symm]; exact hls4
    have h5 : ∀ (j : Nat) x, ls[j]? = some x → ∃ ys l, (L2.upd (L2.upd H3 L oL) pr (.lst (lr.set p.2 z))) x.1 = some (.lst ys) ∧ (rows3 (setD d p q))[j]? = some l ∧ DpAll K (L2.upd (L2.upd H3 L oL) pr (.lst (lr.set p.2 z))) ys (l.map plD) := fun j x hx => by
      have trans5 : ∀ (vs : List V) (m : List Pl), DpAll K H3 vs (m.map plD) → DpAll K (L2.upd (L2.upd H3 L oL) pr (.lst (lr.set p.2 z))) vs (m.map plD) := fun vs m hm => Dp.nls nl5 _ _ (noLs_map _ noL_pl _) (Dp.sames e4 _ _ hm)
      by_cases c : j = p.1.ix
      · subst c
        rw [hpr] at hx
        cases hx
        refine ⟨_, (rowOf d p.1).set p.2 q, upd_same, ?_, ?_⟩
        · rw [rows_set, List.getElem?_set_self (List.getElem?_eq_some_iff.mp (rows_get d p.1)).1]
        · rw [List.map_set]
          exact DpAll.set (trans5 _ _ g5) (Dp.same e5 _ _ hz)
      · obtain ⟨k1, k2, k3, l', k4, k5⟩ := hall j x hx
        refine ⟨x.2, l', ?_, ?_, trans5 _ _ k5⟩
        · rw [upd_ne (hdis j p.1.ix x (pr, lr) hx hpr c)]
          exact e4 _ _ k1
        · rw [rows_set, List.getElem?_set_ne (fun z => c z.symm)]
          exact k4
    generalize L2.upd (L2.upd H3 L oL) pr (.lst (lr.set p.2 z)) = H5 at *
    -- tuple([tuple(row) for row in rows])
    refine ⟨_, rfl, Dl, rfl, ⟨_, SqL.of hls5⟩, fun D2 hD2 => ?_⟩
    have e02 : ∀ (H' : Hp) (o : HO), Same H5 H' → Same H5 (L2.upd H' D2 o) := fun H' o e c u h => by rw [upd_ne (ne_of_none h hD2)]; exact e c u h
    refine lc_list (K := K) (a := Dl) (xs := ls.map fun x => V.ref x.1) (fun i H' => Same H5 H' ∧ ∃ ts : List V, H' D2 = some (.lst ts) ∧ DpAll K H' ts (((rows3 (setD d p q)).take i).map plsD) ∧ ts.length = i ∧ ∀ v ∈ ts, Fv H' v)
      ⟨same_upd hD2, [], upd_same, .nil, rfl, fun v z => nomatch z⟩ (fun i H' _ ⟨e, _⟩ => SqL.of (e _ _ hls5)) ?_ ?_
    · rintro i y H' hi ⟨e, ts, hts, dts, lts, fts⟩
      obtain ⟨x, hx⟩ : ∃ x, ls[i]? = some x := by
        rw [List.getElem?_map] at hi
        cases hq : ls[i]? with
        | none => rw [hq] at hi; cases hi
        | some x => exact ⟨x, rfl⟩
      have ey : V.ref x.1 = y := by
        rw [List.getElem?_map, hx] at hi
        exact Option.some.inj hi
      subst ey
      obtain ⟨ys, l, m1, m2, m3⟩ := h5 i x hx
      have i3 : i < 3 := by rw [← ll]; exact (List.getElem?_eq_some_iff.mp hx).1
      refine ⟨wipe_one _ 4 _, yes_lc ?_⟩
      refine ⟨_, rfl, x.1, ys, rfl, SqL.of (e _ _ m1), fun t o ht oc od => ?_⟩
      have f1 := same_upd (o := HO.frz o (.tup ys)) ht
      have hts1 := f1 _ _ hts
      have tp := tp_lst (o := HO.lst (ts ++ [V.ref t])) hts1
      refine ⟨ts, hts1, by rw [sizeLine_eq]; omega, e02 _ _ (e.trans f1), ts ++ [V.ref t], upd_same, ?_, by rw [List.length_append, lts]; rfl, ?_⟩
      rotate_left
      · intro v hv
        have nlx := nl_updL (ys := ts ++ [V.ref t]) hts1
        rcases List.mem_append.mp hv with hv | hv
        · exact ((fts v hv).nl fun a o h _ _ => f1 a o h).nl nlx
        · have ev : v = .ref t := by simpa using hv
          subst ev
          exact Fv.nl nlx ⟨t, ys, rfl, o, upd_same, oc, od⟩
      have et : ((rows3 (setD d p q)).take (i + 1)).map plsD = ((rows3 (setD d p q)).take i).map plsD ++ [plsD l] := by
        rw [List.take_add_one, m2]
        simp
      rw [et]
      refine DpAll.app (Dp.tps tp _ _ (noLs_map _ noL_pls _) (Dp.sames f1 _ _ dts)) (.cons (Dp.tp tp _ _ (noL_pls _) ?_) .nil)
      exact .tup (Fz.sq ⟨o, upd_same, oc, od⟩) (Dp.sames (e.trans f1) _ _ m3)
    · rintro H6 ⟨e6, ts, hts, dts, lts, fts⟩
      rw [List.length_map, ll] at dts
      refine ⟨D2, ts, rfl, .inl ⟨SqL.of hts, fun r hr => ?_⟩⟩
      have l3 : ts.length = 3 := by rw [lts, List.length_map, ll]
      obtain ⟨t1, t2, t3, et⟩ : ∃ t1 t2 t3, ts = [t1, t2, t3] := by
        match ts, l3 with
        | [t1, t2, t3], _ => exact ⟨t1, t2, t3, rfl⟩
      subst et
      have dd := Dp.sames (same_upd (o := HO.tup [t1, t2, t3]) hr) _ _ dts
      cases dd with
      | cons x1 dd =>
        cases dd with
        | cons x2 dd =>
          cases dd with
          | cons x3 dd =>
            exact k _ _ ((e5.trans e6).trans (same_upd hr)) ⟨_, t1, t2, t3, rfl, SqT.of upd_same, x1, x2, x3, (fts t3 (by simp)).nl fun a o h _ _ => same_upd hr a o h⟩
theorem scIns : FnScope ["_law_state", "_law_box", "_law_found", "_law_k"] ["_law_state", "_law_box"] (defScope sIns) := ⟨rfl, rfl, rfl, by decide +kernel, rfl, by decide +kernel, by decide +kernel⟩
theorem ok_ins {f : Addr} {fd : FuncData} (F : Fun K "_law_inside" "_law_inside" sIns f fd) (B : Bt mg) : FnOk P w K mg base CX0 1 f fd ["_law_state", "_law_box"] (spInside K) := by
  refine F.ok scIns (fun vs H Q E h => ?_) (fun cdv A outer s H vs Q E hr h => ?_)
  · obtain ⟨x, b, d, rfl, _⟩ := h
    rfl
  · obtain ⟨x, b, d, rfl, hx, hL, k⟩ := h
    have hu : (cxOf CX0 P w K mg base ["_law_state", "_law_box", "_law_found", "_law_k"] "_law_inside" (defScope sIns) f cdv A outer s H E).nox.A.units + 64 < cLine := by have := hr.un; show (A.deeper _).units + 64 < cLine; omega
    refine ⟨_, pss_cons (ps_setLc (i := 2) (own := [("_law_k", 3)]) (g := gName 3) (tt := tTest (tOp (rEqD K) (tOp (rIxT K) (tOp (rIxT K) (tVar 0) (tC (.int 0))) (tVar 3)) (tTup (tCons (tC (.str ("box" : Str))) (tCons (tVar 1) tNil))))) (te := tTup (tCons (tC (.str ("box" : Str))) (tCons (tVar 3) tNil))) rfl scIns.nd rfl rfl (sw_true rfl rfl rfl (by decide +kernel))
        (pi_range1 rfl B.rng (pa_cons (pe_callB call_len_seq (by rfl) B.len PySem.boot_len (pa_cons (pe_ix ix_tup (pv 0) pe_int (fun _ _ => rfl)) pa_nil)) pa_nil))
        (blkOk_by (own := [("_law_k", 3)]) (N := ["_law_state", "_law_box", "_law_found", "_law_k"]) (sc := defScope sIns) (by decide +kernel)) (fun _ _ _ _ _ => pg_name (i := 3) scIns.nd rfl (.inl rfl))
        (fun _ _ _ _ _ => pts_one (pt_cmpR (op_eqD hu) (pe_ix ix_tup (pe_ix ix_tup (pv 0) pe_int (fun _ _ => rfl)) (pv 3) (fun _ _ => rfl)) (pe_tup (pa_cons pe_str (pa_cons (pv 1) pa_nil))) (nomark _))) (fun _ _ _ _ _ => pe_tup (pa_cons pe_str (pa_cons (pv 3) pa_nil))))
      (pss_one (ps_ret (pe_callTy call_tuple_of (by rfl) B.tup (by decide +kernel) (pa_cons (pe_op op_cat (pv 2) (pe_lc (own := [("_law_k", 3)]) (g := gName 3) (tt := tTest (tOp (rEqD K) (tOp (rIxT K) (tOp (rIxT K) (tVar 0) (tC (.int 1))) (tVar 3)) (tTup (tCons (tC (.str ("box" : Str))) (tCons (tVar 1) tNil))))) (te := tTup (tCons (tC (.str ("thing" : Str))) (tCons (tVar 3) tNil))) rfl scIns.nd
        (pi_range1 rfl B.rng (pa_cons (pe_callB call_len_seq (by rfl) B.len PySem.boot_len (pa_cons (pe_ix ix_tup (pv 0) pe_int (fun _ _ => rfl)) pa_nil)) pa_nil))
        (blkOk_by (own := [("_law_k", 3)]) (N := ["_law_state", "_law_box", "_law_found", "_law_k"]) (sc := defScope sIns) (by decide +kernel)) (fun _ _ _ _ _ => pg_name (i := 3) scIns.nd rfl (.inl rfl))
        (fun _ _ _ _ _ => pts_one (pt_cmpR (op_eqD hu) (pe_ix ix_tup (pe_ix ix_tup (pv 0) pe_int (fun _ _ => rfl)) (pv 3) (fun _ _ => rfl)) (pe_tup (pa_cons pe_str (pa_cons (pv 1) pa_nil))) (nomark _))) (fun _ _ _ _ _ => pe_tup (pa_cons pe_str (pa_cons (pv 3) pa_nil))))) pa_nil)))), ?_⟩
    obtain ⟨a, v1, v2, v3, rfl, sa, d1, d2, d3⟩ := st_at hx
    obtain ⟨a1, x1, rfl, s1, dl1, l1⟩ := pls_at d1
    obtain ⟨a2, x2, rfl, s2, dl2, l2⟩ := pls_at d2
    have lb := hL.b
    have lt := hL.t
    refine ⟨_, rfl, a, _, 0, _, rfl, rfl, sa, rfl, a1, x1, rfl, .inr s1, _, rfl, by omega, by omega, fun D1 hD1 => ?_⟩
    rw [show (x1.length : Int).toNat = d.bs.length by omega]
    refine lc_fltR (K := K) .box d.bs.length 3 (fun i => decide (d.bs[i]? = some (.box, (b : Int)))) (by show 3 < 4; decide) (by omega) hD1 (fun i H' T hi e hT => ?_) (fun H1 z1 e1 hz1 dz1 => ?_)
    · obtain ⟨q, hq⟩ : ∃ q, d.bs[i]? = some q := ⟨_, List.getElem?_eq_getElem hi⟩
      obtain ⟨vq, g1, g2⟩ := DpAll.at2 dl1 (i := i) (d := plD q) (by rw [List.getElem?_map, hq]; rfl)
      refine ⟨_, rfl, a, _, 0, _, rfl, rfl, SqT.same e sa, rfl, _, rfl, a1, x1, _, vq, rfl, rfl, SqT.same e s1, atI_nat g1, _, rfl, (by show 2 ≤ sizeLine; decide), fun t ht => ?_⟩
      have f1 := same_upd (o := HO.tup [.str ("box" : Str), .int (b : Nat)]) ht
      refine ⟨plD q, plD (.box, (b : Int)), Dp.same (e.trans f1) _ _ g2, .tup (SqT.of upd_same) (.cons (.str _) (.cons (.int _) .nil)), shaped_pl _, shaped_pl _, _, rfl, ?_⟩
      rw [eqv_pl]
      have := hT _ f1
      rw [hq] at this
      simp only [Option.some.injEq] at this
      exact this
    refine ⟨_, rfl, _, rfl, a, _, 1, _, rfl, rfl, SqT.same e1 sa, rfl, a2, x2, rfl, .inr (SqT.same e1 s2), _, rfl, by omega, by omega, fun D2 hD2 => ?_⟩
    rw [show (x2.length : Int).toNat = d.ts.length by omega]
    refine lc_fltR (K := K) .thing d.ts.length 3 (fun i => decide (d.ts[i]? = some (.box, (b : Int)))) (by show 3 < 4; decide) (by omega) hD2 (fun i H' T hi e hT => ?_) (fun H2 z2 e2 hz2 dz2 => ?_)
    · obtain ⟨q, hq⟩ : ∃ q, d.ts[i]? = some q := ⟨_, List.getElem?_eq_getElem hi⟩
      obtain ⟨vq, g1, g2⟩ := DpAll.at2 dl2 (i := i) (d := plD q) (by rw [List.getElem?_map, hq]; rfl)
      have e' := e1.trans e
      refine ⟨_, rfl, a, _, 1, _, rfl, rfl, SqT.same e' sa, rfl, _, rfl, a2, x2, _, vq, rfl, rfl, SqT.same e' s2, atI_nat g1, _, rfl, (by show 2 ≤ sizeLine; decide), fun t ht => ?_⟩
      have f1 := same_upd (o := HO.tup [.str ("box" : Str), .int (b : Nat)]) ht
      refine ⟨plD q, plD (.box, (b : Int)), Dp.same (e'.trans f1) _ _ g2, .tup (SqT.of upd_same) (.cons (.str _) (.cons (.int _) .nil)), shaped_pl _, shaped_pl _, _, rfl, ?_⟩
      rw [eqv_pl]
      have := hT _ f1
      rw [hq] at this
      simp only [Option.some.injEq] at this
      exact this
    have ln1 : z1.length ≤ 100 := by
      rw [DpAll.len dz1, List.length_map]
      have := List.length_filter_le (fun i => decide (d.bs[i]? = some (Wd.box, (b : Int)))) (List.range d.bs.length)
      rw [List.length_range] at this
      omega
    have ln2 : z2.length ≤ 100 := by
      rw [DpAll.len dz2, List.length_map]
      have := List.length_filter_le (fun i => decide (d.ts[i]? = some (Wd.box, (b : Int)))) (List.range d.ts.length)
      rw [List.length_range] at this
      omega
    refine ⟨D1, D2, z1, z2, rfl, rfl, e2 _ _ hz1, hz2, by rw [sizeLine_eq]; omega, fun p hp => ⟨p, _, rfl, .inl ⟨SqL.of upd_same, fun t ht => ?_⟩⟩⟩
    have f1 := same_upd (o := HO.lst (z1 ++ z2)) hp
    have f2 := same_upd (o := HO.tup (z1 ++ z2)) ht
    refine k _ _ (((e1.trans e2).trans f1).trans f2) (.tup (SqT.of upd_same) ?_)
    unfold insideOf loadsOf atOf
    rw [List.map_append, itP_map, itP_map]
    exact DpAll.app (Dp.sames ((e2.trans f1).trans f2) _ _ dz1) (Dp.sames (f1.trans f2) _ _ dz2)
end
end Kw

set_option Elab.async false
set_option linter.all false
set_option maxRecDepth 100000
set_option maxHeartbeats 4000000
namespace Kw
open PySem PySem.Spec PyProof.Rows L2
section
variable {P : Program} {w : World} {K : PySem.W.Frag} {mg : Str → Option Value} {base : Heap}
/-- [i for i in range(n) if ..] -/
theorem lc_fltN {σ : L2.St} {H1 : Hp} {D : Addr} {tt : TT} {Qd : Hp → Prop} (n j : Nat) (p : Nat → Bool) (hj : j < σ.length) (hn : n ≤ 1000) (hD : H1 D = none)
    (ht : ∀ (i : Nat) (H : Hp) (T : Bool → Hp → Prop), i < n → Same H1 H → (∀ H', Same H H' → T (p i) H') → tt ((wipe σ [j]).set j (some (.int (i : Nat)))) H T)
    (hd : ∀ H, Same H1 H → H D = some (.lst (((List.range n).filter p).map fun i => V.int (i : Nat))) → Qd H) :
    ∃ W : Nat → Nat → Hp → Prop, (∃ m, W 0 m (upd H1 D (.lst []))) ∧ ∀ i m H, W i m H →
      ((Itr 0 n).stop i H ∧ Qd H) ∨ ((Itr 0 n).go i H ∧ ∃ Nx : Hp → Prop, (∀ H', Nx H' → ∃ m', m' < m ∧ W (i + 1) m' H') ∧ ∀ x H', (Itr 0 n).yld i H x H' → gName j x (wipe σ [j]) H' fun σ2 H2 => wipe σ2 [j] = wipe σ [j] ∧ tt σ2 H2 fun b H3 =>
        if b = true then tVar j σ2 H3 fun y H4 => ∃ acc, H4 D = some (.lst acc) ∧ acc.length < sizeLine ∧ Nx (upd H4 D (.lst (acc ++ [y]))) else Nx H3) := by
  have e0 : ∀ (H' : Hp) (o : HO), Same H1 H' → Same H1 (L2.upd H' D o) := fun H' o e c u h => by rw [upd_ne (ne_of_none h hD)]; exact e c u h
  refine lc_range (lo := 0) (n := n) (fun i H => Same H1 H ∧ H D = some (.lst (((List.range i).filter p).map fun i => V.int (i : Nat)))) ⟨same_upd hD, upd_same⟩ ?_ ?_
  · rintro i H hi ⟨e, hz⟩
    rw [Int.zero_add]
    refine ⟨wipe_one _ j _, ht i H _ hi e fun H' e' => ?_⟩
    have hz' := e' _ _ hz
    have er : (List.range (i + 1)).filter p = (List.range i).filter p ++ (if p i = true then [i] else []) := by
      rw [List.range_succ, List.filter_append]
      congr 1
      simp only [List.filter_cons, List.filter_nil]
    refine ite_b _ (fun c => ?_) (fun c => ?_)
    · rw [c, if_pos rfl] at er
      refine ⟨_, List.getElem?_set_self (by rw [wipe_length]; exact hj), ?_⟩
      have le : (((List.range i).filter p).map fun i => V.int (i : Nat)).length ≤ i := by
        rw [List.length_map]
        have := List.length_filter_le p (List.range i)
        rw [List.length_range] at this
        exact this
      refine ⟨_, hz', by rw [sizeLine_eq]; omega, e0 _ _ (e.trans e'), ?_⟩
      rw [er, List.map_append]
      exact upd_same
    · rw [c, if_neg (by decide), List.append_nil] at er
      refine ⟨e.trans e', ?_⟩
      rw [er]
      exact hz'
  · rintro H ⟨e, hz⟩
    exact hd H e hz
theorem nats_map (l : List Nat) : (l.map fun i => V.int (i : Nat)) = (l.map fun i => ((i : Nat) : Int)).map V.int := by
  rw [List.map_map]
  rfl
theorem ints_emptyN (ns : List Int) : (!PyData.eqv (.list (ns.map PyData.int)) (.list [])) = decide (ns ≠ []) := by
  rw [ints_empty]
  cases ns <;> simp
theorem flt_nil {d : Hs} {b : Nat} (h : (List.range d.ss.length).filter (fun i => decide (d.ss[i]? = some (Wd.box, (b : Int)))) = []) : (Wd.box, (b : Int)) ∉ d.ss := fun m => by
  obtain ⟨i, hi⟩ := List.mem_iff_getElem?.mp m
  have hl := (List.getElem?_eq_some_iff.mp hi).1
  have := List.mem_filter (p := fun i => decide (d.ss[i]? = some (Wd.box, (b : Int)))).mpr ⟨List.mem_range.mpr hl, decide_eq_true hi⟩
  rw [h] at this
  cases this
theorem flt_cons {d : Hs} {b i : Nat} {r : List Nat} (h : (List.range d.ss.length).filter (fun i => decide (d.ss[i]? = some (Wd.box, (b : Int)))) = i :: r) : (Wd.box, (b : Int)) ∈ d.ss ∧ onIx d b = i := by
  have h1 : (List.range d.ss.length).find? (fun i => decide (d.ss[i]? = some (Wd.box, (b : Int)))) = some i := by
    rw [← List.head?_filter, h]
    rfl
  obtain ⟨g1, g2, g3⟩ := List.find?_range_eq_some.mp h1
  have g1 := of_decide_eq_true g1
  refine ⟨List.mem_iff_getElem?.mpr ⟨i, g1⟩, on_eq g1 fun m z hm hz e => ?_⟩
  have := g3 m hm
  rw [hz, e] at this
  simp at this
/-! ### _law_lid -/
def spLd (K : PySem.W.Frag) : Sp := fun vs H Q _ => ∃ (x : V) (b : Nat) (d : Hs), vs = [x, .int (b : Nat)] ∧ Dp K H x (stD d) ∧ d.ss.length ≤ 100 ∧ ((Wd.box, (b : Int)) ∈ d.ss → ∀ H', Same H H' → Q (.int (onIx d b : Nat)) H') ∧ ((Wd.box, (b : Int)) ∉ d.ss → ∀ H', Same H H' → Q .non H')
theorem scLid : FnScope ["_law_state", "_law_box", "_law_found", "_law_k"] ["_law_state", "_law_box"] (defScope sLid) := ⟨rfl, rfl, rfl, by decide +kernel, rfl, by decide +kernel, by decide +kernel⟩
theorem ok_lid {f : Addr} {fd : FuncData} (F : Fun K "_law_lid" "_law_lid" sLid f fd) (B : Bt mg) : FnOk P w K mg base CX0 1 f fd ["_law_state", "_law_box"] (spLd K) := by
  refine F.ok scLid (fun vs H Q E h => ?_) (fun cdv A outer s H vs Q E hr h => ?_)
  · obtain ⟨x, b, d, rfl, _⟩ := h
    rfl
  · obtain ⟨x, b, d, rfl, hx, hL, kin, kout⟩ := h
    have hu : (cxOf CX0 P w K mg base ["_law_state", "_law_box", "_law_found", "_law_k"] "_law_lid" (defScope sLid) f cdv A outer s H E).nox.A.units + 64 < cLine := by have := hr.un; show (A.deeper _).units + 64 < cLine; omega
    refine ⟨_, pss_cons (ps_setLc (i := 2) (own := [("_law_k", 3)]) (g := gName 3) (tt := tTest (tOp (rEqD K) (tOp (rIxT K) (tOp (rIxT K) (tVar 0) (tC (.int 2))) (tVar 3)) (tTup (tCons (tC (.str ("box" : Str))) (tCons (tVar 1) tNil))))) (te := tVar 3) rfl scLid.nd rfl rfl (sw_true rfl rfl rfl (by decide +kernel))
        (pi_range1 rfl B.rng (pa_cons (pe_callB call_len_seq (by rfl) B.len PySem.boot_len (pa_cons (pe_ix ix_tup (pv 0) pe_int (fun _ _ => rfl)) pa_nil)) pa_nil))
        (blkOk_by (own := [("_law_k", 3)]) (N := ["_law_state", "_law_box", "_law_found", "_law_k"]) (sc := defScope sLid) (by decide +kernel)) (fun _ _ _ _ _ => pg_name (i := 3) scLid.nd rfl (.inl rfl))
        (fun _ _ _ _ _ => pts_one (pt_cmpR (op_eqD hu) (pe_ix ix_tup (pe_ix ix_tup (pv 0) pe_int (fun _ _ => rfl)) (pv 3) (fun _ _ => rfl)) (pe_tup (pa_cons pe_str (pa_cons (pv 1) pa_nil))) (nomark _))) (fun _ _ _ _ _ => pv 3))
      (pss_one (ps_ret (pe_ifExp (pt_cmpR (op_neD hu) (pv 2) (pe_lst pa_nil) (nomark _)) (pe_ix ix_list (pv 2) pe_int (fun _ _ => rfl)) pe_non))), ?_⟩
    obtain ⟨a, v1, v2, v3, rfl, sa, d1, d2, d3⟩ := st_at hx
    obtain ⟨a1, x1, rfl, s1, dl1, l1⟩ := pls_at d3
    refine ⟨_, rfl, a, _, 2, _, rfl, rfl, sa, rfl, a1, x1, rfl, .inr s1, _, rfl, by omega, by omega, fun D1 hD1 => ?_⟩
    rw [show (x1.length : Int).toNat = d.ss.length by omega]
    refine lc_fltN d.ss.length 3 (fun i => decide (d.ss[i]? = some (.box, (b : Int)))) (by show 3 < 4; decide) (by omega) hD1 (fun i H' T hi e hT => ?_) (fun H1 e1 hz1 => ?_)
    · obtain ⟨q, hq⟩ : ∃ q, d.ss[i]? = some q := ⟨_, List.getElem?_eq_getElem hi⟩
      obtain ⟨vq, g1, g2⟩ := DpAll.at2 dl1 (i := i) (d := plD q) (by rw [List.getElem?_map, hq]; rfl)
      refine ⟨_, rfl, a, _, 2, _, rfl, rfl, SqT.same e sa, rfl, _, rfl, a1, x1, _, vq, rfl, rfl, SqT.same e s1, atI_nat g1, _, rfl, (by show 2 ≤ sizeLine; decide), fun t ht => ?_⟩
      have f1 := same_upd (o := HO.tup [.str ("box" : Str), .int (b : Nat)]) ht
      refine ⟨plD q, plD (.box, (b : Int)), Dp.same (e.trans f1) _ _ g2, .tup (SqT.of upd_same) (.cons (.str _) (.cons (.int _) .nil)), shaped_pl _, shaped_pl _, _, rfl, ?_⟩
      rw [eqv_pl]
      have := hT _ f1
      rw [hq] at this
      simp only [Option.some.injEq] at this
      exact this
    rw [nats_map] at hz1
    refine ⟨_, rfl, (by show 0 ≤ sizeLine; decide), fun p hp => ?_⟩
    have f1 := same_upd (o := HO.lst []) hp
    have hz2 := f1 _ _ hz1
    refine ⟨_, .list [], .lst (SqL.of hz2) (ints_all K _ _), .lst (SqL.of upd_same) .nil, ints_shaped _, by decide, _, rfl, ?_⟩
    rw [ints_emptyN]
    cases e : (List.range d.ss.length).filter (fun i => decide (d.ss[i]? = some (Wd.box, (b : Int)))) with
    | nil =>
      refine ite2 (fun c => absurd (of_decide_eq_true c) (by simp)) (fun _ => ?_)
      exact kout (flt_nil e) _ (e1.trans f1)
    | cons i r =>
      rw [e] at hz2
      obtain ⟨g1, g2⟩ := flt_cons e
      refine ite2 (fun _ => ?_) (fun c => absurd (decide_eq_true (by simp)) c)
      refine ⟨_, rfl, D1, _, 0, _, rfl, rfl, SqL.of hz2, atI_nat (j := 0) rfl, ?_⟩
      have := kin g1 _ (e1.trans f1)
      rw [g2] at this
      exact this
/-! ### _law_items -/
def drD (d : Hs) : PyData := .tuple [.int d.hands, plsD d.bs, plsD d.ts, plsD d.ss]
theorem dr_at {H : Hp} {x : V} {d : Hs} (h : Dp K H x (drD d)) : ∃ a v1 v2 v3, x = .ref a ∧ SqT K H a [.int d.hands, v1, v2, v3] ∧ Dp K H v1 (plsD d.bs) ∧ Dp K H v2 (plsD d.ts) ∧ Dp K H v3 (plsD d.ss) := by
  cases h with
  | tup hs ha =>
    cases ha with
    | cons d0 r =>
      cases d0
      cases r with
      | cons d1 r =>
        cases r with
        | cons d2 r =>
          cases r with
          | cons d3 r =>
            cases r
            exact ⟨_, _, _, _, rfl, hs, d1, d2, d3⟩
def spItm (K : PySem.W.Frag) : Sp := fun vs H Q _ => ∃ (x : V) (d : Hs), vs = [x] ∧ Dp K H x (drD d) ∧ Ls d ∧ ∀ p xs H', Same H H' → H p = none → H' p = some (.lst xs) → DpAll K H' xs ((allI d).map itP) → Q (.ref p) H'
theorem scItm : FnScope ["_law_house_here", "_law_found", "_law_k"] ["_law_house_here"] (defScope sItm) := ⟨rfl, rfl, rfl, by decide +kernel, rfl, by decide +kernel, by decide +kernel⟩
theorem flt_true (n : Nat) : (List.range n).filter (fun _ => true) = List.range n := List.filter_eq_self.mpr fun _ _ => rfl
theorem ok_itm {f : Addr} {fd : FuncData} (F : Fun K "_law_items" "_law_items" sItm f fd) (B : Bt mg) : FnOk P w K mg base CX0 1 f fd ["_law_house_here"] (spItm K) := by
  refine F.ok scItm (fun vs H Q E h => ?_) (fun cdv A outer s H vs Q E hr h => ?_)
  · obtain ⟨x, d, rfl, _⟩ := h
    rfl
  · obtain ⟨x, d, rfl, hx, hL, k⟩ := h
    refine ⟨_, (pss_cons (ps_set (i := 1) scItm.nd rfl (.inl rfl) (pe_op op_cat (pe_lc (own := [("_law_k", 2)]) (g := gName 2) (tt := tYes) (te := tTup (tCons (tC (.str ("box" : Str))) (tCons (tVar 2) tNil))) rfl scItm.nd (pi_range1 rfl B.rng (pa_cons (pe_callB call_len_seq (by rfl) B.len PySem.boot_len (pa_cons (pe_ix ix_tup (pv 0) pe_int (fun _ _ => rfl)) pa_nil)) pa_nil)) (blkOk_by (own := [("_law_k", 2)]) (N := ["_law_house_here", "_law_found", "_law_k"]) (sc := defScope sItm) (by decide +kernel)) (fun _ _ _ _ _ => pg_name (i := 2) scItm.nd rfl (.inl rfl)) (fun _ _ _ _ _ => pts_nil) (fun _ _ _ _ _ => pe_tup (pa_cons pe_str (pa_cons (pv 2) pa_nil)))) (pe_lc (own := [("_law_k", 2)]) (g := gName 2) (tt := tYes) (te := tTup (tCons (tC (.str ("seal" : Str))) (tCons (tVar 2) tNil))) rfl scItm.nd (pi_range1 rfl B.rng (pa_cons (pe_callB call_len_seq (by rfl) B.len PySem.boot_len (pa_cons (pe_ix ix_tup (pv 0) pe_int (fun _ _ => rfl)) pa_nil)) pa_nil)) (blkOk_by (own := [("_law_k", 2)]) (N := ["_law_house_here", "_law_found", "_law_k"]) (sc := defScope sItm) (by decide +kernel)) (fun _ _ _ _ _ => pg_name (i := 2) scItm.nd rfl (.inl rfl)) (fun _ _ _ _ _ => pts_nil) (fun _ _ _ _ _ => pe_tup (pa_cons pe_str (pa_cons (pv 2) pa_nil)))))) (pss_one (ps_ret (pe_op op_cat (pv 1) (pe_lc (own := [("_law_k", 2)]) (g := gName 2) (tt := tYes) (te := tTup (tCons (tC (.str ("thing" : Str))) (tCons (tVar 2) tNil))) rfl scItm.nd (pi_range1 rfl B.rng (pa_cons (pe_callB call_len_seq (by rfl) B.len PySem.boot_len (pa_cons (pe_ix ix_tup (pv 0) pe_int (fun _ _ => rfl)) pa_nil)) pa_nil)) (blkOk_by (own := [("_law_k", 2)]) (N := ["_law_house_here", "_law_found", "_law_k"]) (sc := defScope sItm) (by decide +kernel)) (fun _ _ _ _ _ => pg_name (i := 2) scItm.nd rfl (.inl rfl)) (fun _ _ _ _ _ => pts_nil) (fun _ _ _ _ _ => pe_tup (pa_cons pe_str (pa_cons (pv 2) pa_nil)))))))), ?_⟩
    obtain ⟨a, v1, v2, v3, rfl, sa, d1, d2, d3⟩ := dr_at hx
    obtain ⟨a1, x1, rfl, s1, dl1, l1⟩ := pls_at d1
    obtain ⟨a2, x2, rfl, s2, dl2, l2⟩ := pls_at d2
    obtain ⟨a3, x3, rfl, s3, dl3, l3⟩ := pls_at d3
    have lb := hL.b
    have lt := hL.t
    have ls := hL.s
    have l5 := sizeLine_eq
    refine ⟨_, rfl, a, _, 1, _, rfl, rfl, sa, rfl, a1, x1, rfl, .inr s1, _, rfl, by omega, by omega, fun D1 hD1 => ?_⟩
    rw [show (x1.length : Int).toNat = d.bs.length by omega]
    refine lc_fltR (K := K) .box d.bs.length 2 (fun _ => true) (by show 2 < 3; decide) (by omega) hD1 (fun i H' T hi e hT => hT _ fun _ _ h => h) (fun H1 z1 e1 hz1 dz1 => ?_)
    refine ⟨_, rfl, a, _, 3, _, rfl, rfl, SqT.same e1 sa, rfl, a3, x3, rfl, .inr (SqT.same e1 s3), _, rfl, by omega, by omega, fun D2 hD2 => ?_⟩
    rw [show (x3.length : Int).toNat = d.ss.length by omega]
    refine lc_fltR (K := K) .sl d.ss.length 2 (fun _ => true) (by show 2 < 3; decide) (by omega) hD2 (fun i H' T hi e hT => hT _ fun _ _ h => h) (fun H2 z2 e2 hz2 dz2 => ?_)
    rw [flt_true] at dz1 dz2
    have ln1 : z1.length = d.bs.length := by rw [DpAll.len dz1, List.length_map, List.length_range]
    have ln2 : z2.length = d.ss.length := by rw [DpAll.len dz2, List.length_map, List.length_range]
    refine ⟨D1, D2, z1, z2, rfl, rfl, e2 _ _ hz1, hz2, by omega, fun p hp => ?_⟩
    have f1 := same_upd (o := HO.lst (z1 ++ z2)) hp
    have e3 := (e1.trans e2).trans f1
    refine ⟨_, rfl, _, rfl, a, _, 2, _, rfl, rfl, SqT.same e3 sa, rfl, a2, x2, rfl, .inr (SqT.same e3 s2), _, rfl, by omega, by omega, fun D3 hD3 => ?_⟩
    rw [show (x2.length : Int).toNat = d.ts.length by omega]
    refine lc_fltR (K := K) .thing d.ts.length 2 (fun _ => true) (by show 2 < 3; decide) (by omega) hD3 (fun i H' T hi e hT => hT _ fun _ _ h => h) (fun H4 z3 e4 hz3 dz3 => ?_)
    rw [flt_true] at dz3
    have ln3 : z3.length = d.ts.length := by rw [DpAll.len dz3, List.length_map, List.length_range]
    have hp4 := e4 _ _ (show (L2.upd H2 p (.lst (z1 ++ z2))) p = some (.lst (z1 ++ z2)) from upd_same)
    refine ⟨p, D3, z1 ++ z2, z3, rfl, rfl, hp4, hz3, by rw [List.length_append]; omega, fun q hq => ?_⟩
    have f2 := same_upd (o := HO.lst (z1 ++ z2 ++ z3)) hq
    have e5 := (e3.trans e4).trans f2
    refine k q _ _ e5 ?_ upd_same ?_
    · cases hh : H q with
      | none => rfl
      | some u =>
        have := (e3.trans e4) _ _ hh
        rw [hq] at this
        cases this
    · unfold allI kdI
      rw [List.map_append, List.map_append, itP_map, itP_map, itP_map]
      exact DpAll.app (DpAll.app (Dp.sames (((e2.trans f1).trans e4).trans f2) _ _ dz1) (Dp.sames ((f1.trans e4).trans f2) _ _ dz2)) (Dp.sames f2 _ _ dz3)
end
end Kw

set_option Elab.async false
set_option linter.all false
set_option maxRecDepth 100000
set_option maxHeartbeats 4000000
namespace Kw
open PySem PySem.Spec PyProof.Rows L2
abbrev sDrn : Stmt := top 60
abbrev sHsM : Stmt := top 61
/-- the lists of a house that is drawn -/
structure DR (K : PySem.W.Frag) (h c Lb Lt Ls : Addr) (H0 : Hp) (bs ts ss : List Pl) (H : Hp) : Prop where
  hB : HAt H h c
  kb : Kb h c H0 H
  b : ∃ xs, H Lb = some (.lst xs) ∧ DpAll K H xs (bs.map plD)
  t : ∃ xs, H Lt = some (.lst xs) ∧ DpAll K H xs (ts.map plD)
  s : ∃ xs, H Ls = some (.lst xs) ∧ DpAll K H xs (ss.map plD)
theorem none_upd {H : Hp} {p q : Addr} {o : HO} (h : (L2.upd H p o) q = .none) : q ≠ p ∧ H q = .none := by
  by_cases c : q = p
  · subst c
    rw [upd_same] at h
    cases h
  · rw [upd_ne c] at h
    exact ⟨c, h⟩
structure Fr3 (h c Lb Lt Ls : Addr) (H0 : Hp) : Prop where
  b0 : H0 Lb = .none
  t0 : H0 Lt = .none
  s0 : H0 Ls = .none
  bt : Lb ≠ Lt
  bs : Lb ≠ Ls
  ts : Lt ≠ Ls
  bh : Lb ≠ h ∧ Lb ≠ c
  th : Lt ≠ h ∧ Lt ≠ c
  sh : Ls ≠ h ∧ Ls ≠ c
section
variable {K : PySem.W.Frag} {h c Lb Lt Ls : Addr} {H0 H H' : Hp} {bs ts ss : List Pl}
theorem dpl_nl (k : Nl H H') {xs : List V} {ps : List Pl} (d : DpAll K H xs (ps.map plD)) : DpAll K H' xs (ps.map plD) := Dp.nls k _ _ (noLs_map _ noL_pl _) d
theorem dpl_lst {D : Addr} {xs : List V} {o : HO} (hD : H D = some (.lst xs)) {ys : List V} {ps : List Pl} (d : DpAll K H ys (ps.map plD)) : DpAll K (L2.upd H D o) ys (ps.map plD) := Dp.tps (tp_lst hD) _ _ (noLs_map _ noL_pl _) d
theorem DR.draw (F : Fr3 h c Lb Lt Ls H0) (x : DR K h c Lb Lt Ls H0 bs ts ss H) (k : Kb h c H H') (hB : HAt H' h c) : DR K h c Lb Lt Ls H0 bs ts ss H' := by
  obtain ⟨_, kb, ⟨xb, b1, b2⟩, ⟨xt, t1, t2⟩, ⟨xs, s1, s2⟩⟩ := x
  exact ⟨hB, kb.trans k, ⟨xb, k.kp.ls _ _ b1 F.bh.1 F.bh.2, dpl_nl k.nl b2⟩, ⟨xt, k.kp.ls _ _ t1 F.th.1 F.th.2, dpl_nl k.nl t2⟩, ⟨xs, k.kp.ls _ _ s1 F.sh.1 F.sh.2, dpl_nl k.nl s2⟩⟩
theorem DR.same (F : Fr3 h c Lb Lt Ls H0) (x : DR K h c Lb Lt Ls H0 bs ts ss H) (e : Same H H') : DR K h c Lb Lt Ls H0 bs ts ss H' := x.draw F (Kb.same e) (x.hB.same e)
theorem DR.addB (F : Fr3 h c Lb Lt Ls H0) (x : DR K h c Lb Lt Ls H0 bs ts ss H) {xs : List V} {v : V} {q : Pl} (hb : H Lb = some (.lst xs)) (dv : Dp K H v (plD q)) : DR K h c Lb Lt Ls H0 (bs ++ [q]) ts ss (L2.upd H Lb (.lst (xs ++ [v]))) := by
  obtain ⟨hB, kb, ⟨xb, b1, b2⟩, ⟨xt, t1, t2⟩, ⟨xs', s1, s2⟩⟩ := x
  rw [hb] at b1
  cases b1
  exact ⟨hB.updD F.bh.1 F.bh.2, kb.updD F.b0, ⟨_, upd_same, by rw [List.map_append]; exact DpAll.app (dpl_lst hb b2) (.cons (Dp.tp (tp_lst hb) _ _ (noL_pl q) dv) .nil)⟩, ⟨xt, by rw [upd_ne F.bt.symm]; exact t1, dpl_lst hb t2⟩, ⟨xs', by rw [upd_ne F.bs.symm]; exact s1, dpl_lst hb s2⟩⟩
theorem DR.addT (F : Fr3 h c Lb Lt Ls H0) (x : DR K h c Lb Lt Ls H0 bs ts ss H) {xs : List V} {v : V} {q : Pl} (hb : H Lt = some (.lst xs)) (dv : Dp K H v (plD q)) : DR K h c Lb Lt Ls H0 bs (ts ++ [q]) ss (L2.upd H Lt (.lst (xs ++ [v]))) := by
  obtain ⟨hB, kb, ⟨xb, b1, b2⟩, ⟨xt, t1, t2⟩, ⟨xs', s1, s2⟩⟩ := x
  rw [hb] at t1
  cases t1
  exact ⟨hB.updD F.th.1 F.th.2, kb.updD F.t0, ⟨xb, by rw [upd_ne F.bt]; exact b1, dpl_lst hb b2⟩, ⟨_, upd_same, by rw [List.map_append]; exact DpAll.app (dpl_lst hb t2) (.cons (Dp.tp (tp_lst hb) _ _ (noL_pl q) dv) .nil)⟩, ⟨xs', by rw [upd_ne F.ts.symm]; exact s1, dpl_lst hb s2⟩⟩
theorem DR.addS (F : Fr3 h c Lb Lt Ls H0) (x : DR K h c Lb Lt Ls H0 bs ts ss H) {xs : List V} {v : V} {q : Pl} (hb : H Ls = some (.lst xs)) (dv : Dp K H v (plD q)) : DR K h c Lb Lt Ls H0 bs ts (ss ++ [q]) (L2.upd H Ls (.lst (xs ++ [v]))) := by
  obtain ⟨hB, kb, ⟨xb, b1, b2⟩, ⟨xt, t1, t2⟩, ⟨xs', s1, s2⟩⟩ := x
  rw [hb] at s1
  cases s1
  exact ⟨hB.updD F.sh.1 F.sh.2, kb.updD F.s0, ⟨xb, by rw [upd_ne F.bs]; exact b1, dpl_lst hb b2⟩, ⟨xt, by rw [upd_ne F.ts]; exact t1, dpl_lst hb t2⟩, ⟨_, upd_same, by rw [List.map_append]; exact DpAll.app (dpl_lst hb s2) (.cons (Dp.tp (tp_lst hb) _ _ (noL_pl q) dv) .nil)⟩⟩
end
/-- boxes as they are drawn -/
def OkB (n : Int) (bs : List Pl) : Prop := ∀ (i : Nat) p, bs[i]? = some p → (p = (.box, 0) ∧ 0 < i) ∨ (p.1 = .hand ∧ 0 ≤ p.2 ∧ p.2 < n)
theorem OkB.add {n : Int} {bs : List Pl} {q : Pl} (x : OkB n bs) (hq : (q = (.box, 0) ∧ 0 < bs.length) ∨ (q.1 = .hand ∧ 0 ≤ q.2 ∧ q.2 < n)) : OkB n (bs ++ [q]) := fun j p e => by
  by_cases c : j < bs.length
  · rw [List.getElem?_append_left c] at e
    exact x j p e
  · have ej : j = bs.length := by
      have := (List.getElem?_eq_some_iff.mp e).1
      simp at this
      omega
    subst ej
    rw [List.getElem?_append_right (Nat.le_refl _), Nat.sub_self] at e
    have ep : q = p := by simpa using e
    subst ep
    exact hq
theorem OkB.pl {n : Int} {bs : List Pl} (x : OkB n bs) (i : Nat) (p : Pl) (e : bs[i]? = some p) : plOk p n i = true := by
  unfold plOk
  rcases x i p e with ⟨rfl, h⟩ | ⟨h1, h2, h3⟩
  · rw [if_neg (by decide), numOk_of (Int.le_refl 0) (by show (0 : Int) < (i : Nat); omega)]
    rfl
  · rw [if_pos h1]
    exact numOk_of h2 h3
/-- things and seals as they are drawn -/
def OkP (n m : Int) (ts : List Pl) : Prop := ∀ p ∈ ts, plOk p n m = true
theorem OkP.add {n m : Int} {ts : List Pl} {q : Pl} (x : OkP n m ts) (hq : plOk q n m = true) : OkP n m (ts ++ [q]) := fun p hp => by
  rcases List.mem_append.mp hp with h | h
  · exact x p h
  · rw [List.mem_singleton.mp h]
    exact hq
theorem okS_bad {n m : Int} {qs : List Pl} (hp : OkP n m qs) (ok : OkS m qs) (hl : qs.length ≤ 3) : ∀ (i : Nat) p, qs[i]? = some p → badS n m qs (0 + i) p = false := fun i p e => by
  have hi := (List.getElem?_eq_some_iff.mp e).1
  rw [Nat.zero_add]
  unfold badS
  rw [decide_eq_false (show ¬ i = 3 by omega), hp p (List.mem_iff_getElem?.mpr ⟨i, e⟩)]
  rcases ok i p e with hq | ⟨hq, hn, hni⟩
  · rw [hq]
    rfl
  · have na : (qs.take i).any (fun z => decide (z = p)) = false := by
      rw [List.any_eq_false]
      intro z hz hzq
      rw [of_decide_eq_true hzq] at hz
      exact hni hz
    rw [na]
    simp
theorem shaped_plL (ps : List Pl) : SeqAt.shaped (.list (ps.map plD)) = true := by
  have h1 := lay_pls ps
  have h2 := depth_pls ps
  simp [SeqAt.shaped, plsD, PyData.canLay0, PyData.depth, h1]
  omega
theorem drawn_ok {n : Int} {bs ts ss : List Pl} (n0 : 1 ≤ n) (n1 : n ≤ 4) (b0 : 1 ≤ bs.length) (b1 : bs.length ≤ 3) (t1 : ts.length ≤ 4) (s1 : ss.length ≤ 3) (ob : OkB n bs) (ot : OkP n bs.length ts) (op : OkP n bs.length ss) (os : OkS bs.length ss) : HsOk ⟨n, bs, ts, ss⟩ :=
  ⟨n0, n1, b0, b1, t1, s1, err_none n0 n1 b0 b1 (fun i p e => ob.pl i p e) t1 (fun i p e => ot p (List.mem_iff_getElem?.mpr ⟨i, e⟩)) (okS_bad op os s1), fun p hp => by
    obtain ⟨i, hi⟩ := mem_get hp
    exact plOk_gone (ob.pl i p hi), fun p hp => plOk_gone (ot p hp), fun p hp => plOk_gone (op p hp)⟩
section
variable {P : Program} {w : World} {K : PySem.W.Frag} {mg : Str → Option Value} {base : Heap}
def spDrn (K : PySem.W.Frag) : Sp := fun vs H Q _ => ∃ (h c : Addr) (m : Int), vs = [.ref h, .int m] ∧ 2 ≤ m ∧ m ≤ 8 ∧ HAt H h c ∧ ∀ v d H', Dp K H' v (drD d) → HsOk d → d.hands ≤ 3 → d.bs.length ≤ 2 → d.bs.length + d.ts.length + d.ss.length ≤ m.toNat → HAt H' h c → Kb h c H H' → Q v H'
abbrev nDrn : List Str := ["_law_h", "_law_most", "_law_hands", "_law_boxes", "_law_things", "_law_seals", "_law_k", "_law_spot"]
theorem scDrn : FnScope ["_law_h", "_law_most", "_law_hands", "_law_boxes", "_law_things", "_law_seals", "_law_k", "_law_spot"] ["_law_h", "_law_most"] (defScope sDrn) := ⟨rfl, rfl, rfl, by decide +kernel, rfl, by decide +kernel, by decide +kernel⟩
theorem ok_drn {f gN : Addr} {fd fdN : FuncData} (F : Fun K "_law_drawn" "_law_drawn" sDrn f fd) (B : Bt mg) (GN : OnceF P w K mg base "_law_next" 1 ["_law_h", "_law_limit"] spNx gN fdN) : FnOk P w K mg base CX0 2 f fd ["_law_h", "_law_most"] (spDrn K) := by
  refine F.ok scDrn (fun vs H Q E h => ?_) (fun cdv A outer s H vs Q E hr h => ?_)
  · obtain ⟨h, c, m, rfl, _⟩ := h
    rfl
  · obtain ⟨h, c, m, rfl, m0, m1, hB, k⟩ := h
    have hr1 : Room 1 _ := hr.mono (by decide)
    have hu65 : (cxOf CX0 P w K mg base ["_law_h", "_law_most", "_law_hands", "_law_boxes", "_law_things", "_law_seals", "_law_k", "_law_spot"] "_law_drawn" (defScope sDrn) f cdv A outer s H E).nox.A.units + 65 < cLine := by have := hr.un; show (A.deeper _).units + 65 < cLine; omega
    refine ⟨_, (pss_cons (ps_asg (pe_tup (pa_cons (pe_op op_add pe_int (pe_call GN.G hr1 rfl GN.m GN.k GN.b .nil pass0 (pa_cons (pv 0) (pa_cons pe_int pa_nil)))) (pa_cons (pe_lst pa_nil) (pa_cons (pe_lst pa_nil) (pa_cons (pe_lst pa_nil) pa_nil))))) (pg_tup (by rfl) (pgs_cons (pg_name (i := 2) scDrn.nd rfl (.inl rfl)) (pgs_cons (pg_name (i := 3) scDrn.nd rfl (.inl rfl)) (pgs_cons (pg_name (i := 4) scDrn.nd rfl (.inl rfl)) (pgs_cons (pg_name (i := 5) scDrn.nd rfl (.inl rfl)) pgs_nil)))))) (pss_cons (ps_for PassesOwn.never rfl (pi_range1 rfl B.rng (pa_cons (pe_op op_add pe_int (pe_call GN.G hr1 rfl GN.m GN.k GN.b .nil pass0 (pa_cons (pv 0) (pa_cons pe_int pa_nil)))) pa_nil)) (pg_name (i := 6) scDrn.nd rfl (.inl rfl)) (pss_one (ps_expr (pe_bm PySem.F.plainAttrs_list PySem.F.slot_list_append PySem.F.type_list_append mt_append (pv 3) (pa_cons (pe_ifExp (PW.pt (pw_and (pt_cmpR op_gt (pv 6) pe_int (nomark _)) (pw_and1 (pt_cmpR op_eq (pe_call GN.G hr1 rfl GN.m GN.k GN.b .nil pass0 (pa_cons (pv 0) (pa_cons pe_int pa_nil))) pe_int (nomark _))))) (pe_tup (pa_cons pe_str (pa_cons pe_int pa_nil))) (pe_tup (pa_cons pe_str (pa_cons (pe_call GN.G hr1 rfl GN.m GN.k GN.b .nil pass0 (pa_cons (pv 0) (pa_cons (pv 2) pa_nil))) pa_nil)))) pa_nil))))) (pss_cons (ps_for PassesOwn.never rfl (pi_range1 rfl B.rng (pa_cons (pe_call GN.G hr1 rfl GN.m GN.k GN.b .nil pass0 (pa_cons (pv 0) (pa_cons (pe_op op_add (pe_op op_sub (pv 1) (pe_callB call_len_seq (by rfl) B.len PySem.boot_len (pa_cons (pv 3) pa_nil))) pe_int) pa_nil))) pa_nil)) (pg_name (i := 6) scDrn.nd rfl (.inl rfl)) (pss_cons (ps_set (i := 7) scDrn.nd rfl (.inl rfl) (pe_ifExp (pt_cmpR op_eq (pe_call GN.G hr1 rfl GN.m GN.k GN.b .nil pass0 (pa_cons (pv 0) (pa_cons pe_int pa_nil))) pe_int (nomark _)) (pe_tup (pa_cons pe_str (pa_cons (pe_call GN.G hr1 rfl GN.m GN.k GN.b .nil pass0 (pa_cons (pv 0) (pa_cons (pe_callB call_len_seq (by rfl) B.len PySem.boot_len (pa_cons (pv 3) pa_nil)) pa_nil))) pa_nil))) (pe_tup (pa_cons pe_str (pa_cons (pe_call GN.G hr1 rfl GN.m GN.k GN.b .nil pass0 (pa_cons (pv 0) (pa_cons (pv 2) pa_nil))) pa_nil))))) (pss_one (ps_if (PW.pt (pw_or (pt_cmpR op_eq (pe_callB call_len_seq (by rfl) B.len PySem.boot_len (pa_cons (pv 5) pa_nil)) pe_int (nomark _)) (pw_or1 (PW.pt (pw_and (pt_cmpR op_eq (pe_call GN.G hr1 rfl GN.m GN.k GN.b .nil pass0 (pa_cons (pv 0) (pa_cons pe_int pa_nil))) pe_int (nomark _)) (pw_and1 (pt_cmpR op_lt (pe_callB call_len_seq (by rfl) B.len PySem.boot_len (pa_cons (pv 4) pa_nil)) pe_int (nomark _)))))))) (pss_one (ps_expr (pe_bm PySem.F.plainAttrs_list PySem.F.slot_list_append PySem.F.type_list_append mt_append (pv 4) (pa_cons (pv 7) pa_nil)))) (pss_one (ps_expr (pe_bm PySem.F.plainAttrs_list PySem.F.slot_list_append PySem.F.type_list_append mt_append (pv 5) (pa_cons (pe_ifExp (PW.pt (pw_or (pt_cmpR op_eq (pe_ix ix_tup (pv 7) pe_int (fun _ _ => rfl)) pe_str (nomark _)) (pw_or1 (pt_cmpR (op_notInD hu65) (pv 7) (pv 5) (by rfl))))) (pv 7) (pe_tup (pa_cons pe_str (pa_cons pe_int pa_nil)))) pa_nil)))))))) (pss_one (ps_ret (pe_tup (pa_cons (pv 2) (pa_cons (pe_callTy call_tuple_of (by rfl) B.tup (by decide +kernel) (pa_cons (pv 3) pa_nil)) (pa_cons (pe_callTy call_tuple_of (by rfl) B.tup (by decide +kernel) (pa_cons (pv 4) pa_nil)) (pa_cons (pe_callTy call_tuple_of (by rfl) B.tup (by decide +kernel) (pa_cons (pv 5) pa_nil)) pa_nil)))))))))), ?_⟩
    refine ⟨_, rfl, h, c, 3, rfl, by decide, by decide, hB, fun n H1 n0 n1 hB1 k1 => ⟨_, _, rfl, rfl, ?_⟩⟩
    refine ⟨(by show 0 ≤ sizeLine; decide), fun Lb hLb => ⟨(by show 0 ≤ sizeLine; decide), fun Lt hLt => ⟨(by show 0 ≤ sizeLine; decide), fun Ls hLs => ⟨(by show 4 ≤ sizeLine; decide), fun t ht => ?_⟩⟩⟩⟩
    refine ⟨t, _, rfl, SqT.of upd_same, rfl, _, _, rfl, _, _, rfl, _, _, rfl, _, _, rfl, rfl, ?_⟩
    obtain ⟨tb1, t01⟩ := none_upd hLt
    obtain ⟨st1, s02⟩ := none_upd hLs
    obtain ⟨sb1, s01⟩ := none_upd s02
    have F3 : Fr3 h c Lb Lt Ls H1 := ⟨hLb, t01, s01, tb1.symm, sb1.symm, st1.symm, hB1.neL hLb, hB1.neL t01, hB1.neL s01⟩
    have e5 : Same H1 (L2.upd (L2.upd (L2.upd (L2.upd H1 Lb (.lst [])) Lt (.lst [])) Ls (.lst [])) t (.tup [.int (1 + n), .ref Lb, .ref Lt, .ref Ls])) := Same.upd2 (Same.upd2 (Same.upd2 (same_upd hLb) hLt) hLs) ht
    have x5 : DR K h c Lb Lt Ls H1 [] [] [] (L2.upd (L2.upd (L2.upd (L2.upd H1 Lb (.lst [])) Lt (.lst [])) Ls (.lst [])) t (.tup [.int (1 + n), .ref Lb, .ref Lt, .ref Ls])) := by
      obtain ⟨q1, q2⟩ := none_upd ht
      obtain ⟨q3, q4⟩ := none_upd q2
      obtain ⟨q5, q6⟩ := none_upd q4
      refine ⟨hB1.same e5, Kb.same e5, ⟨[], ?_, .nil⟩, ⟨[], ?_, .nil⟩, ⟨[], ?_, .nil⟩⟩
      · rw [upd_ne q5.symm, upd_ne sb1.symm, upd_ne tb1.symm, upd_same]
      · rw [upd_ne q3.symm, upd_ne st1.symm, upd_same]
      · rw [upd_ne q1.symm, upd_same]
    clear e5
    generalize L2.upd (L2.upd (L2.upd (L2.upd H1 Lb (.lst [])) Lt (.lst [])) Ls (.lst [])) t (.tup [.int (1 + n), .ref Lb, .ref Lt, .ref Ls]) = H5 at *
    refine ⟨_, rfl, h, c, 2, rfl, by decide, by decide, x5.hB, fun nb H6 nb0 nb1 hB6 k6 => ⟨_, _, rfl, rfl, 1 + nb, rfl, by omega, by omega, ?_⟩⟩
    have x6 := x5.draw F3 k6 hB6
    refine for_range (lo := 0) (n := (1 + nb).toNat) (fun i σ Hn => ∃ (vi : Option V) (bs : List Pl), σ = [some (.ref h), some (.int m), some (.int (1 + n)), some (.ref Lb), some (.ref Lt), some (.ref Ls), vi, none] ∧ DR K h c Lb Lt Ls H1 bs [] [] Hn ∧ bs.length = i ∧ OkB (1 + n) bs) ⟨none, [], rfl, x6, rfl, fun i p e => by simp at e⟩ ?_ ?_
    · rintro i σ Hn hi ⟨vi, bs, rfl, xn, lb, ok⟩
      have l5 := sizeLine_eq
      -- what is put into the list
      have put : ∀ (q : Pl) (v : V) (H' : Hp), DR K h c Lb Lt Ls H1 bs [] [] H' → Dp K H' v (plD q) → ((q = (.box, 0) ∧ 0 < bs.length) ∨ (q.1 = .hand ∧ 0 ≤ q.2 ∧ q.2 < 1 + n)) → ∃ l xs x, V.ref Lb = .ref l ∧ [v] = [x] ∧ H' l = some (.lst xs) ∧ xs.length < sizeLine ∧ ∃ (vi : Option V) (bs' : List Pl), [some (V.ref h), some (.int m), some (.int (1 + n)), some (.ref Lb), some (.ref Lt), some (.ref Ls), some (V.int (0 + (i : Int))), none] = [some (V.ref h), some (.int m), some (.int (1 + n)), some (.ref Lb), some (.ref Lt), some (.ref Ls), vi, none] ∧ DR K h c Lb Lt Ls H1 bs' [] [] (L2.upd H' l (.lst (xs ++ [x]))) ∧ bs'.length = i + 1 ∧ OkB (1 + n) bs' := fun q v H' x' dv hq => by
        obtain ⟨xs, hx, dx⟩ := x'.b
        have lx : xs.length = bs.length := by rw [DpAll.len dx, List.length_map]
        exact ⟨Lb, xs, v, rfl, rfl, hx, by omega, _, bs ++ [q], rfl, x'.addB F3 hx dv, by rw [List.length_append, lb]; rfl, ok.add hq⟩
      obtain ⟨xs, hx, dx⟩ := xn.b
      refine ⟨_, rfl, .inl ⟨rfl, _, SqL.of hx⟩, ?_⟩
      have hand : ∀ H', DR K h c Lb Lt Ls H1 bs [] [] H' → ∀ R : V → Hp → Prop, (∀ v q H2, DR K h c Lb Lt Ls H1 bs [] [] H2 → Dp K H2 v (plD q) → ((q = (.box, 0) ∧ 0 < bs.length) ∨ (q.1 = .hand ∧ 0 ≤ q.2 ∧ q.2 < 1 + n)) → R v H2) →
          tTup (tCons (tC (.str ("hand" : Str))) (tCons (tCall spNx [] E0 (tCons (tVar 0) (tCons (tVar 2) tNil))) tNil)) [some (.ref h), some (.int m), some (.int (1 + n)), some (.ref Lb), some (.ref Lt), some (.ref Ls), some (V.int (0 + (i : Int))), none] H' R := fun H' x' R hR => by
        refine ⟨_, rfl, _, rfl, h, c, 1 + n, rfl, by omega, by omega, x'.hB, fun r H8 r0 r1 hB8 k8 => ⟨(by show 2 ≤ sizeLine; decide), fun p hp => ?_⟩⟩
        exact hR _ (.hand, r) _ ((x'.draw F3 k8 hB8).same F3 (same_upd hp)) (.tup (SqT.of upd_same) (.cons (.str _) (.cons (.int _) .nil))) (.inr ⟨rfl, r0, r1⟩)
      refine ⟨_, rfl, _, _, rfl, rfl, _, rfl, ?_⟩
      refine ite2 (fun c6 => ?_) (fun _ => iteF (hand _ xn _ fun v q H2 x2 dv hq => put q v H2 x2 dv hq))
      have c6' : (0 : Int) < 0 + (i : Int) := of_decide_eq_true c6
      refine ⟨_, rfl, h, c, 3, rfl, by decide, by decide, xn.hB, fun r3 H8 r30 r31 hB8 k8 => ⟨rfl, _, rfl, ?_⟩⟩
      have x8 := xn.draw F3 k8 hB8
      refine ite2 (fun _ => ?_) (fun _ => hand _ x8 _ fun v q H2 x2 dv hq => put q v H2 x2 dv hq)
      refine ⟨(by show 2 ≤ sizeLine; decide), fun p hp => ?_⟩
      exact put (.box, 0) _ _ (x8.same F3 (same_upd hp)) (.tup (SqT.of upd_same) (.cons (.str _) (.cons (.int _) .nil))) (.inl ⟨rfl, by omega⟩)
    · rintro σ Hn ⟨vi, bs, rfl, xn, lb, okb⟩
      have l5 := sizeLine_eq
      obtain ⟨xsb, hxb, dxb⟩ := xn.b
      have lxb : xsb.length = bs.length := by rw [DpAll.len dxb, List.length_map]
      refine ⟨_, rfl, _, rfl, _, rfl, Lb, _, rfl, .inl (SqL.of hxb), _, _, rfl, rfl, _, _, rfl, rfl, h, c, m - ((xsb.length : Nat) : Int) + 1, rfl, by omega, by omega, xn.hB, fun cnt H9 c0 c1 hB9 k9 => ⟨cnt, rfl, by omega, by omega, ?_⟩⟩
      have x9 := xn.draw F3 k9 hB9
      refine for_range (lo := 0) (n := cnt.toNat) (fun i σ Hm => ∃ (vi vp : Option V) (ts ss : List Pl), σ = [some (.ref h), some (.int m), some (.int (1 + n)), some (.ref Lb), some (.ref Lt), some (.ref Ls), vi, vp] ∧ DR K h c Lb Lt Ls H1 bs ts ss Hm ∧ ts.length + ss.length = i ∧ ts.length ≤ 4 ∧ ss.length ≤ 3 ∧ OkP (1 + n) bs.length ts ∧ OkP (1 + n) bs.length ss ∧ OkS bs.length ss)
        ⟨_, _, [], [], rfl, x9, rfl, by decide, by decide, fun p hp => (nomatch hp), fun p hp => (nomatch hp), OkS.nil _⟩ ?_ ?_
      · rintro i σ Hm hi ⟨vi, vp, ts, ss, rfl, xm, ll, l4, l3, okt, oks, okS⟩
        obtain ⟨xb, hb1, db⟩ := xm.b
        have lb1 : xb.length = bs.length := by rw [DpAll.len db, List.length_map]
        refine seq_cont (fun σ' H' => ∃ (v : V) (q : Pl), σ' = [some (.ref h), some (.int m), some (.int (1 + n)), some (.ref Lb), some (.ref Lt), some (.ref Ls), some (V.int (0 + (i : Int))), some v] ∧ DR K h c Lb Lt Ls H1 bs ts ss H' ∧ Dp K H' v (plD q) ∧ plOk q (1 + n) bs.length = true) (fun D' hD' => ?_) ?_
        · refine ⟨_, rfl, h, c, 2, rfl, by decide, by decide, xm.hB, fun r H2 r0 r1 hB2 k2 => ⟨rfl, _, rfl, ?_⟩⟩
          have x2 := xm.draw F3 k2 hB2
          obtain ⟨xb2, hb2, db2⟩ := x2.b
          have lb2 : xb2.length = bs.length := by rw [DpAll.len db2, List.length_map]
          refine ite2 (fun _ => ?_) (fun _ => ?_)
          · refine ⟨_, rfl, _, rfl, Lb, _, rfl, .inl (SqL.of hb2), h, c, _, rfl, by omega, by omega, hB2, fun r3 H3 r30 r31 hB3 k3 => ⟨(by show 2 ≤ sizeLine; decide), fun p hp => ?_⟩⟩
            refine hD' _ _ ⟨_, (.box, r3), rfl, (x2.draw F3 k3 hB3).same F3 (same_upd hp), .tup (SqT.of upd_same) (.cons (.str _) (.cons (.int _) .nil)), ?_⟩
            unfold plOk
            rw [if_neg (fun z => by cases z), numOk_of r30 (by omega)]
            rfl
          · refine ⟨_, rfl, _, rfl, h, c, 1 + n, rfl, by omega, by omega, hB2, fun r3 H3 r30 r31 hB3 k3 => ⟨(by show 2 ≤ sizeLine; decide), fun p hp => ?_⟩⟩
            refine hD' _ _ ⟨_, (.hand, r3), rfl, (x2.draw F3 k3 hB3).same F3 (same_upd hp), .tup (SqT.of upd_same) (.cons (.str _) (.cons (.int _) .nil)), ?_⟩
            unfold plOk
            rw [if_pos rfl]
            exact numOk_of r30 r31
        rintro σ' H' ⟨v, q, rfl, x', dv, okq⟩
        have im : i ≤ 6 := by omega
        obtain ⟨xs', hs', ds'⟩ := x'.s
        have ls' : xs'.length = ss.length := by rw [DpAll.len ds', List.length_map]
        refine ifs_by (fun b H2 => DR K h c Lb Lt Ls H1 bs ts ss H2 ∧ Dp K H2 v (plD q) ∧ (b = true → ts.length < 4) ∧ (b = false → ss.length < 3)) (fun Q' hQ' => ?_) (fun H2 => ?_) (fun H2 => ?_)
        · refine ⟨_, rfl, Ls, _, rfl, .inl (SqL.of hs'), rfl, _, rfl, ?_⟩
          refine ite2 (fun e3 => ?_) (fun e3 => ?_)
          · have e3' : ss.length = 3 := by
              rw [decZ] at e3
              have := of_decide_eq_true e3
              omega
            exact hQ' true _ ⟨x', dv, fun _ => by omega, fun z => (nomatch z)⟩
          · have e3' : ss.length < 3 := by
              rw [decZ] at e3
              have : ¬ ((xs'.length : Nat) : Int) = 3 := fun z => e3 (decide_eq_true z)
              omega
            refine ⟨_, rfl, h, c, 2, rfl, by decide, by decide, x'.hB, fun r H3 r0 r1 hB3 k3 => ⟨rfl, _, rfl, ?_⟩⟩
            have x3 := x'.draw F3 k3 hB3
            have dv3 := Dp.nl k3.nl _ _ (noL_pl q) dv
            refine ite2 (fun _ => ?_) (fun _ => hQ' false _ ⟨x3, dv3, fun z => (nomatch z), fun _ => e3'⟩)
            obtain ⟨xt3, ht3, dt3⟩ := x3.t
            have lt3 : xt3.length = ts.length := by rw [DpAll.len dt3, List.length_map]
            refine ⟨_, rfl, Lt, _, rfl, .inl (SqL.of ht3), _, _, rfl, rfl, _, rfl, hQ' _ _ ⟨x3, dv3, fun z => ?_, fun _ => e3'⟩⟩
            have := of_decide_eq_true z
            omega
        · rintro ⟨x4, dv4, t4, _⟩
          obtain ⟨xt4, ht4, dt4⟩ := x4.t
          have lt4 : xt4.length = ts.length := by rw [DpAll.len dt4, List.length_map]
          have t4 := t4 rfl
          refine ⟨_, rfl, .inl ⟨rfl, _, SqL.of ht4⟩, _, rfl, Lt, xt4, v, rfl, rfl, ht4, by omega, ?_⟩
          exact ⟨_, _, ts ++ [q], ss, rfl, x4.addT F3 ht4 dv4, by rw [List.length_append]; show ts.length + 1 + _ = _; omega, by rw [List.length_append]; show ts.length + 1 ≤ _; omega, l3, okt.add okq, oks, okS⟩
        · rintro ⟨x4, dv4, _, t4⟩
          have t4 := t4 rfl
          obtain ⟨xs4, hs4, ds4⟩ := x4.s
          have ls4 : xs4.length = ss.length := by rw [DpAll.len ds4, List.length_map]
          obtain ⟨av, rfl, qv⟩ := pl_at dv4
          -- what is put into the list
          have put : ∀ (q' : Pl) (v' : V) (H' : Hp), Same H2 H' → Dp K H' v' (plD q') → plOk q' (1 + n) bs.length = true → (q'.1 = .hand ∨ (q'.1 = .box ∧ numOk q'.2 bs.length = true ∧ q' ∉ ss)) → ∃ l xs x, V.ref Ls = .ref l ∧ [v'] = [x] ∧ H' l = some (.lst xs) ∧ xs.length < sizeLine ∧ ∃ (vi vp : Option V) (ts' ss' : List Pl), [some (V.ref h), some (.int m), some (.int (1 + n)), some (.ref Lb), some (.ref Lt), some (.ref Ls), some (V.int (0 + (i : Int))), some (V.ref av)] = [some (V.ref h), some (.int m), some (.int (1 + n)), some (.ref Lb), some (.ref Lt), some (.ref Ls), vi, vp] ∧ DR K h c Lb Lt Ls H1 bs ts' ss' (L2.upd H' l (.lst (xs ++ [x]))) ∧ ts'.length + ss'.length = i + 1 ∧ ts'.length ≤ 4 ∧ ss'.length ≤ 3 ∧ OkP (1 + n) bs.length ts' ∧ OkP (1 + n) bs.length ss' ∧ OkS bs.length ss' := fun q' v' H' e' d' o1 o2 => by
            have hs5 := e' _ _ hs4
            exact ⟨Ls, xs4, v', rfl, rfl, hs5, by omega, _, _, ts, ss ++ [q'], rfl, (x4.same F3 e').addS F3 hs5 d', by rw [List.length_append]; show _ + (ss.length + 1) = _; omega, l4, by rw [List.length_append]; show ss.length + 1 ≤ _; omega, okt, oks.add o1, okS.add o2⟩
          refine ⟨_, rfl, .inl ⟨rfl, _, SqL.of hs4⟩, ?_⟩
          refine ⟨_, rfl, av, _, 0, _, rfl, rfl, qv, rfl, rfl, _, rfl, ?_⟩
          rw [decS]
          by_cases c1 : q.1 = .hand
          · rw [show decide (q.1.str = ("hand" : Str)) = true from decide_eq_true (by rw [c1]; rfl)]
            exact iteT (iteT ⟨_, rfl, put q _ _ (fun _ _ e => e) dv4 okq (.inl c1)⟩)
          · rw [show decide (q.1.str = ("hand" : Str)) = false from decide_eq_false fun z => c1 (wd_inj (v := .hand) z)]
            have okb2 : q.1 = .box ∧ numOk q.2 bs.length = true := by
              unfold plOk at okq
              rw [if_neg c1, Bool.and_eq_true] at okq
              exact ⟨of_decide_eq_true okq.1, okq.2⟩
            refine iteF ⟨_, rfl, _, rfl, plD q, ss.map plD, dv4, .lst (SqL.of hs4) ds4, shaped_pl q, shaped_plL ss, _, rfl, ?_⟩
            rw [any_pl]
            cases ca : ss.any fun z => decide (z = q) with
            | true =>
              refine iteF ⟨(by show 2 ≤ sizeLine; decide), fun p hp => ?_⟩
              refine put (.hand, 0) _ _ (same_upd hp) (.tup (SqT.of upd_same) (.cons (.str _) (.cons (.int _) .nil))) ?_ (.inl rfl)
              unfold plOk
              rw [if_pos rfl]
              exact numOk_of (Int.le_refl 0) (by show (0 : Int) < 1 + n; omega)
            | false =>
              refine iteT ⟨_, rfl, put q _ _ (fun _ _ e => e) dv4 okq (.inr ⟨okb2.1, okb2.2, fun z => ?_⟩)⟩
              have := List.any_eq_false.mp ca q z
              exact this (decide_eq_true rfl)
      · rintro σ Hm ⟨vi, vp, ts, ss, rfl, xm, ll, l4, l3, okt, oks, okS⟩
        obtain ⟨xb, hb1, db⟩ := xm.b
        obtain ⟨xt, ht1, dt⟩ := xm.t
        obtain ⟨xs, hs1, ds⟩ := xm.s
        refine ⟨_, rfl, _, rfl, Lb, xb, rfl, .inl ⟨SqL.of hb1, fun ab hab => ?_⟩⟩
        have f1 := same_upd (o := HO.tup xb) hab
        refine ⟨_, rfl, Lt, xt, rfl, .inl ⟨SqL.of (f1 _ _ ht1), fun at' hat => ?_⟩⟩
        have f2 := same_upd (o := HO.tup xt) hat
        refine ⟨_, rfl, Ls, xs, rfl, .inl ⟨SqL.of (f2 _ _ (f1 _ _ hs1)), fun as has => ?_⟩⟩
        have f3 := same_upd (o := HO.tup xs) has
        refine ⟨(by show 4 ≤ sizeLine; decide), fun p hp => ?_⟩
        have f4 := same_upd (o := HO.tup [.int (1 + n), .ref ab, .ref at', .ref as]) hp
        refine k _ ⟨1 + n, bs, ts, ss⟩ _ (.tup (SqT.of upd_same) (.cons (.int _) (.cons ?_ (.cons ?_ (.cons ?_ .nil))))) (drawn_ok (by omega) (by omega) (by omega) (by omega) l4 l3 okb okt oks okS) (by show 1 + n ≤ 3; omega) (by show bs.length ≤ 2; omega) (by show bs.length + ts.length + ss.length ≤ m.toNat; omega) (xm.hB.same (((f1.trans f2).trans f3).trans f4)) ((k1.trans xm.kb).trans (Kb.same (((f1.trans f2).trans f3).trans f4)))
        · exact .tup (SqT.same ((f2.trans f3).trans f4) (SqT.of upd_same)) (Dp.sames (((f1.trans f2).trans f3).trans f4) _ _ db)
        · exact .tup (SqT.same (f3.trans f4) (SqT.of upd_same)) (Dp.sames (((f1.trans f2).trans f3).trans f4) _ _ dt)
        · exact .tup (SqT.same f4 (SqT.of upd_same)) (Dp.sames (((f1.trans f2).trans f3).trans f4) _ _ ds)
/-! ### _law_house -/
def spHsM (K : PySem.W.Frag) (C : Addr) : Sp := fun vs H Q _ => ∃ (x : V) (d : Hs), vs = [x] ∧ Dp K H x (drD d) ∧ HsOk d ∧ ∀ h H', Same H H' → HouseAt K C H' h d → Q (.ref h) H'
theorem scHsM : FnScope ["_law_drawn_here"] ["_law_drawn_here"] (defScope sHsM) := ⟨rfl, rfl, rfl, by decide +kernel, rfl, by decide +kernel, by decide +kernel⟩
theorem ok_hsm {f gH C CE : Addr} {fd fdH : FuncData} (F : Fun K "_law_house" "_law_house" sHsM f fd) (M : Mk K C gH) (GH : FnOk P w K mg base (L2.CX P w) 5 gH fdH ["self", "hands", "boxes", "things", "seals"] (spHouse K C CE)) (mH : mg "House" = some (.ref C)) (bH : Binds K fdH ["self", "hands", "boxes", "things", "seals"] []) :
    FnOk P w K mg base CX0 7 f fd ["_law_drawn_here"] (spHsM K C) := by
  refine F.ok scHsM (fun vs H Q E h => ?_) (fun cdv A outer s H vs Q E hr h => ?_)
  · obtain ⟨x, d, rfl, _⟩ := h
    rfl
  · obtain ⟨x, d, rfl, hx, ok, k⟩ := h
    refine ⟨_, pss_one (ps_ret (pe_make M GH hr rfl mH bH .nil passL (pa_cons (pe_ix ix_tup (pv 0) pe_int (fun _ _ => rfl)) (pa_cons (pe_ix ix_tup (pv 0) pe_int (fun _ _ => rfl)) (pa_cons (pe_ix ix_tup (pv 0) pe_int (fun _ _ => rfl)) (pa_cons (pe_ix ix_tup (pv 0) pe_int (fun _ _ => rfl)) pa_nil)))))), ?_⟩
    obtain ⟨a, v1, v2, v3, rfl, sa, d1, d2, d3⟩ := dr_at hx
    refine ⟨_, rfl, a, _, 0, _, rfl, rfl, sa, rfl, _, rfl, a, _, 1, _, rfl, rfl, sa, rfl, _, rfl, a, _, 2, _, rfl, rfl, sa, rfl, _, rfl, a, _, 3, _, rfl, rfl, sa, rfl, fun x dx hx hdx ne => ?_⟩
    have hdx' : (L2.upd H dx (.own x)) x = none := by rw [upd_ne ne.symm]; exact hx
    have e7 : Same H (L2.upd (L2.upd H dx (.own x)) x (.ins C dx [])) := Same.upd2 (same_upd hdx) hdx'
    have b1 := ok.b1
    have t1 := ok.t1
    have s1 := ok.s1
    refine ⟨x, dx, d.hands, _, _, _, d.bs, d.ts, d.ss, rfl, upd_same, Dp.same e7 _ _ d1, Dp.same e7 _ _ d2, Dp.same e7 _ _ d3, by omega, by omega, by omega, fun z i e => ?_, fun _ H8 hb8 hh8 hf8 => ⟨rfl, ?_⟩⟩
    · rw [ok.okE] at e
      cases e
    · exact k x H8 (fun a o h => hb8 a o (e7 a o h) (ne_of_none h hx)) hh8
end
end Kw

set_option Elab.async false
set_option linter.all false
set_option maxRecDepth 100000
set_option maxHeartbeats 4000000
namespace Kw
open PySem PySem.Spec PyProof.Rows L2
abbrev sMay : Stmt := top 62
abbrev sDne : Stmt := top 63
section
variable {P : Program} {w : World} {K : PySem.W.Frag} {mg : Str → Option Value} {base : Heap}
/-- _law_place(state, A) == B -/
theorem wCmp {σ : L2.St} {H : Hp} {Q : V → Hp → Prop} {A Bx : TE} {x : V} {d : Hs} {p : It} {q q2 : Pl} (h0 : σ[0]? = some (some x)) (hx : Dp K H x (stD d)) (hA : ∀ R : V → Hp → Prop, (∀ y H1, Same H H1 → Dp K H1 y (itP p) → R y H1) → A σ H R) (hw : whereD d p = some q)
    (hB : ∀ H2, Same H H2 → ∀ R : V → Hp → Prop, (∀ z H3, Same H2 H3 → Dp K H3 z (plD q2) → R z H3) → Bx σ H2 R) (k : ∀ H', Same H H' → Q (.bl (decide (q = q2))) H') : tOp (rEqD K) (tCall (spWhere K) [] E0 (tCons (tVar 0) (tCons A tNil))) Bx σ H Q :=
  ⟨_, h0, hA _ fun y H1 e1 dy => ⟨x, y, d, p, q, rfl, Dp.same e1 _ _ hx, dy, hw, fun v H2 e2 dv => hB H2 (e1.trans e2) _ fun z H3 e3 dz => ⟨plD q, plD q2, Dp.same e3 _ _ dv, dz, shaped_pl _, shaped_pl _, by rw [eqv_pl]; exact k H3 ((e1.trans e2).trans e3)⟩⟩⟩
theorem wCmpN {σ : L2.St} {H : Hp} {Q : V → Hp → Prop} {A Bx : TE} {x : V} {d : Hs} {p : It} {q q2 : Pl} (h0 : σ[0]? = some (some x)) (hx : Dp K H x (stD d)) (hA : ∀ R : V → Hp → Prop, (∀ y H1, Same H H1 → Dp K H1 y (itP p) → R y H1) → A σ H R) (hw : whereD d p = some q)
    (hB : ∀ H2, Same H H2 → ∀ R : V → Hp → Prop, (∀ z H3, Same H2 H3 → Dp K H3 z (plD q2) → R z H3) → Bx σ H2 R) (k : ∀ H', Same H H' → Q (.bl (!decide (q = q2))) H') : tOp (rNeD K) (tCall (spWhere K) [] E0 (tCons (tVar 0) (tCons A tNil))) Bx σ H Q :=
  ⟨_, h0, hA _ fun y H1 e1 dy => ⟨x, y, d, p, q, rfl, Dp.same e1 _ _ hx, dy, hw, fun v H2 e2 dv => hB H2 (e1.trans e2) _ fun z H3 e3 dz => ⟨plD q, plD q2, Dp.same e3 _ _ dv, dz, shaped_pl _, shaped_pl _, by rw [eqv_pl]; exact k H3 ((e1.trans e2).trans e3)⟩⟩⟩
theorem isn_int (i : Int) : decide (V.int i = V.non) = false := decide_eq_false fun z => by cases z
def spMay (K : PySem.W.Frag) : Sp := fun vs H Q _ => ∃ (x y : V) (d : Hs) (e : Dd), vs = [x, y] ∧ Dp K H x (stD d) ∧ Dp K H y (ddD e) ∧ Kn d e ∧ d.ss.length ≤ 100 ∧ ∀ b H', Same H H' → (b = true → barOf d e = "") → Q (.bl b) H'
theorem scMay : FnScope ["_law_state", "_law_deed", "_law_word", "_law_hand", "_law_box"] ["_law_state", "_law_deed"] (defScope sMay) := ⟨rfl, rfl, rfl, by decide +kernel, rfl, by decide +kernel, by decide +kernel⟩
theorem ok_may {f gW gL : Addr} {fd fdW fdL : FuncData} (F : Fun K "_law_may" "_law_may" sMay f fd) (B : Bt mg) (GW : OnceF P w K mg base "_law_place" 1 ["_law_state", "_law_item"] (spWhere K) gW fdW) (GL : OnceF P w K mg base "_law_lid" 1 ["_law_state", "_law_box"] (spLd K) gL fdL) : FnOk P w K mg base CX0 2 f fd ["_law_state", "_law_deed"] (spMay K) := by
  refine F.ok scMay (fun vs H Q E h => ?_) (fun cdv A outer s H vs Q E hr h => ?_)
  · obtain ⟨x, y, d, e, rfl, _⟩ := h
    rfl
  · obtain ⟨x, y, d, e, rfl, hx, hy, hk, hs, k⟩ := h
    have hr1 : Room 1 _ := hr.mono (by decide)
    have hu : (cxOf CX0 P w K mg base ["_law_state", "_law_deed", "_law_word", "_law_hand", "_law_box"] "_law_may" (defScope sMay) f cdv A outer s H E).nox.A.units + 64 < cLine := by have := hr.un; show (A.deeper _).units + 64 < cLine; omega
    refine ⟨_, (pss_cons (ps_par (i := 2) (j := 3) rfl scMay.nd rfl rfl (by decide) rfl rfl (pa_cons (pe_ix ix_tup (pv 1) pe_int (fun _ _ => rfl)) (pa_cons (pe_tup (pa_cons pe_str (pa_cons (pe_ix ix_tup (pv 1) pe_int (fun _ _ => rfl)) pa_nil))) pa_nil)) (by rfl)) (pss_cons (ps_if (pt_cmpR op_eq (pv 2) pe_str (nomark _)) (pss_one (ps_ret (pe_and (pe_cmpR (op_eqD hu) (pe_call GW.G hr1 rfl GW.m GW.k GW.b .nil pass0 (pa_cons (pv 0) (pa_cons (pe_ix ix_tup (pv 1) pe_int (fun _ _ => rfl)) pa_nil))) (pv 3) (nomark _)) (pe_one (pe_cmpR op_ne (pe_ix ix_tup (pv 1) pe_int (fun _ _ => rfl)) (pe_ix ix_tup (pv 1) pe_int (fun _ _ => rfl)) (nomark _)))))) pss_nil) (pss_cons (ps_set (i := 4) scMay.nd rfl (.inl rfl) (pe_ifExp (pt_cmpR op_in_seq (pv 2) (pe_tup (pa_cons pe_str (pa_cons pe_str pa_nil))) (by rfl)) (pe_ix ix_tup (pv 1) pe_int (fun _ _ => rfl)) (pe_ix ix_tup (pv 1) pe_int (fun _ _ => rfl)))) (pss_cons (ps_if (PW.pt (pw_or (pt_cmpR (op_neD hu) (pe_call GW.G hr1 rfl GW.m GW.k GW.b .nil pass0 (pa_cons (pv 0) (pa_cons (pe_tup (pa_cons pe_str (pa_cons (pv 4) pa_nil))) pa_nil))) (pv 3) (nomark _)) (pw_or1 (pt_cmpR op_eq (pe_cmpR op_isN (pe_call GL.G hr1 rfl GL.m GL.k GL.b .nil pass0 (pa_cons (pv 0) (pa_cons (pv 4) pa_nil))) pe_non (nomark _)) (pe_cmpR op_eq (pv 2) pe_str (nomark _)) (nomark _))))) (pss_one (ps_ret pe_bl)) pss_nil) (pss_cons (ps_if (pt_cmpR op_eq (pv 2) pe_str (nomark _)) (pss_one (ps_ret (pe_and (pe_cmpR (op_neD hu) (pe_ix ix_tup (pv 1) pe_int (fun _ _ => rfl)) (pe_tup (pa_cons pe_str (pa_cons (pv 4) pa_nil))) (nomark _)) (pe_one (pe_cmpR (op_eqD hu) (pe_call GW.G hr1 rfl GW.m GW.k GW.b .nil pass0 (pa_cons (pv 0) (pa_cons (pe_ix ix_tup (pv 1) pe_int (fun _ _ => rfl)) pa_nil))) (pv 3) (nomark _)))))) pss_nil) (pss_cons (ps_if (pt_cmpR op_eq (pv 2) pe_str (nomark _)) (pss_one (ps_ret (pe_cmpR (op_eqD hu) (pe_call GW.G hr1 rfl GW.m GW.k GW.b .nil pass0 (pa_cons (pv 0) (pa_cons (pe_ix ix_tup (pv 1) pe_int (fun _ _ => rfl)) pa_nil))) (pe_tup (pa_cons pe_str (pa_cons (pv 4) pa_nil))) (nomark _)))) pss_nil) (pss_one (ps_ret (pe_or (pe_cmpR op_eq (pv 2) pe_str (nomark _)) (pe_one (pe_cmpR (op_eqD hu) (pe_call GW.G hr1 rfl GW.m GW.k GW.b .nil pass0 (pa_cons (pv 0) (pa_cons (pe_tup (pa_cons pe_str (pa_cons (pe_ix ix_tup (pv 1) pe_int (fun _ _ => rfl)) pa_nil))) pa_nil))) (pv 3) (nomark _)))))))))))), ?_⟩
    obtain ⟨yd, vs, rfl, sy, dvs⟩ := dd_at hy
    refine ⟨_, rfl, yd, _, 0, _, rfl, rfl, sy, atI_nat (j := 0) rfl, _, rfl, yd, _, 1, _, rfl, rfl, sy, atI_nat (j := 1) rfl, (by show 2 ≤ sizeLine; decide), fun m hm => ?_⟩
    have f1 := same_upd (o := HO.tup [V.str ("hand" : Str), .int (e.hand : Nat)]) hm
    have cm := upd_same (H := H) (a := m) (o := HO.tup [V.str ("hand" : Str), .int (e.hand : Nat)])
    generalize L2.upd H m (HO.tup [V.str ("hand" : Str), .int (e.hand : Nat)]) = H1 at *
    have hx1 := Dp.same f1 _ _ hx
    have sy1 := SqT.same f1 sy
    have dm : ∀ H2, Same H1 H2 → Dp K H2 (.ref m) (plD (.hand, (e.hand : Int))) := fun H2 e2 => .tup (SqT.of (e2 _ _ cm)) (.cons (.str _) (.cons (.int _) .nil))
    cases e with
    | give h p o =>
      obtain ⟨q, hq⟩ := Option.isSome_iff_exists.mp hk
      cases dvs with
      | cons dp r =>
      cases r with
      | cons do_ r =>
      cases r
      cases do_
      dsimp only [Dd.word, Dd.hand] at *
      refine ⟨_, _, rfl, _, rfl, rfl, _, rfl, iteTe (by decide +kernel) ?_⟩
      refine wCmp (p := p) (q := q) (q2 := (.hand, (h : Int))) rfl hx1 (fun R hR => ⟨_, rfl, yd, _, 2, _, rfl, rfl, sy1, atI_nat (j := 2) rfl, hR _ _ (fun _ _ e => e) (Dp.same f1 _ _ dp)⟩) hq (fun H2 e2 R hR => ⟨_, rfl, hR _ _ (fun _ _ e => e) (dm _ e2)⟩) fun H2 e2 => ?_
      refine ⟨_, rfl, ?_⟩
      by_cases c : q = (.hand, (h : Int))
      · refine iteTe (decide_eq_true c) ⟨_, rfl, yd, _, 3, _, rfl, rfl, SqT.same e2 sy1, atI_nat (j := 3) rfl, _, rfl, yd, _, 1, _, rfl, rfl, SqT.same e2 sy1, atI_nat (j := 1) rfl, rfl, ?_⟩
        exact k _ _ (f1.trans e2) fun _ => by simp only [barOf]; rw [hq, c, if_pos rfl]
      · exact iteFe (decide_eq_false c) (k _ _ (f1.trans e2) fun z => by cases z)
    | put h p b =>
      obtain ⟨q, hq⟩ := Option.isSome_iff_exists.mp hk.1
      obtain ⟨qb, hqb⟩ := where_box hk.2
      cases dvs with
      | cons dp r =>
      cases r with
      | cons do_ r =>
      cases r
      cases do_
      dsimp only [Dd.word, Dd.hand] at *
      refine ⟨_, _, rfl, _, rfl, rfl, _, rfl, iteFe (by decide +kernel) ?_⟩
      refine ⟨_, rfl, (by show 2 ≤ sizeLine; decide), fun w2 hw2 => ⟨w2, [.str ("seal" : Str), .str ("break" : Str)], rfl, .inr (SqT.of upd_same), rfl, rfl, _, rfl, ?_⟩⟩
      have f2 := same_upd (o := HO.tup [V.str ("seal" : Str), .str ("break" : Str)]) hw2
      generalize L2.upd H1 w2 (HO.tup [V.str ("seal" : Str), .str ("break" : Str)]) = H2 at *
      refine iteFe (by decide +kernel) ⟨_, rfl, yd, _, 3, _, rfl, rfl, SqT.same f2 sy1, atI_nat (j := 3) rfl, ?_⟩
      refine wCmpN (p := (.box, b)) (q := qb) (q2 := (.hand, (h : Int))) rfl (Dp.same f2 _ _ hx1) (fun R hR => ⟨_, rfl, (by show 2 ≤ sizeLine; decide), fun t ht => hR _ _ (same_upd ht) (.tup (SqT.of upd_same) (.cons (.str _) (.cons (.int _) .nil)))⟩) hqb (fun H3 e3 R hR => ⟨_, rfl, hR _ _ (fun _ _ e => e) (dm _ (f2.trans e3))⟩) fun H3 e3 => ⟨_, rfl, ?_⟩
      by_cases c : qb = (.hand, (h : Int))
      · refine iteFe (by rw [decide_eq_true c]; rfl) ⟨_, rfl, _, rfl, x, b, d, rfl, Dp.same (f2.trans e3) _ _ hx1, hs, fun hin H4 e4 => ?_, fun hout H4 e4 => ?_⟩
        · have e5 := (f2.trans e3).trans e4
          refine ⟨rfl, _, rfl, rfl, rfl, _, rfl, ?_⟩
          rw [isn_int]
          exact iteTe (by decide +kernel) (k _ _ (f1.trans e5) fun z => by cases z)
        · have e5 := (f2.trans e3).trans e4
          refine ⟨rfl, _, rfl, rfl, rfl, _, rfl, ?_⟩
          refine iteFe (by decide +kernel) ?_
          refine ⟨_, rfl, rfl, _, rfl, iteTe (by decide +kernel) ?_⟩
          refine ⟨_, rfl, yd, _, 2, _, rfl, rfl, SqT.same e5 sy1, atI_nat (j := 2) rfl, _, rfl, (by show 2 ≤ sizeLine; decide), fun t ht => ?_⟩
          have f6 := same_upd (o := HO.tup [V.str ("box" : Str), .int (b : Nat)]) ht
          have e6 := e5.trans f6
          refine ⟨itP p, itP (.box, b), Dp.same (f1.trans e6) _ _ dp, .tup (SqT.of upd_same) (.cons (.str _) (.cons (.int _) .nil)), shaped_it _, shaped_it _, _, rfl, ?_⟩
          rw [eqv_it]
          by_cases cp : p = (.box, b)
          · exact iteFe (by rw [decide_eq_true cp]; rfl) (k _ _ (f1.trans e6) fun z => by cases z)
          · refine iteTe (by rw [decide_eq_false cp]; rfl) ?_
            refine wCmp (p := p) (q := q) (q2 := (.hand, (h : Int))) rfl (Dp.same e6 _ _ hx1) (fun R hR => ⟨_, rfl, yd, _, 2, _, rfl, rfl, SqT.same e6 sy1, atI_nat (j := 2) rfl, hR _ _ (fun _ _ e => e) (Dp.same (f1.trans e6) _ _ dp)⟩) hq (fun H7 e7 R hR => ⟨_, rfl, hR _ _ (fun _ _ e => e) (dm _ (e6.trans e7))⟩) fun H7 e7 => ?_
            exact k _ _ (f1.trans (e6.trans e7)) fun z => by
              simp only [barOf]
              rw [hqb, c, if_pos rfl, hq, of_decide_eq_true z, if_pos rfl, if_neg hout]
      · exact iteTe (by rw [decide_eq_false c]; rfl) (k _ _ (f1.trans (f2.trans e3)) fun z => by cases z)
    | take h p b =>
      obtain ⟨q, hq⟩ := Option.isSome_iff_exists.mp hk.1
      obtain ⟨qb, hqb⟩ := where_box hk.2
      cases dvs with
      | cons dp r =>
      cases r with
      | cons do_ r =>
      cases r
      cases do_
      dsimp only [Dd.word, Dd.hand] at *
      refine ⟨_, _, rfl, _, rfl, rfl, _, rfl, iteFe (by decide +kernel) ?_⟩
      refine ⟨_, rfl, (by show 2 ≤ sizeLine; decide), fun w2 hw2 => ⟨w2, [.str ("seal" : Str), .str ("break" : Str)], rfl, .inr (SqT.of upd_same), rfl, rfl, _, rfl, ?_⟩⟩
      have f2 := same_upd (o := HO.tup [V.str ("seal" : Str), .str ("break" : Str)]) hw2
      generalize L2.upd H1 w2 (HO.tup [V.str ("seal" : Str), .str ("break" : Str)]) = H2 at *
      refine iteFe (by decide +kernel) ⟨_, rfl, yd, _, 3, _, rfl, rfl, SqT.same f2 sy1, atI_nat (j := 3) rfl, ?_⟩
      refine wCmpN (p := (.box, b)) (q := qb) (q2 := (.hand, (h : Int))) rfl (Dp.same f2 _ _ hx1) (fun R hR => ⟨_, rfl, (by show 2 ≤ sizeLine; decide), fun t ht => hR _ _ (same_upd ht) (.tup (SqT.of upd_same) (.cons (.str _) (.cons (.int _) .nil)))⟩) hqb (fun H3 e3 R hR => ⟨_, rfl, hR _ _ (fun _ _ e => e) (dm _ (f2.trans e3))⟩) fun H3 e3 => ⟨_, rfl, ?_⟩
      by_cases c : qb = (.hand, (h : Int))
      · refine iteFe (by rw [decide_eq_true c]; rfl) ⟨_, rfl, _, rfl, x, b, d, rfl, Dp.same (f2.trans e3) _ _ hx1, hs, fun hin H4 e4 => ?_, fun hout H4 e4 => ?_⟩
        · have e5 := (f2.trans e3).trans e4
          refine ⟨rfl, _, rfl, rfl, rfl, _, rfl, ?_⟩
          rw [isn_int]
          exact iteTe (by decide +kernel) (k _ _ (f1.trans e5) fun z => by cases z)
        · have e5 := (f2.trans e3).trans e4
          refine ⟨rfl, _, rfl, rfl, rfl, _, rfl, ?_⟩
          refine iteFe (by decide +kernel) ?_
          refine ⟨_, rfl, rfl, _, rfl, iteFe (by decide +kernel) ⟨_, rfl, rfl, _, rfl, iteTe (by decide +kernel) ?_⟩⟩
          refine wCmp (p := p) (q := q) (q2 := (.box, (b : Int))) rfl (Dp.same e5 _ _ hx1) (fun R hR => ⟨_, rfl, yd, _, 2, _, rfl, rfl, SqT.same e5 sy1, atI_nat (j := 2) rfl, hR _ _ (fun _ _ e => e) (Dp.same (f1.trans e5) _ _ dp)⟩) hq (fun H7 e7 R hR => ⟨_, rfl, (by show 2 ≤ sizeLine; decide), fun t ht => hR _ _ (same_upd ht) (.tup (SqT.of upd_same) (.cons (.str _) (.cons (.int _) .nil)))⟩) fun H7 e7 => ?_
          exact k _ _ (f1.trans (e5.trans e7)) fun z => by
            simp only [barOf]
            rw [hqb, c, if_pos rfl, hq, if_neg hout, of_decide_eq_true z, if_pos rfl]
      · exact iteTe (by rw [decide_eq_false c]; rfl) (k _ _ (f1.trans (f2.trans e3)) fun z => by cases z)
    | lock h b sl =>
      obtain ⟨q, hq⟩ : ∃ q, whereD d (.sl, sl) = some q := ⟨_, List.getElem?_eq_getElem hk.2⟩
      obtain ⟨qb, hqb⟩ := where_box hk.1
      cases dvs with
      | cons dp r =>
      cases r with
      | cons do_ r =>
      cases r
      cases do_
      cases dp
      dsimp only [Dd.word, Dd.hand] at *
      refine ⟨_, _, rfl, _, rfl, rfl, _, rfl, iteFe (by decide +kernel) ?_⟩
      refine ⟨_, rfl, (by show 2 ≤ sizeLine; decide), fun w2 hw2 => ⟨w2, [.str ("seal" : Str), .str ("break" : Str)], rfl, .inr (SqT.of upd_same), rfl, rfl, _, rfl, ?_⟩⟩
      have f2 := same_upd (o := HO.tup [V.str ("seal" : Str), .str ("break" : Str)]) hw2
      generalize L2.upd H1 w2 (HO.tup [V.str ("seal" : Str), .str ("break" : Str)]) = H2 at *
      refine iteTe (by decide +kernel) ⟨_, rfl, yd, _, 2, _, rfl, rfl, SqT.same f2 sy1, atI_nat (j := 2) rfl, ?_⟩
      refine wCmpN (p := (.box, b)) (q := qb) (q2 := (.hand, (h : Int))) rfl (Dp.same f2 _ _ hx1) (fun R hR => ⟨_, rfl, (by show 2 ≤ sizeLine; decide), fun t ht => hR _ _ (same_upd ht) (.tup (SqT.of upd_same) (.cons (.str _) (.cons (.int _) .nil)))⟩) hqb (fun H3 e3 R hR => ⟨_, rfl, hR _ _ (fun _ _ e => e) (dm _ (f2.trans e3))⟩) fun H3 e3 => ⟨_, rfl, ?_⟩
      by_cases c : qb = (.hand, (h : Int))
      · refine iteFe (by rw [decide_eq_true c]; rfl) ⟨_, rfl, _, rfl, x, b, d, rfl, Dp.same (f2.trans e3) _ _ hx1, hs, fun hin H4 e4 => ?_, fun hout H4 e4 => ?_⟩
        · have e5 := (f2.trans e3).trans e4
          refine ⟨rfl, _, rfl, rfl, rfl, _, rfl, ?_⟩
          rw [isn_int]
          exact iteTe (by decide +kernel) (k _ _ (f1.trans e5) fun z => by cases z)
        · have e5 := (f2.trans e3).trans e4
          refine ⟨rfl, _, rfl, rfl, rfl, _, rfl, ?_⟩
          refine iteFe (by decide +kernel) ?_
          refine ⟨_, rfl, rfl, _, rfl, iteFe (by decide +kernel) ⟨_, rfl, rfl, _, rfl, iteFe (by decide +kernel) ⟨_, rfl, rfl, _, rfl, iteFe (by decide +kernel) ?_⟩⟩⟩
          refine wCmp (p := (.sl, sl)) (q := q) (q2 := (.hand, (h : Int))) rfl (Dp.same e5 _ _ hx1) (fun R hR => ⟨_, rfl, yd, _, 3, _, rfl, rfl, SqT.same e5 sy1, atI_nat (j := 3) rfl, (by show 2 ≤ sizeLine; decide), fun t ht => hR _ _ (same_upd ht) (.tup (SqT.of upd_same) (.cons (.str _) (.cons (.int _) .nil)))⟩) hq (fun H7 e7 R hR => ⟨_, rfl, hR _ _ (fun _ _ e => e) (dm _ (e5.trans e7))⟩) fun H7 e7 => ?_
          exact k _ _ (f1.trans (e5.trans e7)) fun z => by
            simp only [barOf]
            have hq' : d.ss[sl]? = some q := hq
            rw [hqb, c, if_pos rfl, hq', of_decide_eq_true z, if_pos rfl, if_neg hout]
      · exact iteTe (by rw [decide_eq_false c]; rfl) (k _ _ (f1.trans (f2.trans e3)) fun z => by cases z)
    | brk h b =>
      obtain ⟨qb, hqb⟩ := where_box hk
      cases dvs with
      | cons dp r =>
      cases r
      cases dp
      dsimp only [Dd.word, Dd.hand] at *
      refine ⟨_, _, rfl, _, rfl, rfl, _, rfl, iteFe (by decide +kernel) ?_⟩
      refine ⟨_, rfl, (by show 2 ≤ sizeLine; decide), fun w2 hw2 => ⟨w2, [.str ("seal" : Str), .str ("break" : Str)], rfl, .inr (SqT.of upd_same), rfl, rfl, _, rfl, ?_⟩⟩
      have f2 := same_upd (o := HO.tup [V.str ("seal" : Str), .str ("break" : Str)]) hw2
      generalize L2.upd H1 w2 (HO.tup [V.str ("seal" : Str), .str ("break" : Str)]) = H2 at *
      refine iteTe (by decide +kernel) ⟨_, rfl, yd, _, 2, _, rfl, rfl, SqT.same f2 sy1, atI_nat (j := 2) rfl, ?_⟩
      refine wCmpN (p := (.box, b)) (q := qb) (q2 := (.hand, (h : Int))) rfl (Dp.same f2 _ _ hx1) (fun R hR => ⟨_, rfl, (by show 2 ≤ sizeLine; decide), fun t ht => hR _ _ (same_upd ht) (.tup (SqT.of upd_same) (.cons (.str _) (.cons (.int _) .nil)))⟩) hqb (fun H3 e3 R hR => ⟨_, rfl, hR _ _ (fun _ _ e => e) (dm _ (f2.trans e3))⟩) fun H3 e3 => ⟨_, rfl, ?_⟩
      by_cases c : qb = (.hand, (h : Int))
      · refine iteFe (by rw [decide_eq_true c]; rfl) ⟨_, rfl, _, rfl, x, b, d, rfl, Dp.same (f2.trans e3) _ _ hx1, hs, fun hin H4 e4 => ?_, fun hout H4 e4 => ?_⟩
        · have e5 := (f2.trans e3).trans e4
          refine ⟨rfl, _, rfl, rfl, rfl, _, rfl, ?_⟩
          rw [isn_int]
          refine iteFe (by decide +kernel) ?_
          refine ⟨_, rfl, rfl, _, rfl, iteFe (by decide +kernel) ⟨_, rfl, rfl, _, rfl, iteFe (by decide +kernel) ⟨_, rfl, rfl, _, rfl, iteTe (by decide +kernel) ?_⟩⟩⟩
          exact k _ _ (f1.trans e5) fun z => by
            simp only [barOf]
            rw [hqb, c, if_pos rfl, if_pos hin]
        · have e5 := (f2.trans e3).trans e4
          refine ⟨rfl, _, rfl, rfl, rfl, _, rfl, ?_⟩
          exact iteTe (by decide +kernel) (k _ _ (f1.trans e5) fun z => by cases z)
      · exact iteTe (by rw [decide_eq_false c]; rfl) (k _ _ (f1.trans (f2.trans e3)) fun z => by cases z)
/-! ### _law_done -/
def spDne (K : PySem.W.Frag) : Sp := fun vs H Q _ => ∃ (x y : V) (d : Hs) (e : Dd), vs = [x, y] ∧ Dp K H x (stD d) ∧ Dp K H y (ddD e) ∧ Kn d e ∧ barOf d e = "" ∧ d.ss.length ≤ 100 ∧ ∀ v H', Same H H' → StF K H' v (nextOf d e) → Q v H'
theorem scDne : FnScope ["_law_state", "_law_deed"] ["_law_state", "_law_deed"] (defScope sDne) := ⟨rfl, rfl, rfl, by decide +kernel, rfl, by decide +kernel, by decide +kernel⟩
theorem ok_dne {f gM gL : Addr} {fd fdM fdL : FuncData} (F : Fun K "_law_done" "_law_done" sDne f fd) (B : Bt mg) (GM : OnceF P w K mg base "_law_moved" 1 ["_law_state", "_law_item", "_law_place_here"] (spSet K) gM fdM) (GL : OnceF P w K mg base "_law_lid" 1 ["_law_state", "_law_box"] (spLd K) gL fdL) : FnOk P w K mg base CX0 2 f fd ["_law_state", "_law_deed"] (spDne K) := by
  refine F.ok scDne (fun vs H Q E h => ?_) (fun cdv A outer s H vs Q E hr h => ?_)
  · obtain ⟨x, y, d, e, rfl, _⟩ := h
    rfl
  · obtain ⟨x, y, d, e, rfl, hx, hy, hk, hb, hs, k⟩ := h
    have hr1 : Room 1 _ := hr.mono (by decide)
    refine ⟨_, (pss_cons (ps_if (pt_cmpR op_eq (pe_ix ix_tup (pv 1) pe_int (fun _ _ => rfl)) pe_str (nomark _)) (pss_one (ps_ret (pe_call GM.G hr1 rfl GM.m GM.k GM.b .nil pass0 (pa_cons (pv 0) (pa_cons (pe_ix ix_tup (pv 1) pe_int (fun _ _ => rfl)) (pa_cons (pe_tup (pa_cons pe_str (pa_cons (pe_ix ix_tup (pv 1) pe_int (fun _ _ => rfl)) pa_nil))) pa_nil)))))) pss_nil) (pss_cons (ps_if (pt_cmpR op_eq (pe_ix ix_tup (pv 1) pe_int (fun _ _ => rfl)) pe_str (nomark _)) (pss_one (ps_ret (pe_call GM.G hr1 rfl GM.m GM.k GM.b .nil pass0 (pa_cons (pv 0) (pa_cons (pe_ix ix_tup (pv 1) pe_int (fun _ _ => rfl)) (pa_cons (pe_tup (pa_cons pe_str (pa_cons (pe_ix ix_tup (pv 1) pe_int (fun _ _ => rfl)) pa_nil))) pa_nil)))))) pss_nil) (pss_cons (ps_if (pt_cmpR op_eq (pe_ix ix_tup (pv 1) pe_int (fun _ _ => rfl)) pe_str (nomark _)) (pss_one (ps_ret (pe_call GM.G hr1 rfl GM.m GM.k GM.b .nil pass0 (pa_cons (pv 0) (pa_cons (pe_ix ix_tup (pv 1) pe_int (fun _ _ => rfl)) (pa_cons (pe_tup (pa_cons pe_str (pa_cons (pe_ix ix_tup (pv 1) pe_int (fun _ _ => rfl)) pa_nil))) pa_nil)))))) pss_nil) (pss_cons (ps_if (pt_cmpR op_eq (pe_ix ix_tup (pv 1) pe_int (fun _ _ => rfl)) pe_str (nomark _)) (pss_one (ps_ret (pe_call GM.G hr1 rfl GM.m GM.k GM.b .nil pass0 (pa_cons (pv 0) (pa_cons (pe_tup (pa_cons pe_str (pa_cons (pe_ix ix_tup (pv 1) pe_int (fun _ _ => rfl)) pa_nil))) (pa_cons (pe_tup (pa_cons pe_str (pa_cons (pe_ix ix_tup (pv 1) pe_int (fun _ _ => rfl)) pa_nil))) pa_nil)))))) pss_nil) (pss_one (ps_ret (pe_call GM.G hr1 rfl GM.m GM.k GM.b .nil pass0 (pa_cons (pv 0) (pa_cons (pe_tup (pa_cons pe_str (pa_cons (pe_call GL.G hr1 rfl GL.m GL.k GL.b .nil pass0 (pa_cons (pv 0) (pa_cons (pe_ix ix_tup (pv 1) pe_int (fun _ _ => rfl)) pa_nil))) pa_nil))) (pa_cons (pe_tup (pa_cons pe_str (pa_cons pe_int pa_nil))) pa_nil)))))))))), ?_⟩
    obtain ⟨yd, vs, rfl, sy, dvs⟩ := dd_at hy
    cases e with
    | give h p o =>
      obtain ⟨q, hq⟩ := Option.isSome_iff_exists.mp hk
      cases dvs with
      | cons dp r =>
      cases r with
      | cons do_ r =>
      cases r
      cases do_
      dsimp only [Dd.word, Dd.hand] at *
      refine ⟨_, rfl, yd, _, 0, _, rfl, rfl, sy, atI_nat (j := 0) rfl, rfl, _, rfl, ?_⟩
      refine iteTe (by decide +kernel) ⟨_, rfl, _, rfl, yd, _, 2, _, rfl, rfl, sy, atI_nat (j := 2) rfl, _, rfl, yd, _, 3, _, rfl, rfl, sy, atI_nat (j := 3) rfl, (by show 2 ≤ sizeLine; decide), fun t ht => ?_⟩
      have f1 := same_upd (o := HO.tup [V.str ("hand" : Str), .int (o : Nat)]) ht
      exact ⟨x, _, _, d, p, (.hand, (o : Int)), rfl, Dp.same f1 _ _ hx, Dp.same f1 _ _ dp, .tup (SqT.of upd_same) (.cons (.str _) (.cons (.int _) .nil)), where_lt hq, fun v H' e' hv => k v H' (f1.trans e') hv⟩
    | put h p b =>
      obtain ⟨q, hq⟩ := Option.isSome_iff_exists.mp hk.1
      cases dvs with
      | cons dp r =>
      cases r with
      | cons do_ r =>
      cases r
      cases do_
      dsimp only [Dd.word, Dd.hand] at *
      refine ⟨_, rfl, yd, _, 0, _, rfl, rfl, sy, atI_nat (j := 0) rfl, rfl, _, rfl, ?_⟩
      refine iteFe (by decide +kernel) ⟨_, rfl, yd, _, 0, _, rfl, rfl, sy, atI_nat (j := 0) rfl, rfl, _, rfl, iteTe (by decide +kernel) ⟨_, rfl, _, rfl, yd, _, 2, _, rfl, rfl, sy, atI_nat (j := 2) rfl, _, rfl, yd, _, 3, _, rfl, rfl, sy, atI_nat (j := 3) rfl, (by show 2 ≤ sizeLine; decide), fun t ht => ?_⟩⟩
      have f1 := same_upd (o := HO.tup [V.str ("box" : Str), .int (b : Nat)]) ht
      exact ⟨x, _, _, d, p, (.box, (b : Int)), rfl, Dp.same f1 _ _ hx, Dp.same f1 _ _ dp, .tup (SqT.of upd_same) (.cons (.str _) (.cons (.int _) .nil)), where_lt hq, fun v H' e' hv => k v H' (f1.trans e') hv⟩
    | take h p b =>
      obtain ⟨q, hq⟩ := Option.isSome_iff_exists.mp hk.1
      cases dvs with
      | cons dp r =>
      cases r with
      | cons do_ r =>
      cases r
      cases do_
      dsimp only [Dd.word, Dd.hand] at *
      refine ⟨_, rfl, yd, _, 0, _, rfl, rfl, sy, atI_nat (j := 0) rfl, rfl, _, rfl, ?_⟩
      refine iteFe (by decide +kernel) ⟨_, rfl, yd, _, 0, _, rfl, rfl, sy, atI_nat (j := 0) rfl, rfl, _, rfl, iteFe (by decide +kernel) ⟨_, rfl, yd, _, 0, _, rfl, rfl, sy, atI_nat (j := 0) rfl, rfl, _, rfl, iteTe (by decide +kernel) ⟨_, rfl, _, rfl, yd, _, 2, _, rfl, rfl, sy, atI_nat (j := 2) rfl, _, rfl, yd, _, 1, _, rfl, rfl, sy, atI_nat (j := 1) rfl, (by show 2 ≤ sizeLine; decide), fun t ht => ?_⟩⟩⟩
      have f1 := same_upd (o := HO.tup [V.str ("hand" : Str), .int (h : Nat)]) ht
      exact ⟨x, _, _, d, p, (.hand, (h : Int)), rfl, Dp.same f1 _ _ hx, Dp.same f1 _ _ dp, .tup (SqT.of upd_same) (.cons (.str _) (.cons (.int _) .nil)), where_lt hq, fun v H' e' hv => k v H' (f1.trans e') hv⟩
    | lock h b sl =>
      cases dvs with
      | cons dp r =>
      cases r with
      | cons do_ r =>
      cases r
      cases do_
      cases dp
      dsimp only [Dd.word, Dd.hand] at *
      refine ⟨_, rfl, yd, _, 0, _, rfl, rfl, sy, atI_nat (j := 0) rfl, rfl, _, rfl, ?_⟩
      refine iteFe (by decide +kernel) ⟨_, rfl, yd, _, 0, _, rfl, rfl, sy, atI_nat (j := 0) rfl, rfl, _, rfl, iteFe (by decide +kernel) ⟨_, rfl, yd, _, 0, _, rfl, rfl, sy, atI_nat (j := 0) rfl, rfl, _, rfl, iteFe (by decide +kernel) ⟨_, rfl, yd, _, 0, _, rfl, rfl, sy, atI_nat (j := 0) rfl, rfl, _, rfl, iteTe (by decide +kernel) ⟨_, rfl, _, rfl, yd, _, 3, _, rfl, rfl, sy, atI_nat (j := 3) rfl, (by show 2 ≤ sizeLine; decide), fun t ht => ?_⟩⟩⟩⟩
      have f1 := same_upd (o := HO.tup [V.str ("seal" : Str), .int (sl : Nat)]) ht
      refine ⟨_, rfl, yd, _, 2, _, rfl, rfl, SqT.same f1 sy, atI_nat (j := 2) rfl, (by show 2 ≤ sizeLine; decide), fun t2 ht2 => ?_⟩
      have f2 := same_upd (o := HO.tup [V.str ("box" : Str), .int (b : Nat)]) ht2
      exact ⟨x, _, _, d, (.sl, sl), (.box, (b : Int)), rfl, Dp.same (f1.trans f2) _ _ hx, .tup (SqT.of (f2 _ _ upd_same)) (.cons (.str _) (.cons (.int _) .nil)), .tup (SqT.of upd_same) (.cons (.str _) (.cons (.int _) .nil)), hk.2, fun v H' e' hv => k v H' ((f1.trans f2).trans e') hv⟩
    | brk h b =>
      obtain ⟨qb, hqb⟩ := where_box hk
      cases dvs with
      | cons dp r =>
      cases r
      cases dp
      have hin : (Wd.box, (b : Int)) ∈ d.ss := by
        simp only [barOf] at hb
        by_cases c : whereD d (.box, b) = some (.hand, (h : Int))
        · rw [if_pos c] at hb
          by_cases c2 : (Wd.box, (b : Int)) ∈ d.ss
          · exact c2
          · rw [if_neg c2] at hb; exact absurd hb (by decide +kernel)
        · rw [if_neg c] at hb; exact absurd hb (by decide +kernel)
      obtain ⟨⟨z, hz, _⟩, _⟩ := on_some hin
      dsimp only [Dd.word, Dd.hand] at *
      refine ⟨_, rfl, yd, _, 0, _, rfl, rfl, sy, atI_nat (j := 0) rfl, rfl, _, rfl, ?_⟩
      refine iteFe (by decide +kernel) ⟨_, rfl, yd, _, 0, _, rfl, rfl, sy, atI_nat (j := 0) rfl, rfl, _, rfl, iteFe (by decide +kernel) ⟨_, rfl, yd, _, 0, _, rfl, rfl, sy, atI_nat (j := 0) rfl, rfl, _, rfl, iteFe (by decide +kernel) ⟨_, rfl, yd, _, 0, _, rfl, rfl, sy, atI_nat (j := 0) rfl, rfl, _, rfl, iteFe (by decide +kernel) ⟨_, rfl, _, rfl, _, rfl, yd, _, 2, _, rfl, rfl, sy, atI_nat (j := 2) rfl, x, b, d, rfl, hx, hs, fun _ H1 f1 => ⟨(by show 2 ≤ sizeLine; decide), fun t ht => ?_⟩, fun hn => absurd hin hn⟩⟩⟩⟩
      have f2 := same_upd (o := HO.tup [V.str ("seal" : Str), .int (onIx d b : Nat)]) ht
      refine ⟨(by show 2 ≤ sizeLine; decide), fun t2 ht2 => ?_⟩
      have f3 := same_upd (o := HO.tup [V.str ("gone" : Str), .int 0]) ht2
      have e3 := (f1.trans f2).trans f3
      exact ⟨x, _, _, d, (.sl, onIx d b), (.gone, 0), rfl, Dp.same e3 _ _ hx, .tup (SqT.of (f3 _ _ upd_same)) (.cons (.str _) (.cons (.int _) .nil)), .tup (SqT.of upd_same) (.cons (.str _) (.cons (.int _) .nil)), (List.getElem?_eq_some_iff.mp hz).1, fun v H' e' hv => k v H' (e3.trans e') hv⟩
end
end Kw

set_option Elab.async false
set_option linter.all false
set_option maxRecDepth 100000
set_option maxHeartbeats 4000000
namespace Kw
open PySem PySem.Spec PyProof.Rows L2
abbrev sKno : Stmt := top 64
section
variable {P : Program} {w : World} {K : PySem.W.Frag} {mg : Str → Option Value} {base : Heap}
/-- deeds found so far -/
structure FF (K : PySem.W.Frag) (d : Hs) (H0 H : Hp) (p : Addr) (m : Nat) : Prop where
  e : Same H0 H
  ex : ∃ xs, H p = some (.lst xs) ∧ xs.length ≤ m ∧ ∀ v ∈ xs, DdU K d v H
theorem FF.same {d : Hs} {H0 H H' : Hp} {p : Addr} {m : Nat} (x : FF K d H0 H p m) (e : Same H H') : FF K d H0 H' p m := by
  obtain ⟨e0, xs, h1, h2, h3⟩ := x
  exact ⟨e0.trans e, xs, e _ _ h1, h2, fun v hv => (h3 v hv).nl (nl_same e)⟩
theorem FF.more {d : Hs} {H0 H : Hp} {p : Addr} {m n : Nat} (x : FF K d H0 H p m) (h : m ≤ n) : FF K d H0 H p n := by
  obtain ⟨e0, xs, h1, h2, h3⟩ := x
  exact ⟨e0, xs, h1, by omega, h3⟩
theorem FF.cat {d : Hs} {H0 H H1 : Hp} {p D : Addr} {m n : Nat} {zs : List V} {R : V → Hp → Prop} (x : FF K d H0 H p m) (e : Same H H1) (hm : m + n ≤ 2000) (hD : H1 D = some (.lst zs)) (lz : zs.length ≤ n) (rz : ∀ v ∈ zs, DdU K d v H1) (k : ∀ q H', FF K d H0 H' q (m + n) → R (.ref q) H') : rCat (.ref p) (.ref D) H1 R := by
  obtain ⟨e0, xs, h1, h2, h3⟩ := x.same e
  refine ⟨p, D, xs, zs, rfl, rfl, h1, hD, by rw [sizeLine_eq]; omega, fun q hq => k q _ ?_⟩
  have f := same_upd (o := HO.lst (xs ++ zs)) hq
  refine ⟨e0.trans f, _, upd_same, by rw [List.length_append]; omega, fun v hv => ?_⟩
  rcases List.mem_append.mp hv with hv | hv
  · exact (h3 v hv).nl (nl_same f)
  · exact (rz v hv).nl (nl_same f)
theorem rg_nv (n : Nat) : rgV 0 (n : Int) = nV (List.range n) := by
  unfold rgV nV
  rw [show ((n : Int) - 0).toNat = n by omega]
  refine List.map_congr_left fun i _ => ?_
  rw [Int.zero_add]
theorem allI_get {d : Hs} {p : It} (h : p ∈ allI d) : p.2 < (rowOf d p.1).length := by
  unfold allI kdI at h
  rcases List.mem_append.mp h with h | h
  · rcases List.mem_append.mp h with h | h
    · obtain ⟨i, hi, rfl⟩ := List.mem_map.mp h
      exact List.mem_range.mp hi
    · obtain ⟨i, hi, rfl⟩ := List.mem_map.mp h
      exact List.mem_range.mp hi
  · obtain ⟨i, hi, rfl⟩ := List.mem_map.mp h
    exact List.mem_range.mp hi
theorem ddu_all {d : Hs} {H : Hp} : ∀ {vs : List V}, (∀ v ∈ vs, DdU K d v H) → ∃ es : List Dd, DpAll K H vs (es.map ddD)
  | [], _ => ⟨[], .nil⟩
  | v :: vs, h => by
    obtain ⟨e, h1, _⟩ := h v List.mem_cons_self
    obtain ⟨es, h2⟩ := ddu_all (vs := vs) fun u hu => h u (List.mem_cons_of_mem _ hu)
    exact ⟨e :: es, .cons h1 h2⟩
def spKno (K : PySem.W.Frag) : Sp := fun vs H Q _ => ∃ (x : V) (hp : Addr) (d : Hs) (hs : List Nat), vs = [x, .ref hp] ∧ Dp K H x (drD d) ∧ SqL K H hp (nV hs) ∧ hs.length ≤ 4 ∧ (∀ u ∈ hs, (u : Int) < d.hands) ∧ d.hands ≤ 4 ∧ d.bs.length ≤ 3 ∧ d.ts.length ≤ 4 ∧ d.ss.length ≤ 3 ∧
  ∀ (p : Addr) (xs : List V) (H' : Hp), Same H H' → H' p = some (.lst xs) → xs.length ≤ 1000 → (∀ v ∈ xs, DdU K d v H') → Q (.ref p) H'
theorem scKno : FnScope ["_law_drawn_here", "_law_hands", "_law_found", "_law_items_here", "_law_boxes", "_law_seals", "_law_hand", "_law_item", "_law_other", "_law_box", "_law_seal"] ["_law_drawn_here", "_law_hands"] (defScope sKno) := ⟨rfl, rfl, rfl, by decide +kernel, rfl, by decide +kernel, by decide +kernel⟩
theorem ok_kno {f gI : Addr} {fd fdI : FuncData} (F : Fun K "_law_known" "_law_known" sKno f fd) (B : Bt mg) (mS : mg "sorted" = none) (GI : OnceF P w K mg base "_law_items" 1 ["_law_house_here"] (spItm K) gI fdI) : FnOk P w K mg base CX0 2 f fd ["_law_drawn_here", "_law_hands"] (spKno K) := by
  refine F.ok scKno (fun vs H Q E h => ?_) (fun cdv A outer s H vs Q E hr h => ?_)
  · obtain ⟨x, hp, d, hs, rfl, _⟩ := h
    rfl
  · obtain ⟨x, hp, d, hs, rfl, hx, hhp, hn, hub, hd4, lb, lt, ls, k⟩ := h
    have hr1 : Room 1 _ := hr.mono (by decide)
    have hu : (cxOf CX0 P w K mg base ["_law_drawn_here", "_law_hands", "_law_found", "_law_items_here", "_law_boxes", "_law_seals", "_law_hand", "_law_item", "_law_other", "_law_box", "_law_seal"] "_law_known" (defScope sKno) f cdv A outer s H E).nox.A.units + 64 < cLine := by have := hr.un; show (A.deeper _).units + 64 < cLine; omega
    have hu60 : (cxOf CX0 P w K mg base ["_law_drawn_here", "_law_hands", "_law_found", "_law_items_here", "_law_boxes", "_law_seals", "_law_hand", "_law_item", "_law_other", "_law_box", "_law_seal"] "_law_known" (defScope sKno) f cdv A outer s H E).nox.A.units + 60 < cLine := by omega
    refine ⟨_, (pss_cons (ps_par (i := 2) (j := 3) rfl scKno.nd rfl rfl (by decide) rfl rfl (pa_cons (pe_lst pa_nil) (pa_cons (pe_call GI.G hr1 rfl GI.m GI.k GI.b .nil pass0 (pa_cons (pv 0) pa_nil)) pa_nil)) (by rfl)) (pss_cons (ps_par (i := 4) (j := 5) rfl scKno.nd rfl rfl (by decide) rfl rfl (pa_cons (pe_listRg rfl (by rfl) B.lst (prg_1 (by rfl) B.rng (pe_callB call_len_seq (by rfl) B.len PySem.boot_len (pa_cons (pe_ix ix_tup (pv 0) pe_int (fun _ _ => rfl)) pa_nil)))) (pa_cons (pe_listRg rfl (by rfl) B.lst (prg_1 (by rfl) B.rng (pe_callB call_len_seq (by rfl) B.len PySem.boot_len (pa_cons (pe_ix ix_tup (pv 0) pe_int (fun _ _ => rfl)) pa_nil)))) pa_nil)) (by rfl)) (pss_cons (ps_for PassesOwn.never rfl (pi_list (pv 1)) (pg_name (i := 6) scKno.nd rfl (.inr rfl)) (pss_cons (ps_for PassesOwn.never rfl (pi_list (pv 3)) (pg_name (i := 7) scKno.nd rfl (.inr rfl)) (pss_cons (ps_set (i := 2) scKno.nd rfl (.inl rfl) (pe_op op_cat (pv 2) (pe_lc (own := [("_law_other", 8)]) (g := gName 8) (tt := (tTest (tOp rNe (tVar 8) (tVar 6)))) (te := (tTup (tCons (tC (.str ("give" : Str))) (tCons (tVar 6) (tCons (tVar 7) (tCons (tVar 8) tNil)))))) rfl scKno.nd (pi_list (pv 1)) (blkOk_by (own := [("_law_other", 8)]) (N := ["_law_drawn_here", "_law_hands", "_law_found", "_law_items_here", "_law_boxes", "_law_seals", "_law_hand", "_law_item", "_law_other", "_law_box", "_law_seal"]) (sc := defScope sKno) (by decide +kernel)) (fun _ _ _ _ _ => pg_name (i := 8) scKno.nd rfl (.inl rfl)) (fun _ _ _ _ _ => pts_one (pt_cmpR op_ne (pv 8) (pv 6) (nomark _))) (fun _ _ _ _ _ => (pe_tup (pa_cons pe_str (pa_cons (pv 6) (pa_cons (pv 7) (pa_cons (pv 8) pa_nil))))))))) (pss_one (ps_if (pt_cmpR op_ne (pe_ix ix_tup (pv 7) pe_int (fun _ _ => rfl)) pe_str (nomark _)) (pss_cons (ps_set (i := 2) scKno.nd rfl (.inl rfl) (pe_op op_cat (pv 2) (pe_lc (own := [("_law_box", 9)]) (g := gName 9) (tt := (tTest (tOp (rNeD K) (tVar 7) (tTup (tCons (tC (.str ("box" : Str))) (tCons (tVar 9) tNil)))))) (te := (tTup (tCons (tC (.str ("put" : Str))) (tCons (tVar 6) (tCons (tVar 7) (tCons (tVar 9) tNil)))))) rfl scKno.nd (pi_list (pv 4)) (blkOk_by (own := [("_law_box", 9)]) (N := ["_law_drawn_here", "_law_hands", "_law_found", "_law_items_here", "_law_boxes", "_law_seals", "_law_hand", "_law_item", "_law_other", "_law_box", "_law_seal"]) (sc := defScope sKno) (by decide +kernel)) (fun _ _ _ _ _ => pg_name (i := 9) scKno.nd rfl (.inl rfl)) (fun _ _ _ _ _ => pts_one (pt_cmpR (op_neD hu) (pv 7) (pe_tup (pa_cons pe_str (pa_cons (pv 9) pa_nil))) (nomark _))) (fun _ _ _ _ _ => (pe_tup (pa_cons pe_str (pa_cons (pv 6) (pa_cons (pv 7) (pa_cons (pv 9) pa_nil))))))))) (pss_one (ps_set (i := 2) scKno.nd rfl (.inl rfl) (pe_op op_cat (pv 2) (pe_lc (own := [("_law_box", 9)]) (g := gName 9) (tt := (tTest (tOp (rNeD K) (tVar 7) (tTup (tCons (tC (.str ("box" : Str))) (tCons (tVar 9) tNil)))))) (te := (tTup (tCons (tC (.str ("take" : Str))) (tCons (tVar 6) (tCons (tVar 7) (tCons (tVar 9) tNil)))))) rfl scKno.nd (pi_list (pv 4)) (blkOk_by (own := [("_law_box", 9)]) (N := ["_law_drawn_here", "_law_hands", "_law_found", "_law_items_here", "_law_boxes", "_law_seals", "_law_hand", "_law_item", "_law_other", "_law_box", "_law_seal"]) (sc := defScope sKno) (by decide +kernel)) (fun _ _ _ _ _ => pg_name (i := 9) scKno.nd rfl (.inl rfl)) (fun _ _ _ _ _ => pts_one (pt_cmpR (op_neD hu) (pv 7) (pe_tup (pa_cons pe_str (pa_cons (pv 9) pa_nil))) (nomark _))) (fun _ _ _ _ _ => (pe_tup (pa_cons pe_str (pa_cons (pv 6) (pa_cons (pv 7) (pa_cons (pv 9) pa_nil))))))))))) pss_nil)))) (pss_one (ps_for PassesOwn.never rfl (pi_list (pv 4)) (pg_name (i := 9) scKno.nd rfl (.inr rfl)) (pss_one (ps_set (i := 2) scKno.nd rfl (.inl rfl) (pe_op op_cat (pe_op op_cat (pv 2) (pe_lst (pa_cons (pe_tup (pa_cons pe_str (pa_cons (pv 6) (pa_cons (pv 9) pa_nil)))) pa_nil))) (pe_lc (own := [("_law_seal", 10)]) (g := gName 10) (tt := tYes) (te := (tTup (tCons (tC (.str ("seal" : Str))) (tCons (tVar 6) (tCons (tVar 9) (tCons (tVar 10) tNil)))))) rfl scKno.nd (pi_list (pv 5)) (blkOk_by (own := [("_law_seal", 10)]) (N := ["_law_drawn_here", "_law_hands", "_law_found", "_law_items_here", "_law_boxes", "_law_seals", "_law_hand", "_law_item", "_law_other", "_law_box", "_law_seal"]) (sc := defScope sKno) (by decide +kernel)) (fun _ _ _ _ _ => pg_name (i := 10) scKno.nd rfl (.inl rfl)) (fun _ _ _ _ _ => pts_nil) (fun _ _ _ _ _ => (pe_tup (pa_cons pe_str (pa_cons (pv 6) (pa_cons (pv 9) (pa_cons (pv 10) pa_nil)))))))))))))) (pss_one (ps_ret (pe_callB (cr_sortD hu60) (by rfl) mS (by decide +kernel) (pa_cons (pv 2) pa_nil))))))), ?_⟩
    obtain ⟨a, v1, v2, v3, rfl, sa, d1, d2, d3⟩ := dr_at hx
    obtain ⟨a1, x1, rfl, s1, dl1, l1⟩ := pls_at d1
    obtain ⟨a2, x2, rfl, s2, dl2, l2⟩ := pls_at d2
    obtain ⟨a3, x3, rfl, s3, dl3, l3⟩ := pls_at d3
    have l5 := sizeLine_eq
    have rl4 : ∀ k, (rowOf d k).length ≤ 4 := fun k => by
      cases k
      · show d.bs.length ≤ 4; omega
      · show d.ts.length ≤ 4; omega
      · show d.ss.length ≤ 4; omega
    refine ⟨(by show 0 ≤ sizeLine; decide), fun L hL => ?_⟩
    have f0 := same_upd (o := HO.lst []) hL
    refine ⟨_, rfl, _, d, rfl, Dp.same f0 _ _ hx, ⟨by omega, by omega, by omega⟩, fun pI xI H1 e1 _ hI dI => ⟨_, _, rfl, ?_⟩⟩
    have e01 := f0.trans e1
    refine ⟨_, rfl, a, _, 1, _, rfl, rfl, SqT.same e01 sa, rfl, a1, x1, rfl, .inr (SqT.same e01 s1), _, rfl, RgOk.of_le (by omega) (by omega) (by omega) (by omega), fun pb hpb => ?_⟩
    have f2 := same_upd (o := HO.lst (rgV 0 (x1.length : Nat))) hpb
    have e02 := e01.trans f2
    refine ⟨_, rfl, a, _, 3, _, rfl, rfl, SqT.same e02 sa, rfl, a3, x3, rfl, .inr (SqT.same e02 s3), _, rfl, RgOk.of_le (by omega) (by omega) (by omega) (by omega), fun ps hps => ⟨_, _, rfl, ?_⟩⟩
    have f3 := same_upd (o := HO.lst (rgV 0 (x3.length : Nat))) hps
    have e03 := e02.trans f3
    have hL3 := (e1.trans f2).trans f3 _ _ (show (L2.upd H L (.lst [])) L = some (.lst []) from upd_same)
    have hI3 := (f2.trans f3) _ _ hI
    have dI3 : DpAll K _ xI ((allI d).map itP) := Dp.sames (f2.trans f3) _ _ dI
    have hb3 : (L2.upd (L2.upd H1 pb (.lst (rgV 0 (x1.length : Nat)))) ps (.lst (rgV 0 (x3.length : Nat)))) pb = some (.lst (rgV 0 (d.bs.length : Nat))) := (f3 _ _ upd_same).trans (by rw [l1])
    have hs3 : (L2.upd (L2.upd H1 pb (.lst (rgV 0 (x1.length : Nat)))) ps (.lst (rgV 0 (x3.length : Nat)))) ps = some (.lst (rgV 0 (d.ss.length : Nat))) := upd_same.trans (by rw [l3])
    have lI : xI.length ≤ 10 := by rw [DpAll.len dI, List.length_map, allI_len]; omega
    generalize L2.upd (L2.upd H1 pb (.lst (rgV 0 (x1.length : Nat)))) ps (.lst (rgV 0 (x3.length : Nat))) = H0 at *
    have ff0 : FF K d H0 H0 L 0 := ⟨Same.refl _, [], hL3, Nat.le_refl _, fun v hv => nomatch hv⟩
    refine ⟨_, rfl, hp, rfl, ⟨_, sqL_same e03 hhp⟩, ?_⟩
    refine for_list (K := K) (a := hp) (xs := nV hs) (fun i σ H' => ∃ (p : Addr) (vh vi vb : Option V), σ = [some (.ref a), some (.ref hp), some (.ref p), some (.ref pI), some (.ref pb), some (.ref ps), vh, vi, none, vb, none] ∧ FF K d H0 H' p (i * 120))
      ⟨L, none, none, none, rfl, ff0.more (by omega)⟩ (fun i σ H' _ ⟨_, _, _, _, _, ff⟩ => sqL_same (e03.trans ff.e) hhp) ?_ ?_
    · rintro i y σ H4 hi ⟨p, vh, vi, vb, rfl, ff⟩
      obtain ⟨u, hu', rfl⟩ := nv_get hi
      have hb' := hub u hu'
      have ul : u ≤ 1000 := by omega
      have hi' : i < hs.length := by have := (List.getElem?_eq_some_iff.mp hi).1; rw [nv_len] at this; exact this
      refine ⟨_, rfl, pI, rfl, ⟨_, SqL.of (ff.e _ _ hI3)⟩, ?_⟩
      refine for_list (K := K) (a := pI) (xs := xI) (fun j σ H' => ∃ (p : Addr) (vi vb : Option V), σ = [some (.ref a), some (.ref hp), some (.ref p), some (.ref pI), some (.ref pb), some (.ref ps), some (.int (u : Nat)), vi, none, vb, none] ∧ FF K d H0 H' p (i * 120 + j * 10))
        ⟨p, vi, vb, rfl, ff.more (by omega)⟩ (fun j σ H' _ ⟨_, _, _, _, ff⟩ => SqL.of (ff.e _ _ hI3)) ?_ ?_
      · rintro j y σ H5 hj ⟨p, vi, vb, rfl, ff⟩
        have j1 := (List.getElem?_eq_some_iff.mp hj).1
        obtain ⟨dd, hd1, hd2⟩ := DpAll.get dI3 hj
        obtain ⟨q, hq, rfl⟩ : ∃ q ∈ allI d, itP q = dd := by
          rw [List.getElem?_map] at hd1
          cases z : (allI d)[j]? with
          | none => rw [z] at hd1; cases hd1
          | some q => rw [z] at hd1; exact ⟨q, List.mem_of_getElem? z, Option.some.inj hd1⟩
        have hq2 := allI_get hq
        have wq : (whereD d q).isSome = true := by
          unfold whereD
          rw [List.getElem?_eq_getElem hq2]
          rfl
        have q4 : q.2 ≤ 1000 := by have := rl4 q.1; omega
        -- give
        refine ⟨_, rfl, _, rfl, hp, rfl, ⟨_, sqL_same (e03.trans ff.e) hhp⟩, fun D6 hD6 => ?_⟩
        refine lc_mk (K := K) (fun v H => DdU K d v H) (fun _ _ _ k h => h.nl k) (sqL_same (e03.trans ff.e) hhp) (by rw [nv_len]; omega) hD6 (fun m x H' N Y hm e hN hY => ?_) (fun HA z1 eA hz1 lz1 rz1 => ?_)
        · obtain ⟨o, ho', rfl⟩ := nv_get hm
          have ho2 := hub o ho'
          refine ⟨_, rfl, _, rfl, rfl, _, rfl, ite_b _ (fun _ => ?_) (fun _ => hN _ (Same.refl _))⟩
          refine ⟨_, rfl, _, rfl, _, rfl, (by show 4 ≤ sizeLine; decide), fun t2 ht2 => hY _ _ (same_upd ht2) ⟨.give u q o, .tup (SqT.of upd_same) (.cons (.str _) (.cons (.int _) (.cons (Dp.same ((ff.e.trans e).trans (same_upd ht2)) _ _ hd2) (.cons (.int _) .nil)))), ⟨wq, hb', ho2⟩, (⟨ul, q4, by omega⟩ : u ≤ 1000 ∧ q.2 ≤ 1000 ∧ o ≤ 1000)⟩⟩
        rw [nv_len] at lz1
        refine ff.cat eA (n := 4) (by omega) hz1 (by omega) rz1 fun p1 H6 ff1 => ?_
        obtain ⟨yb, rfl, sy⟩ := it_at (Dp.same ff1.e _ _ hd2)
        refine ⟨_, rfl, yb, _, 0, _, rfl, rfl, sy, rfl, rfl, _, rfl, ite_b _ (fun c => ?_) (fun _ => ⟨_, _, _, rfl, ff1.more (by omega)⟩)⟩
        -- put
        refine ⟨_, rfl, _, rfl, pb, rfl, ⟨_, SqL.of (ff1.e _ _ hb3)⟩, fun D7 hD7 => ?_⟩
        refine lc_mk (K := K) (fun v H => DdU K d v H) (fun _ _ _ k h => h.nl k) (SqL.of (ff1.e _ _ hb3)) (by rw [rg_len]; omega) hD7 (fun m x H' N Y hm e hN hY => ?_) (fun HB z2 eB hz2 lz2 rz2 => ?_)
        · obtain ⟨hm', rfl⟩ := rg_get hm
          have dq := Dp.same (ff1.e.trans e) _ _ hd2
          refine ⟨_, rfl, _, rfl, (by show 2 ≤ sizeLine; decide), fun t ht => ?_⟩
          have ft := same_upd (o := HO.tup [V.str ("box" : Str), .int (m : Nat)]) ht
          refine ⟨itP q, itP (.box, m), Dp.same ft _ _ dq, .tup (SqT.of upd_same) (.cons (.str _) (.cons (.int _) .nil)), shaped_it _, shaped_it _, _, rfl, ite_b _ (fun cne => ?_) (fun _ => hN _ ft)⟩
          exact ⟨_, rfl, _, rfl, _, rfl, (by show 4 ≤ sizeLine; decide), fun t2 ht2 => hY _ _ (ft.trans (same_upd ht2)) ⟨.put u q m, .tup (SqT.of upd_same) (.cons (.str _) (.cons (.int _) (.cons (Dp.same (ft.trans (same_upd ht2)) _ _ dq) (.cons (.int _) .nil)))), ⟨⟨wq, hm'⟩, hb', fun z => by rw [eqv_it, decide_eq_true z] at cne; cases cne⟩, (⟨ul, q4, by omega⟩ : u ≤ 1000 ∧ q.2 ≤ 1000 ∧ m ≤ 1000)⟩⟩
        rw [rg_len] at lz2
        refine ff1.cat eB (n := 3) (by omega) hz2 (by omega) rz2 fun p2 H7 ff2 => ?_
        -- take
        refine ⟨_, rfl, _, rfl, pb, rfl, ⟨_, SqL.of (ff2.e _ _ hb3)⟩, fun D8 hD8 => ?_⟩
        refine lc_mk (K := K) (fun v H => DdU K d v H) (fun _ _ _ k h => h.nl k) (SqL.of (ff2.e _ _ hb3)) (by rw [rg_len]; omega) hD8 (fun m x H' N Y hm e hN hY => ?_) (fun HC z3 eC hz3 lz3 rz3 => ?_)
        · obtain ⟨hm', rfl⟩ := rg_get hm
          have dq := Dp.same (ff2.e.trans e) _ _ hd2
          refine ⟨_, rfl, _, rfl, (by show 2 ≤ sizeLine; decide), fun t ht => ?_⟩
          have ft := same_upd (o := HO.tup [V.str ("box" : Str), .int (m : Nat)]) ht
          refine ⟨itP q, itP (.box, m), Dp.same ft _ _ dq, .tup (SqT.of upd_same) (.cons (.str _) (.cons (.int _) .nil)), shaped_it _, shaped_it _, _, rfl, ite_b _ (fun _ => ?_) (fun _ => hN _ ft)⟩
          exact ⟨_, rfl, _, rfl, _, rfl, (by show 4 ≤ sizeLine; decide), fun t2 ht2 => hY _ _ (ft.trans (same_upd ht2)) ⟨.take u q m, .tup (SqT.of upd_same) (.cons (.str _) (.cons (.int _) (.cons (Dp.same (ft.trans (same_upd ht2)) _ _ dq) (.cons (.int _) .nil)))), ⟨⟨wq, hm'⟩, hb'⟩, (⟨ul, q4, by omega⟩ : u ≤ 1000 ∧ q.2 ≤ 1000 ∧ m ≤ 1000)⟩⟩
        rw [rg_len] at lz3
        refine ff2.cat eC (n := 3) (by omega) hz3 (by omega) rz3 fun p3 H8 ff3 => ?_
        exact ⟨_, _, _, rfl, ff3.more (by omega)⟩
      · rintro σ H5 ⟨p, vi, vb, rfl, ff⟩
        refine ⟨_, rfl, pb, rfl, ⟨_, SqL.of (ff.e _ _ hb3)⟩, ?_⟩
        refine for_list (K := K) (a := pb) (xs := rgV 0 (d.bs.length : Nat)) (fun j σ H' => ∃ (p : Addr) (vb : Option V), σ = [some (.ref a), some (.ref hp), some (.ref p), some (.ref pI), some (.ref pb), some (.ref ps), some (.int (u : Nat)), vi, none, vb, none] ∧ FF K d H0 H' p (i * 120 + 100 + j * 4))
          ⟨p, vb, rfl, ff.more (by omega)⟩ (fun j σ H' _ ⟨_, _, _, ff⟩ => SqL.of (ff.e _ _ hb3)) ?_ ?_
        · rintro j y σ H5 hj ⟨p, vb, rfl, ff⟩
          obtain ⟨hj', rfl⟩ := rg_get hj
          refine ⟨_, rfl, _, rfl, _, rfl, (by show 3 ≤ sizeLine; decide), fun t1 ht1 => ⟨(by show 1 ≤ sizeLine; decide), fun D6 hD6 => ?_⟩⟩
          have g1 := same_upd (o := HO.tup [V.str ("break" : Str), .int (u : Nat), .int (j : Nat)]) ht1
          have g2 := same_upd (o := HO.lst [V.ref t1]) hD6
          refine ff.cat (g1.trans g2) (n := 1) (by omega) upd_same (Nat.le_refl _) (fun v hv => ?_) fun p1 H6 ff1 => ?_
          · have ev : v = .ref t1 := by simpa using hv
            subst ev
            exact ⟨.brk u j, .tup (SqT.of (g2 _ _ upd_same)) (.cons (.str _) (.cons (.int _) (.cons (.int _) .nil))), ⟨hj', hb'⟩, (⟨ul, by omega⟩ : u ≤ 1000 ∧ j ≤ 1000)⟩
          refine ⟨_, rfl, ps, rfl, ⟨_, SqL.of (ff1.e _ _ hs3)⟩, fun D7 hD7 => ?_⟩
          refine lc_mk (K := K) (fun v H => DdU K d v H) (fun _ _ _ k h => h.nl k) (SqL.of (ff1.e _ _ hs3)) (by rw [rg_len]; omega) hD7 (fun m x H' N Y hm e hN hY => ?_) (fun HB z2 eB hz2 lz2 rz2 => ?_)
          · obtain ⟨hm', rfl⟩ := rg_get hm
            exact yes_lc ⟨_, rfl, _, rfl, _, rfl, (by show 4 ≤ sizeLine; decide), fun t ht => hY _ _ (same_upd ht) ⟨.lock u j m, .tup (SqT.of upd_same) (.cons (.str _) (.cons (.int _) (.cons (.int _) (.cons (.int _) .nil)))), ⟨⟨hj', hm'⟩, hb'⟩, (⟨ul, by omega, by omega⟩ : u ≤ 1000 ∧ j ≤ 1000 ∧ m ≤ 1000)⟩⟩
          rw [rg_len] at lz2
          refine ff1.cat eB (n := 3) (by omega) hz2 (by omega) rz2 fun p2 H7 ff2 => ?_
          exact ⟨_, _, rfl, ff2.more (by omega)⟩
        · rintro σ H5 ⟨p, vb, rfl, ff⟩
          rw [rg_len] at ff
          exact ⟨_, _, _, _, rfl, ff.more (by omega)⟩
    · rintro σ H4 ⟨p, vh, vi, vb, rfl, ff⟩
      rw [nv_len] at ff
      obtain ⟨e0, xs, hxs, lxs, rxs⟩ := ff
      obtain ⟨es, hes⟩ := ddu_all rxs
      refine ⟨_, rfl, p, xs, es.map ddD, rfl, SqL.of hxs, hes, fun q hq => ?_, fun q hq q' hq' => ?_, fun ys p' hperm hp9 => ?_⟩
      · obtain ⟨e', _, rfl⟩ := List.mem_map.mp hq
        exact sd_dd e'
      · obtain ⟨e', _, rfl⟩ := List.mem_map.mp hq
        obtain ⟨f', _, rfl⟩ := List.mem_map.mp hq'
        exact tc_dd e' f'
      · exact k p' ys _ ((e03.trans e0).trans (same_upd hp9)) upd_same (by rw [hperm.length_eq]; omega) (fun v hv => (rxs v (hperm.mem_iff.mp hv)).nl (nl_same (same_upd hp9)))
end
end Kw

set_option Elab.async false
set_option linter.all false
set_option maxRecDepth 100000
set_option maxHeartbeats 4000000
namespace Kw
open PySem PySem.Spec PyProof.Rows L2
/-! ## texts of a board -/
theorem str_ext {a b : Str} (h : a.cps = b.cps) : a = b := by
  cases a
  cases b
  cases h
  rfl
theorem str_assoc (a b c : Str) : (a ++ b) ++ c = a ++ (b ++ c) := str_ext (Array.append_assoc ..)
theorem empty_app (a : Str) : Str.empty ++ a = a := str_ext (Array.empty_append ..)
theorem app_empty (a : Str) : a ++ ("" : Str) = a := str_ext (Array.append_empty ..)
theorem fold_size (g : Array Nat) : ∀ (l : List Str) (acc : Array Nat), (l.foldl (fun acc p => acc ++ g ++ p.cps) acc).size = acc.size + (l.map fun p => g.size + p.length).sum
  | [], acc => by simp
  | p :: l, acc => by
    rw [List.foldl_cons, fold_size g l]
    simp [Str.length]
    omega
theorem join_len (sep : Str) (ys : List Str) (B : Nat) (h : ∀ y ∈ ys, y.length ≤ B) : (Txt.join sep ys).length ≤ ys.length * (B + sep.length) := by
  cases ys with
  | nil => exact Nat.le_of_eq (by simp [Txt.join, Builtin.Str.glued, Str.length, Str.empty])
  | cons y r =>
    show (List.foldl (fun acc p => acc ++ sep.cps ++ p.cps) y.cps r).size ≤ _
    rw [fold_size]
    have h0 := h y List.mem_cons_self
    have hr : (r.map fun p => sep.cps.size + p.length).sum ≤ r.length * (B + sep.length) := by
      have : ∀ l : List Str, (∀ y ∈ l, y.length ≤ B) → (l.map fun p => sep.cps.size + p.length).sum ≤ l.length * (B + sep.length) := fun l => by
        induction l with
        | nil => intro _; simp
        | cons p l ih =>
          intro hl
          have h1 := hl p List.mem_cons_self
          have h2 := ih fun y hy => hl y (List.mem_cons_of_mem _ hy)
          rw [List.map_cons, List.sum_cons, List.length_cons, Nat.add_mul, Nat.one_mul]
          have : sep.cps.size = sep.length := rfl
          omega
      exact this r fun y hy => h y (List.mem_cons_of_mem _ hy)
    rw [List.length_cons, Nat.add_mul, Nat.one_mul]
    have : y.cps.size = y.length := rfl
    omega
theorem join_pos (sep y : Str) (r : List Str) (h : 0 < y.length) : 0 < (Txt.join sep (y :: r)).length := by
  show 0 < (List.foldl (fun acc p => acc ++ sep.cps ++ p.cps) y.cps r).size
  rw [fold_size]
  have : y.cps.size = y.length := rfl
  omega
theorem sum_len {ys : List Str} {B : Nat} (h : ∀ y ∈ ys, y.length ≤ B) : (ys.map (·.length)).sum ≤ ys.length * B := by
  induction ys with
  | nil => simp
  | cons y r ih =>
    have h1 := h y List.mem_cons_self
    have h2 := ih fun z hz => h z (List.mem_cons_of_mem _ hz)
    rw [List.map_cons, List.sum_cons, List.length_cons, Nat.add_mul, Nat.one_mul]
    omega
def numS (n : Nat) : Str := Str.ofString (toString ((n : Nat) : Int))
def nameS (p : It) : Str := (p.1.str ++ (" " : Str)) ++ numS p.2
def commaS : Str := (", " : Str)
def sealS (d : Hs) (n : Nat) : Str := if (Wd.box, (n : Int)) ∈ d.ss then (((" (seal " : Str) ++ numS (onIx d n)) ++ (")" : Str)) else ("" : Str)
def txt : Nat → Hs → It → Str
  | 0, _, p => nameS p
  | f + 1, d, p => if p.1 = .box then
      (nameS p ++ sealS d p.2) ++ (if insideOf d p.2 = [] then ("" : Str) else (((" [" : Str) ++ Txt.join commaS ((insideOf d p.2).map (txt f d))) ++ ("]" : Str)))
    else nameS p
def txts (f : Nat) (d : Hs) (ps : List It) : Str := Txt.join commaS (ps.map (txt f d))
def Bd : Nat → Nat
  | 0 => 30
  | f + 1 => 60 + 20 * (Bd f + 2)
theorem Bd_30 (f : Nat) : 30 ≤ Bd f := by
  cases f with
  | zero => decide
  | succ f => unfold Bd; omega
structure Sz (d : Hs) : Prop where
  b : d.bs.length ≤ 3
  t : d.ts.length ≤ 4
  s : d.ss.length ≤ 3
theorem Sz.ls {d : Hs} (x : Sz d) : Ls d := ⟨by have := x.b; omega, by have := x.t; omega, by have := x.s; omega⟩
theorem num_len {n : Nat} (h : n ≤ 1000) : (numS n).length ≤ 4 := digits_small (by omega) (by omega)
theorem kd_len5 (k : Kd) : k.str.length ≤ 5 ∧ 3 ≤ k.str.length := by
  cases k <;> decide +kernel
theorem name_len {p : It} (h : p.2 ≤ 1000) : (nameS p).length ≤ 10 ∧ 3 ≤ (nameS p).length := by
  have h1 := kd_len5 p.1
  have h2 := num_len h
  have h3 : (" " : Str).length = 1 := by decide +kernel
  unfold nameS
  rw [str_app, str_app]
  omega
theorem on_lt {d : Hs} {n : Nat} (h : (Wd.box, (n : Int)) ∈ d.ss) : onIx d n < d.ss.length := by
  obtain ⟨⟨z, hz, _⟩, _⟩ := on_some h
  exact (List.getElem?_eq_some_iff.mp hz).1
theorem seal_len {d : Hs} {n : Nat} (x : Sz d) : (sealS d n).length ≤ 12 := by
  unfold sealS
  by_cases c : (Wd.box, (n : Int)) ∈ d.ss
  · rw [if_pos c, str_app, str_app]
    have h1 : (" (seal " : Str).length = 7 := by decide +kernel
    have h2 : (")" : Str).length = 1 := by decide +kernel
    have h3 := num_len (n := onIx d n) (by have := on_lt c; have := x.s; omega)
    omega
  · rw [if_neg c]
    have : ("" : Str).length = 0 := by decide +kernel
    omega
theorem in_lt {d : Hs} {q : Pl} {p : It} (h : p ∈ loadsOf d q) : p.2 < (rowOf d p.1).length := by
  unfold loadsOf at h
  rcases List.mem_append.mp h with h | h
  · obtain ⟨h1, h2⟩ := at_mem h
    rw [h1]
    exact (List.getElem?_eq_some_iff.mp h2).1
  · obtain ⟨h1, h2⟩ := at_mem h
    rw [h1]
    exact (List.getElem?_eq_some_iff.mp h2).1
theorem in_len {d : Hs} (x : Sz d) (q : Pl) : (loadsOf d q).length ≤ 7 := by
  unfold loadsOf
  rw [List.length_append]
  have h1 := at_len d.bs .box q
  have h2 := at_len d.ts .thing q
  have := x.b
  have := x.t
  omega
theorem Sz.row {d : Hs} (x : Sz d) (k : Kd) : (rowOf d k).length ≤ 4 := by
  have := x.b
  have := x.t
  have := x.s
  cases k
  · show d.bs.length ≤ 4; omega
  · show d.ts.length ≤ 4; omega
  · show d.ss.length ≤ 4; omega
theorem txt_len {d : Hs} (x : Sz d) : ∀ (f : Nat) (p : It), p.2 < (rowOf d p.1).length → (txt f d p).length ≤ Bd f ∧ 3 ≤ (txt f d p).length
  | 0, p, hp => by
    have h1 := x.row p.1
    have h := name_len (p := p) (by omega)
    show (nameS p).length ≤ 30 ∧ _
    exact ⟨by omega, h.2⟩
  | f + 1, p, hp => by
    have h1 := x.row p.1
    have h := name_len (p := p) (by omega)
    have hB := Bd_30 f
    unfold txt
    by_cases c : p.1 = .box
    · rw [if_pos c, str_app, str_app]
      have h2 := seal_len (n := p.2) x
      have h3 : (if insideOf d p.2 = [] then ("" : Str) else (((" [" : Str) ++ Txt.join commaS ((insideOf d p.2).map (txt f d))) ++ ("]" : Str))).length ≤ 3 + 20 * (Bd f + 2) := by
        by_cases c2 : insideOf d p.2 = []
        · rw [if_pos c2]
          have : ("" : Str).length = 0 := by decide +kernel
          omega
        · rw [if_neg c2, str_app, str_app]
          have e1 : (" [" : Str).length = 2 := by decide +kernel
          have e2 : ("]" : Str).length = 1 := by decide +kernel
          have e3 : commaS.length = 2 := by decide +kernel
          have e4 := join_len commaS ((insideOf d p.2).map (txt f d)) (Bd f) fun y hy => by
            obtain ⟨q, hq, rfl⟩ := List.mem_map.mp hy
            exact (txt_len x f q (in_lt hq)).1
          rw [List.length_map, e3] at e4
          have e5 : (insideOf d p.2).length ≤ 20 := by have := in_len x (.box, (p.2 : Int)); show (loadsOf d _).length ≤ 20; omega
          have e6 := Nat.mul_le_mul_right (Bd f + 2) e5
          omega
      unfold Bd
      exact ⟨by omega, by omega⟩
    · rw [if_neg c]
      have := Bd_30 (f + 1)
      exact ⟨by omega, h.2⟩
/-- the boxes in a box, f deep -/
def Dep : Nat → Hs → Nat → Prop
  | 0, _, _ => False
  | f + 1, d, n => ∀ m : Nat, d.bs[m]? = some (.box, (n : Int)) → Dep f d m
theorem dep_two {d : Hs} (w : Wf d) (h : d.bs.length ≤ 2) {n : Nat} (hn : n < d.bs.length) : Dep 2 d n := by
  obtain ⟨ρ, hρ⟩ := w.ac
  intro m hm m' hm'
  have a1 := hρ m n hm
  have a2 := hρ m' m hm'
  have l1 := (List.getElem?_eq_some_iff.mp hm).1
  have l2 := (List.getElem?_eq_some_iff.mp hm').1
  have n1 : m ≠ n := fun z => by rw [z] at a1; omega
  have n2 : m' ≠ m := fun z => by rw [z] at a2; omega
  have n3 : m' ≠ n := fun z => by rw [z] at a2; omega
  omega
theorem dep_in {d : Hs} {f n : Nat} (h : Dep (f + 1) d n) {p : It} (hp : p ∈ insideOf d n) (hb : p.1 = .box) : Dep f d p.2 := by
  unfold insideOf loadsOf at hp
  rcases List.mem_append.mp hp with hp | hp
  · exact h _ (at_mem hp).2
  · rw [(at_mem hp).1] at hb
    cases hb
end Kw

set_option Elab.async false
set_option linter.all false
set_option maxRecDepth 100000
set_option maxHeartbeats 4000000
namespace Kw
open PySem PySem.Spec PyProof.Rows L2
abbrev sBoard : Stmt := top 2
abbrev sLine : Stmt := top 3
abbrev sAllT : Stmt := top 4
abbrev sTxt : Stmt := top 5
abbrev sLst : Stmt := top 65
structure WMt (P : Program) (w : World) (K : PySem.W.Frag) (mg : Str → Option Value) (base : Heap) (CW : Addr) (m : Str) (n : Nat) (ps : List Str) (sp : Sp) (g : Addr) (fd : FuncData) : Prop where
  G : FnOk P w K mg base (L2.CX P w) n g fd ps sp
  m : Meth K CW m g
  b : Binds K fd ps []
section
variable {P : Program} {w : World} {K : PySem.W.Frag} {mg : Str → Option Value} {base : Heap}
def ItOk (f : Nat) (d : Hs) (p : It) : Prop := p.2 < (rowOf d p.1).length ∧ (p.1 = .box → Dep f d p.2)
def spTxt (K : PySem.W.Frag) (C CW : Addr) (f : Nat) : Sp := fun vs H Q _ => ∃ (a h : Addr) (y : V) (p : It) (d0 d : Hs), vs = [.ref a, y] ∧ WIn K C CW H a h d0 d ∧ Sz d ∧ Dp K H y (itP p) ∧ ItOk f d p ∧ ∀ H', Same H H' → Q (.str (txt f d p)) H'
def spAllT (K : PySem.W.Frag) (C CW : Addr) (f : Nat) : Sp := fun vs H Q _ => ∃ (a h L : Addr) (xs : List V) (ps : List It) (d0 d : Hs), vs = [.ref a, .ref L] ∧ WIn K C CW H a h d0 d ∧ Sz d ∧ SqL K H L xs ∧ DpAll K H xs (ps.map itP) ∧ ps.length ≤ 20 ∧ (∀ p ∈ ps, ItOk f d p) ∧ ∀ H', Same H H' → Q (.str (txts f d ps)) H'
abbrev nTxt : List Str := ["world", "item", "word", "number", "text", "seal", "items"]
theorem scTxt : FnScope ["world", "item", "word", "number", "text", "seal", "items"] ["world", "item"] (defScope sTxt) := ⟨rfl, rfl, rfl, by decide +kernel, rfl, by decide +kernel, by decide +kernel⟩
theorem name_out {p : It} : ((Str.empty ++ p.1.str) ++ (" " : Str)) ++ Str.ofString (toString ((p.2 : Nat) : Int)) = nameS p := by
  rw [empty_app]
  rfl
theorem js_nil {out : Str} {σ : L2.St} {H : Hp} {Q : Str → Hp → Prop} (h : Q out H) : tJs [] out σ H Q := h
theorem gn_by {i : Nat} {x : V} {σ : L2.St} {H : Hp} {N : L2.St → Hp → Prop} (h : N (σ.set i (some x)) H) : gName i x σ H N := h
theorem kd_box (k : Kd) : decide (k.str = ("box" : Str)) = decide (k = .box) := by cases k <;> decide +kernel
/-- the text of an item that is no box -/
theorem ok_txt0 {f C CW : Addr} {fd : FuncData} (F : Fun K "text_of" "text_of" sTxt f fd) : FnOk P w K mg base CX0 4 f fd ["world", "item"] (spTxt K C CW 0) := by
  refine F.ok scTxt (fun vs H Q E h => ?_) (fun cdv A outer s H vs Q E hr h => ?_)
  · obtain ⟨a, h, y, p, d0, d, rfl, _⟩ := h
    rfl
  · obtain ⟨a, h, y, p, d0, d, rfl, hw, sz, hy, ok, k⟩ := h
    refine ⟨_, (pss_cons (ps_asg (pv 1) (pg_tup (by rfl) (pgs_cons (pg_name (i := 2) scTxt.nd rfl (.inl rfl)) (pgs_cons (pg_name (i := 3) scTxt.nd rfl (.inl rfl)) pgs_nil)))) (pss_cons (ps_set (i := 4) scTxt.nd rfl (.inl rfl) (pe_joined (.cons (pe_fmt (pv 2)) (.cons pe_str (.cons (pe_fmt (pv 3)) .nil))))) (pss_cons (ps_if (pt_cmpR op_eq (pv 2) pe_str (nomark _)) (pss_cons ps_never (pss_cons ps_never (pss_cons ps_never (pss_one ps_never)))) pss_nil) (pss_one (ps_ret (pv 4)))))), ?_⟩
    obtain ⟨ya, rfl, sy⟩ := it_at hy
    have h4 := sz.row p.1
    have hp := ok.1
    have l5 := sizeLine_eq
    have kl := kd_len5 p.1
    have nl := num_len (n := p.2) (by omega)
    have e1 : (" " : Str).length = 1 := by decide +kernel
    have e0 : (Str.empty : Str).length = 0 := rfl
    refine ⟨_, rfl, ya, _, rfl, sy, rfl, _, _, rfl, _, _, rfl, rfl, ?_⟩
    refine ⟨_, rfl, .inl ⟨_, rfl, by omega, _, rfl, by rw [str_app]; omega, _, rfl, by rw [str_app, str_app]; omega, _, rfl, .inr ⟨_, rfl, log2_small (by omega) (by omega), _, rfl, ?_, ?_⟩⟩⟩
    · rw [str_app, str_app, str_app]
      have : (Str.ofString (toString ((p.2 : Nat) : Int))).length ≤ 4 := nl
      omega
    rw [name_out]
    refine ⟨_, rfl, rfl, _, rfl, ?_⟩
    have nb : p.1 ≠ .box := fun z => ok.2 z
    rw [decS, kd_box, decide_eq_false nb]
    refine iteF ⟨_, rfl, ?_⟩
    exact k _ (Same.refl _)
theorem ok_txtS {f gA gS gI C CW X : Addr} {fd fdA fdS fdI : FuncData} {n : Nat} (F : Fun K "text_of" "text_of" sTxt f fd) (W : WorldC K CW) (GA : OnceF P w K mg base "text_of_all" (5 + 2 * n) ["world", "items"] (spAllT K C CW n) gA fdA) (GS : WMt P w K mg base CW "seal" 3 ["self", "box"] (spWSeal K C CW X) gS fdS) (GI : WMt P w K mg base CW "inside" 3 ["self", "box"] (spWIn K C CW X) gI fdI) (hB : Bd (n + 1) ≤ 100000) :
    FnOk P w K mg base CX0 (4 + 2 * (n + 1)) f fd ["world", "item"] (spTxt K C CW (n + 1)) := by
  have en : 4 + 2 * (n + 1) = (5 + 2 * n) + 1 := by omega
  rw [en]
  refine F.ok scTxt (fun vs H Q E h => ?_) (fun cdv A outer s H vs Q E hr h => ?_)
  · obtain ⟨a, h, y, p, d0, d, rfl, _⟩ := h
    rfl
  · obtain ⟨a, h, y, p, d0, d, rfl, hw, sz, hy, ok, k⟩ := h
    have hr3 : Room 3 _ := hr.mono (by omega)
    have hrA : Room (5 + 2 * n) _ := hr.mono (by omega)
    refine ⟨_, (pss_cons (ps_asg (pv 1) (pg_tup (by rfl) (pgs_cons (pg_name (i := 2) scTxt.nd rfl (.inl rfl)) (pgs_cons (pg_name (i := 3) scTxt.nd rfl (.inl rfl)) pgs_nil)))) (pss_cons (ps_set (i := 4) scTxt.nd rfl (.inl rfl) (pe_joined (.cons (pe_fmt (pv 2)) (.cons pe_str (.cons (pe_fmt (pv 3)) .nil))))) (pss_cons (ps_if (pt_cmpR op_eq (pv 2) pe_str (nomark _)) (pss_cons (ps_set (i := 5) scTxt.nd rfl (.inl rfl) (pe_meth (pv 0) W.cl GS.m GS.G hr3 GS.b .nil passL (pa_cons (pv 3) pa_nil))) (pss_cons (ps_set (i := 6) scTxt.nd rfl (.inl rfl) (pe_meth (pv 0) W.cl GI.m GI.G hr3 GI.b .nil passL (pa_cons (pv 3) pa_nil))) (pss_cons (ps_if (pt_cmpR op_notN (pv 5) pe_non (nomark _)) (pss_one (ps_set (i := 4) scTxt.nd rfl (.inl rfl) (pe_joined (.cons (pe_fmt (pv 4)) (.cons pe_str (.cons (pe_fmt (pv 5)) (.cons pe_str .nil))))))) pss_nil) (pss_one (ps_if (pt_truth (pv 6) (by intro _; rfl)) (pss_one (ps_set (i := 4) scTxt.nd rfl (.inl rfl) (pe_joined (.cons (pe_fmt (pv 4)) (.cons pe_str (.cons (pe_fmt (pe_call GA.G hrA rfl GA.m GA.k GA.b .nil pass0 (pa_cons (pv 0) (pa_cons (pv 6) pa_nil)))) (.cons pe_str .nil))))))) pss_nil))))) pss_nil) (pss_one (ps_ret (pv 4)))))), ?_⟩
    obtain ⟨ya, rfl, sy⟩ := it_at hy
    have h4 := sz.row p.1
    have hp := ok.1
    have l5 := sizeLine_eq
    have kl := kd_len5 p.1
    have nl := num_len (n := p.2) (by omega)
    have e1 : (" " : Str).length = 1 := by decide +kernel
    have e0 : (Str.empty : Str).length = 0 := rfl
    refine ⟨_, rfl, ya, _, rfl, sy, rfl, _, _, rfl, _, _, rfl, rfl, ?_⟩
    refine ⟨_, rfl, .inl ⟨_, rfl, by omega, _, rfl, by rw [str_app]; omega, _, rfl, by rw [str_app, str_app]; omega, _, rfl, .inr ⟨_, rfl, log2_small (by omega) (by omega), _, rfl, ?_, ?_⟩⟩⟩
    · rw [str_app, str_app, str_app]
      have : (Str.ofString (toString ((p.2 : Nat) : Int))).length ≤ 4 := nl
      omega
    rw [name_out]
    refine js_nil ?_
    dsimp only
    refine gn_by ?_
    refine seq_cont (fun σ' H' => ∃ v5 v6 : Option V, σ' = [some (.ref a), some (.ref ya), some (.str p.1.str), some (.int (p.2 : Nat)), some (.str (txt (n + 1) d p)), v5, v6] ∧ Same H H') (fun D' hD' => ?_) ?_
    · refine ⟨_, rfl, rfl, _, rfl, ?_⟩
      rw [decS, kd_box]
      by_cases nb : p.1 = .box
      · rw [decide_eq_true nb]
        refine iteT ?_
        obtain ⟨kd, m⟩ := p
        dsimp only at nb
        subst nb
        have hml : m < d.bs.length := hp
        have dep := ok.2 rfl
        have lin := in_len sz (.box, (m : Int))
        have nl0 := name_len (p := (.box, m)) (by omega)
        have sl0 := seal_len (n := m) sz
        obtain ⟨dx, fs, vst, g0, g1, g2, g3, g4, g5⟩ := hw.wd.ex
        refine seq_cont (fun σ' H' => ∃ v : V, σ' = [some (.ref a), some (.ref ya), some (.str Kd.box.str), some (.int (m : Nat)), some (.str (nameS (.box, m))), some v, none] ∧ Same H H' ∧ (((Wd.box, (m : Int)) ∈ d.ss ∧ v = .int (onIx d m : Nat)) ∨ ((Wd.box, (m : Int)) ∉ d.ss ∧ v = .non))) (fun D' hD' => ?_) ?_
        · refine ⟨_, rfl, a, dx, fs, rfl, g0, g3 "seal" (by decide +kernel) (by decide +kernel), _, rfl, a, h, (m : Int), d0, d, rfl, hw, by omega, by omega, fun c => absurd ⟨by omega, by omega⟩ c, fun b hb hl => ?_⟩
          obtain rfl : m = b := by omega
          exact ⟨fun hin H' e => hD' _ _ ⟨_, rfl, e, .inl ⟨hin, rfl⟩⟩, fun hout H' e => hD' _ _ ⟨_, rfl, e, .inr ⟨hout, rfl⟩⟩⟩
        rintro σ' H1 ⟨v5, rfl, f1, hv5⟩
        refine seq_cont (fun σ' H' => ∃ (L : Addr) (xs : List V), σ' = [some (.ref a), some (.ref ya), some (.str Kd.box.str), some (.int (m : Nat)), some (.str (nameS (.box, m))), some v5, some (.ref L)] ∧ Same H H' ∧ SqL K H' L xs ∧ DpAll K H' xs ((insideOf d m).map itP)) (fun D' hD' => ?_) ?_
        · refine ⟨_, rfl, a, dx, fs, rfl, f1 _ _ g0, g3 "inside" (by decide +kernel) (by decide +kernel), _, rfl, a, h, (m : Int), d0, d, rfl, hw.same f1, by omega, by omega, fun c => absurd ⟨by omega, by omega⟩ c, fun b hb hl v H' e dv => ?_⟩
          obtain rfl : m = b := by omega
          cases dv with
          | lst hs ha => exact hD' _ _ ⟨_, _, rfl, f1.trans e, hs, ha⟩
        rintro σ' H2 ⟨L, xs, rfl, f2, sL, dL⟩
        refine seq_cont (fun σ' H' => σ' = [some (.ref a), some (.ref ya), some (.str Kd.box.str), some (.int (m : Nat)), some (.str (nameS (.box, m) ++ sealS d m)), some v5, some (.ref L)] ∧ H' = H2) (fun D' hD' => ?_) ?_
        · rcases hv5 with ⟨hin, rfl⟩ | ⟨hout, rfl⟩
          · have lt := on_lt hin
            have no := num_len (n := onIx d m) (by have := sz.s; omega)
            have q1 : (" (seal " : Str).length = 7 := by decide +kernel
            have q2 : (")" : Str).length = 1 := by decide +kernel
            refine ⟨_, rfl, rfl, ?_⟩
            refine ⟨_, rfl, ?_⟩
            rw [isn_int]
            have q3 : (Str.ofString (toString ((onIx d m : Nat) : Int))).length ≤ 4 := no
            refine iteTe rfl ⟨_, rfl, .inl ⟨_, rfl, by omega, _, rfl, by rw [str_app]; omega, _, rfl, by rw [str_app, str_app]; omega, _, rfl, .inr ⟨_, rfl, log2_small (by omega) (by have := sz.s; omega), _, rfl, by rw [str_app, str_app, str_app]; omega, _, rfl, by rw [str_app, str_app, str_app, str_app]; omega, ?_⟩⟩⟩
            refine hD' _ _ ⟨?_, rfl⟩
            have q4 : ((((Str.empty ++ nameS (.box, m)) ++ (" (seal " : Str)) ++ Str.ofString (toString ((onIx d m : Nat) : Int))) ++ (")" : Str)) = nameS (.box, m) ++ sealS d m := by
              unfold sealS
              rw [if_pos hin, empty_app, str_assoc, str_assoc, str_assoc]
              rfl
            rw [q4]
            rfl
          · refine ⟨_, rfl, rfl, _, rfl, ?_⟩
            refine iteFe (by decide +kernel) (hD' _ _ ⟨?_, rfl⟩)
            unfold sealS
            rw [if_neg hout, app_empty]
        rintro σ' H3 ⟨rfl, rfl⟩
        refine ⟨_, rfl, !xs.isEmpty, .inl ⟨xs, sL, rfl⟩, ?_⟩
        have lxs := DpAll.len dL
        rw [List.length_map] at lxs
        cases exs : xs with
        | nil =>
          have e3 : insideOf d m = [] := List.length_eq_zero_iff.mp (by rw [← lxs, exs]; rfl)
          have et : txt (n + 1) d (.box, m) = nameS (.box, m) ++ sealS d m := by
            unfold txt
            rw [if_pos rfl, if_pos e3, app_empty]
          exact iteFe rfl (hD' _ _ ⟨some v5, some (.ref L), by rw [et], f2⟩)
        | cons z r =>
          have e3 : insideOf d m ≠ [] := fun q => by
            rw [q, exs] at lxs
            cases lxs
          have q1 : (" [" : Str).length = 2 := by decide +kernel
          have q2 : ("]" : Str).length = 1 := by decide +kernel
          have q0 : commaS.length = 2 := by decide +kernel
          have e5 := join_len commaS ((insideOf d m).map (txt n d)) (Bd n) fun y hy => by
            obtain ⟨q, hq, rfl⟩ := List.mem_map.mp hy
            exact (txt_len sz n q (in_lt hq)).1
          rw [List.length_map, q0] at e5
          have l7 : (insideOf d m).length ≤ 7 := lin
          have e6 := Nat.mul_le_mul_right (Bd n + 2) l7
          have e8 : 60 + 20 * (Bd n + 2) ≤ 100000 := hB
          refine iteTe rfl ⟨_, rfl, .inl ⟨_, rfl, ?_, _, rfl, ?_, _, rfl, ?_, ?_⟩⟩
          · rw [str_app]; omega
          · rw [str_app, str_app]; omega
          · rw [str_app, str_app, str_app]; omega
          refine ⟨_, rfl, _, rfl, a, h, L, xs, insideOf d m, d0, d, rfl, hw.same f2, sz, sL, dL, (by omega), fun q hq => ⟨in_lt hq, fun hb => dep_in dep hq hb⟩, fun H4 e4 => .inl ⟨_, rfl, ?_, _, rfl, ?_, _, rfl, ?_, ?_⟩⟩
          · show (Txt.join commaS _).length ≤ _; omega
          · rw [str_app, str_app, str_app, str_app]; show _ + (Txt.join commaS _).length ≤ _; omega
          · rw [str_app, str_app, str_app, str_app, str_app]; show _ + (Txt.join commaS _).length + _ ≤ _; omega
          refine hD' _ _ ⟨some v5, some (.ref L), ?_, f2.trans e4⟩
          have et : txt (n + 1) d (.box, m) = (nameS (.box, m) ++ sealS d m) ++ (((" [" : Str) ++ txts n d (insideOf d m)) ++ ("]" : Str)) := by
            unfold txt
            rw [if_pos rfl, if_neg e3]
            rfl
          rw [et]
          have q4 : ((((Str.empty ++ (nameS (.box, m) ++ sealS d m)) ++ (" [" : Str)) ++ txts n d (insideOf d m)) ++ ("]" : Str)) = (nameS (.box, m) ++ sealS d m) ++ (((" [" : Str) ++ txts n d (insideOf d m)) ++ ("]" : Str)) := by
            rw [empty_app, str_assoc (nameS (.box, m) ++ sealS d m), str_assoc (nameS (.box, m) ++ sealS d m)]
          rw [q4]
          rfl
      · have et : txt (n + 1) d p = nameS p := by
          unfold txt
          rw [if_neg nb]
        rw [decide_eq_false nb]
        exact iteF (hD' _ _ ⟨none, none, by rw [et]; rfl, Same.refl _⟩)
    · rintro σ' H' ⟨v5, v6, rfl, e⟩
      exact ⟨_, rfl, k _ e⟩
end
end Kw

set_option Elab.async false
set_option linter.all false
set_option maxRecDepth 100000
set_option maxHeartbeats 4000000
namespace Kw
open PySem PySem.Spec PyProof.Rows L2
section
variable {P : Program} {w : World} {K : PySem.W.Frag} {mg : Str → Option Value} {base : Heap}
/-- [f(x) for x in xs], the values told -/
theorem lc_vals {a D : Addr} {xs : List V} {j : Nat} {σ : L2.St} {H1 : Hp} {te : TE} {Qd : Hp → Prop} (vs : List V) (hl : vs.length = xs.length) (ha : SqL K H1 a xs) (hn : xs.length ≤ 1000000) (hD : H1 D = none)
    (hs : ∀ (i : Nat) (x y : V) (H : Hp) (Y : V → Hp → Prop), xs[i]? = some x → vs[i]? = some y → Same H1 H → (∀ H', Same H H' → Y y H') → te ((wipe σ [j]).set j (some x)) H Y)
    (hd : ∀ H, Same H1 H → H D = some (.lst vs) → Qd H) :
    ∃ W : Nat → Nat → Hp → Prop, (∃ m, W 0 m (upd H1 D (.lst []))) ∧ ∀ i m H, W i m H →
      ((Itl K a).stop i H ∧ Qd H) ∨ ((Itl K a).go i H ∧ ∃ Nx : Hp → Prop, (∀ H', Nx H' → ∃ m', m' < m ∧ W (i + 1) m' H') ∧ ∀ x H', (Itl K a).yld i H x H' → gName j x (wipe σ [j]) H' fun σ2 H2 => wipe σ2 [j] = wipe σ [j] ∧ tYes σ2 H2 fun b H3 =>
        if b = true then te σ2 H3 fun y H4 => ∃ acc, H4 D = some (.lst acc) ∧ acc.length < sizeLine ∧ Nx (upd H4 D (.lst (acc ++ [y]))) else Nx H3) := by
  have e0 : ∀ (H' : Hp) (o : HO), Same H1 H' → Same H1 (L2.upd H' D o) := fun H' o e c u h => by rw [upd_ne (ne_of_none h hD)]; exact e c u h
  refine lc_list (K := K) (a := a) (xs := xs) (fun i H => Same H1 H ∧ H D = some (.lst (vs.take i))) ⟨same_upd hD, upd_same⟩ (fun i H _ ⟨e, _⟩ => sqL_same e ha) ?_ ?_
  · rintro i x H hi ⟨e, hz⟩
    have i1 := (List.getElem?_eq_some_iff.mp hi).1
    obtain ⟨y, hy⟩ : ∃ y, vs[i]? = some y := ⟨_, List.getElem?_eq_getElem (by omega)⟩
    refine ⟨wipe_one _ j _, yes_lc (hs i x y H _ hi hy e fun H' e' => ⟨_, e' _ _ hz, by rw [List.length_take, sizeLine_eq]; omega, e0 _ _ (e.trans e'), ?_⟩)⟩
    rw [List.take_add_one, hy]
    exact upd_same
  · rintro H ⟨e, hz⟩
    refine hd H e ?_
    rw [hz, ← hl, List.take_length]
theorem lc_valsR {D : Addr} {n j : Nat} {σ : L2.St} {H1 : Hp} {te : TE} {Qd : Hp → Prop} (g : Nat → V) (hn : n ≤ 1000000) (hD : H1 D = none)
    (hs : ∀ (i : Nat) (H : Hp) (Y : V → Hp → Prop), i < n → Same H1 H → (∀ H', Same H H' → Y (g i) H') → te ((wipe σ [j]).set j (some (.int (i : Nat)))) H Y)
    (hd : ∀ H, Same H1 H → H D = some (.lst ((List.range n).map g)) → Qd H) :
    ∃ W : Nat → Nat → Hp → Prop, (∃ m, W 0 m (upd H1 D (.lst []))) ∧ ∀ i m H, W i m H →
      ((Itr 0 n).stop i H ∧ Qd H) ∨ ((Itr 0 n).go i H ∧ ∃ Nx : Hp → Prop, (∀ H', Nx H' → ∃ m', m' < m ∧ W (i + 1) m' H') ∧ ∀ x H', (Itr 0 n).yld i H x H' → gName j x (wipe σ [j]) H' fun σ2 H2 => wipe σ2 [j] = wipe σ [j] ∧ tYes σ2 H2 fun b H3 =>
        if b = true then te σ2 H3 fun y H4 => ∃ acc, H4 D = some (.lst acc) ∧ acc.length < sizeLine ∧ Nx (upd H4 D (.lst (acc ++ [y]))) else Nx H3) := by
  have e0 : ∀ (H' : Hp) (o : HO), Same H1 H' → Same H1 (L2.upd H' D o) := fun H' o e c u h => by rw [upd_ne (ne_of_none h hD)]; exact e c u h
  refine lc_range (lo := 0) (n := n) (fun i H => Same H1 H ∧ H D = some (.lst ((List.range i).map g))) ⟨same_upd hD, upd_same⟩ ?_ ?_
  · rintro i H hi ⟨e, hz⟩
    rw [Int.zero_add]
    refine ⟨wipe_one _ j _, yes_lc (hs i H _ hi e fun H' e' => ⟨_, e' _ _ hz, by rw [List.length_map, List.length_range, sizeLine_eq]; omega, e0 _ _ (e.trans e'), ?_⟩)⟩
    rw [List.range_succ, List.map_append]
    exact upd_same
  · rintro H ⟨e, hz⟩
    exact hd H e hz
theorem scAllT : FnScope ["world", "items", "item"] ["world", "items"] (defScope sAllT) := ⟨rfl, rfl, rfl, by decide +kernel, rfl, by decide +kernel, by decide +kernel⟩
theorem ok_allt {f gT C CW : Addr} {fd fdT : FuncData} {n : Nat} (F : Fun K "text_of_all" "text_of_all" sAllT f fd) (GT : OnceF P w K mg base "text_of" (4 + 2 * n) ["world", "item"] (spTxt K C CW n) gT fdT) (hB : Bd n ≤ 100000) :
    FnOk P w K mg base CX0 (5 + 2 * n) f fd ["world", "items"] (spAllT K C CW n) := by
  have en : 5 + 2 * n = (4 + 2 * n) + 1 := by omega
  rw [en]
  refine F.ok scAllT (fun vs H Q E h => ?_) (fun cdv A outer s H vs Q E hr h => ?_)
  · obtain ⟨a, h, L, xs, ps, d0, d, rfl, _⟩ := h
    rfl
  · obtain ⟨a, h, L, xs, ps, d0, d, rfl, hw, sz, sL, dL, lp, ok, k⟩ := h
    refine ⟨_, (pss_one (ps_ret (pe_join pe_str (pe_lc (own := [("item", 2)]) (g := gName 2) (tt := tYes) (te := tCall (spTxt K C CW n) [] E0 (tCons (tVar 0) (tCons (tVar 2) tNil))) rfl scAllT.nd (pi_list (pv 1)) (blkOk_by (own := [("item", 2)]) (N := ["world", "items", "item"]) (sc := defScope sAllT) (by decide +kernel)) (fun _ _ _ _ _ => pg_name (i := 2) scAllT.nd rfl (.inl rfl)) (fun _ _ _ _ _ => pts_nil) (fun _ _ _ _ _ => (pe_call GT.G hr rfl GT.m GT.k GT.b .nil pass0 (pa_cons (pv 0) (pa_cons (pv 2) pa_nil)))))))), ?_⟩
    have lxs : xs.length = ps.length := by rw [DpAll.len dL, List.length_map]
    refine ⟨⟨_, rfl⟩, _, rfl, L, rfl, ⟨_, sL⟩, fun D hD => ?_⟩
    refine lc_vals (K := K) ((ps.map (txt n d)).map V.str) (by rw [List.length_map, List.length_map, lxs]) sL (by omega) hD (fun i x y H1 Y hx hy e hY => ?_) (fun H1 e1 h1 => ?_)
    · obtain ⟨dd, hd1, hd2⟩ := DpAll.get dL hx
      rw [List.getElem?_map] at hd1
      cases z : ps[i]? with
      | none => rw [z] at hd1; cases hd1
      | some p =>
        rw [z] at hd1
        obtain rfl : itP p = dd := Option.some.inj hd1
        rw [List.getElem?_map, List.getElem?_map, z] at hy
        obtain rfl : V.str (txt n d p) = y := Option.some.inj hy
        exact ⟨_, rfl, _, rfl, a, h, x, p, d0, d, rfl, hw.same e, sz, Dp.same e _ _ hd2, ok p (List.mem_of_getElem? z), hY⟩
    · have b1 := sum_len (ys := ps.map (txt n d)) (B := Bd n) fun y hy => by
        obtain ⟨q, hq, rfl⟩ := List.mem_map.mp hy
        exact (txt_len sz n q (ok q hq).1).1
      rw [List.length_map] at b1
      have b2 : ps.length * Bd n ≤ 20 * 100000 := Nat.mul_le_mul lp hB
      have b3 : (", " : Str).length = 2 := by decide +kernel
      refine ⟨_, D, ps.map (txt n d), rfl, rfl, .inl (SqL.of h1), ?_, k _ e1⟩
      rw [List.length_map, b3]
      omega
def lineS (d : Hs) (n : Nat) : Str := if heldL d (.hand, (n : Int)) = [] then ((("hand " : Str) ++ numS n) ++ (":" : Str)) else (((("hand " : Str) ++ numS n) ++ (": " : Str)) ++ txts 2 d (heldL d (.hand, (n : Int))))
theorem held_len {d : Hs} (x : Sz d) (q : Pl) : (heldL d q).length ≤ 10 := by
  unfold heldL
  rw [List.length_append, List.length_append]
  have h1 := at_len d.bs .box q
  have h2 := at_len d.ts .thing q
  have h3 := at_len d.ss .sl q
  have := x.b
  have := x.t
  have := x.s
  omega
theorem held_ok {d : Hs} (w : Wf d) (hb : d.bs.length ≤ 2) {q : Pl} {p : It} (h : p ∈ heldL d q) : ItOk 2 d p := by
  have hp : p.2 < (rowOf d p.1).length := by
    unfold heldL at h
    rcases List.mem_append.mp h with h | h
    · rcases List.mem_append.mp h with h | h
      · obtain ⟨h1, h2⟩ := at_mem h
        rw [h1]
        exact (List.getElem?_eq_some_iff.mp h2).1
      · obtain ⟨h1, h2⟩ := at_mem h
        rw [h1]
        exact (List.getElem?_eq_some_iff.mp h2).1
    · obtain ⟨h1, h2⟩ := at_mem h
      rw [h1]
      exact (List.getElem?_eq_some_iff.mp h2).1
  exact ⟨hp, fun e => dep_two w hb (by rw [e] at hp; exact hp)⟩
theorem txts_len {d : Hs} (x : Sz d) {ps : List It} (h : ∀ p ∈ ps, ItOk 2 d p) (l : ps.length ≤ 10) : (txts 2 d ps).length ≤ 200000 := by
  have h1 := join_len commaS (ps.map (txt 2 d)) (Bd 2) fun y hy => by
    obtain ⟨q, hq, rfl⟩ := List.mem_map.mp hy
    exact (txt_len x 2 q (h q hq).1).1
  rw [List.length_map, show commaS.length = 2 by decide +kernel] at h1
  have h2 : ps.length * (Bd 2 + 2) ≤ 10 * (Bd 2 + 2) := Nat.mul_le_mul_right _ l
  have h3 : Bd 2 = 14100 := by decide
  show (Txt.join commaS _).length ≤ _
  omega
theorem line_len {d : Hs} (x : Sz d) (w : Wf d) (hb : d.bs.length ≤ 2) {n : Nat} (hn : n ≤ 1000) : (lineS d n).length ≤ 300000 := by
  have h1 := num_len hn
  have h2 := txts_len x (ps := heldL d (.hand, (n : Int))) (fun p hp => held_ok w hb hp) (held_len x _)
  have q1 : ("hand " : Str).length = 5 := by decide +kernel
  have q2 : (":" : Str).length = 1 := by decide +kernel
  have q3 : (": " : Str).length = 2 := by decide +kernel
  unfold lineS
  split
  · rw [str_app, str_app]; omega
  · rw [str_app, str_app, str_app]; omega
def spLine (K : PySem.W.Frag) (C CW : Addr) : Sp := fun vs H Q _ => ∃ (a h : Addr) (n : Nat) (d0 d : Hs), vs = [.ref a, .int (n : Nat)] ∧ WIn K C CW H a h d0 d ∧ Sz d ∧ Wf d ∧ d.bs.length ≤ 2 ∧ n ≤ 1000 ∧ (n : Int) < d0.hands ∧ ∀ H', Same H H' → Q (.str (lineS d n)) H'
theorem scLine : FnScope ["world", "hand", "items"] ["world", "hand"] (defScope sLine) := ⟨rfl, rfl, rfl, by decide +kernel, rfl, by decide +kernel, by decide +kernel⟩
theorem ok_line {f gA gH C CW X : Addr} {fd fdA fdH : FuncData} (F : Fun K "line_of" "line_of" sLine f fd) (W : WorldC K CW) (GA : OnceF P w K mg base "text_of_all" 9 ["world", "items"] (spAllT K C CW 2) gA fdA) (GH : WMt P w K mg base CW "held" 3 ["self", "hand"] (spWHeld K C CW X) gH fdH) :
    FnOk P w K mg base CX0 10 f fd ["world", "hand"] (spLine K C CW) := by
  refine F.ok scLine (fun vs H Q E h => ?_) (fun cdv A outer s H vs Q E hr h => ?_)
  · obtain ⟨a, h, n, d0, d, rfl, _⟩ := h
    rfl
  · obtain ⟨a, h, n, d0, d, rfl, hw, sz, wf, hb, n1, nh, k⟩ := h
    have hr3 : Room 3 _ := hr.mono (by decide)
    refine ⟨_, (pss_cons (ps_set (i := 2) scLine.nd rfl (.inl rfl) (pe_meth (pv 0) W.cl GH.m GH.G hr3 GH.b .nil passL (pa_cons (pv 1) pa_nil))) (pss_one (ps_ret (pe_ifExp (pt_truth (pv 2) (by intro _; rfl)) (pe_joined (.cons pe_str (.cons (pe_fmt (pv 1)) (.cons pe_str (.cons (pe_fmt (pe_call GA.G hr rfl GA.m GA.k GA.b .nil pass0 (pa_cons (pv 0) (pa_cons (pv 2) pa_nil)))) .nil))))) (pe_joined (.cons pe_str (.cons (pe_fmt (pv 1)) (.cons pe_str .nil)))))))), ?_⟩
    obtain ⟨dx, fs, vst, g0, g1, g2, g3, g4, g5⟩ := hw.wd.ex
    have nn := num_len n1
    have q1 : ("hand " : Str).length = 5 := by decide +kernel
    have q2 : (":" : Str).length = 1 := by decide +kernel
    have q3 : (": " : Str).length = 2 := by decide +kernel
    have q0 : (Str.empty : Str).length = 0 := rfl
    have l5 := sizeLine_eq
    have nn' : (Str.ofString (toString ((n : Nat) : Int))).length ≤ 4 := nn
    refine ⟨_, rfl, a, dx, fs, rfl, g0, g3 "held" (by decide +kernel) (by decide +kernel), _, rfl, a, h, (n : Int), d0, d, rfl, hw, by omega, by omega, fun c => by omega, fun _ v H1 e1 dv => ?_⟩
    cases dv with
    | lst sL dL =>
      rename_i L xs
      have lxs := DpAll.len dL
      rw [List.length_map] at lxs
      refine ⟨_, rfl, !xs.isEmpty, .inl ⟨xs, sL, rfl⟩, ?_⟩
      cases exs : xs with
      | nil =>
        have e3 : heldL d (.hand, (n : Int)) = [] := List.length_eq_zero_iff.mp (by rw [← lxs, exs]; rfl)
        refine iteFe rfl ⟨_, rfl, ?_, _, rfl, .inr ⟨_, rfl, log2_small (by omega) (by omega), _, rfl, ?_, _, rfl, ?_, ?_⟩⟩
        · rw [str_app]; omega
        · rw [str_app, str_app]; omega
        · rw [str_app, str_app, str_app]; omega
        have := k H1 e1
        unfold lineS at this
        rw [if_pos e3] at this
        rw [empty_app]
        exact this
      | cons z r =>
        have e3 : heldL d (.hand, (n : Int)) ≠ [] := fun q => by
          rw [q, exs] at lxs
          cases lxs
        have lt := txts_len sz (ps := heldL d (.hand, (n : Int))) (fun p hp => held_ok wf hb hp) (held_len sz _)
        refine iteTe rfl ⟨_, rfl, ?_, _, rfl, .inr ⟨_, rfl, log2_small (by omega) (by omega), _, rfl, ?_, _, rfl, ?_, ?_⟩⟩
        · rw [str_app]; omega
        · rw [str_app, str_app]; omega
        · rw [str_app, str_app, str_app]; omega
        refine ⟨_, rfl, _, rfl, a, h, L, xs, heldL d (.hand, (n : Int)), d0, d, rfl, hw.same e1, sz, sL, dL, (by have := held_len sz (.hand, (n : Int)); omega), fun p hp => held_ok wf hb hp, fun H2 e2 => .inl ⟨_, rfl, by omega, _, rfl, ?_, ?_⟩⟩
        · rw [str_app, str_app, str_app, str_app]; omega
        have := k H2 (e1.trans e2)
        unfold lineS at this
        rw [if_neg e3] at this
        rw [empty_app]
        exact this
def boardS (d : Hs) (n : Nat) : Str := Txt.join ("\n" : Str) ((List.range n).map (lineS d))
def spBoard (K : PySem.W.Frag) (C CW : Addr) : Sp := fun vs H Q _ => ∃ (a h : Addr) (n : Nat) (d0 d : Hs), vs = [.ref a] ∧ WIn K C CW H a h d0 d ∧ Sz d ∧ Wf d ∧ d.bs.length ≤ 2 ∧ d0.hands = (n : Nat) ∧ n ≤ 4 ∧ ∀ H', Same H H' → Q (.str (boardS d n)) H'
theorem scBoard : FnScope ["world", "hand"] ["world"] (defScope sBoard) := ⟨rfl, rfl, rfl, by decide +kernel, rfl, by decide +kernel, by decide +kernel⟩
theorem ok_board {f gL C CW : Addr} {fd fdL : FuncData} (F : Fun K "board" "board" sBoard f fd) (B : Bt mg) (hc : HouseC K C) (W : WorldC K CW) (GL : OnceF P w K mg base "line_of" 10 ["world", "hand"] (spLine K C CW) gL fdL) :
    FnOk P w K mg base CX0 11 f fd ["world"] (spBoard K C CW) := by
  refine F.ok scBoard (fun vs H Q E h => ?_) (fun cdv A outer s H vs Q E hr h => ?_)
  · obtain ⟨a, h, n, d0, d, rfl, _⟩ := h
    rfl
  · obtain ⟨a, h, n, d0, d, rfl, hw, sz, wf, hb, hn, n4, k⟩ := h
    refine ⟨_, (pss_one (ps_ret (pe_join pe_str (pe_lc (own := [("hand", 1)]) (g := gName 1) (tt := tYes) (te := tCall (spLine K C CW) [] E0 (tCons (tVar 0) (tCons (tVar 1) tNil))) rfl scBoard.nd (pi_range1 rfl B.rng (pa_cons (pe_fld (pe_fld (pv 0) rfl) rfl) pa_nil)) (blkOk_by (own := [("hand", 1)]) (N := ["world", "hand"]) (sc := defScope sBoard) (by decide +kernel)) (fun _ _ _ _ _ => pg_name (i := 1) scBoard.nd rfl (.inl rfl)) (fun _ _ _ _ _ => pts_nil) (fun _ _ _ _ _ => (pe_call GL.G hr rfl GL.m GL.k GL.b .nil pass0 (pa_cons (pv 0) (pa_cons (pv 1) pa_nil)))))))), ?_⟩
    obtain ⟨dx, fs, vst, g0, g1, g2, g3, g4, g5⟩ := hw.wd.ex
    obtain ⟨dx2, vb, vt, vs, vst2, k0, _⟩ := hw.hh.ex
    refine ⟨⟨_, rfl⟩, _, rfl, a, CW, dx, fs, _, rfl, g0, W.cl, W.nH, g1, h, C, dx2, _, .int d0.hands, rfl, k0, hc.cl, hc.nH, ?_, d0.hands, rfl, by omega, by omega, fun D hD => ?_⟩
    · rfl
    rw [show d0.hands.toNat = n by omega]
    refine lc_valsR (fun i => V.str (lineS d i)) (by omega) hD (fun i H1 Y hi e hY => ?_) (fun H1 e1 h1 => ?_)
    · exact ⟨_, rfl, _, rfl, a, h, i, d0, d, rfl, hw.same e, sz, wf, hb, by omega, by omega, hY⟩
    · have b1 := sum_len (ys := (List.range n).map (lineS d)) (B := 300000) fun y hy => by
        obtain ⟨i, hi, rfl⟩ := List.mem_map.mp hy
        exact line_len sz wf hb (by have := List.mem_range.mp hi; omega)
      rw [List.length_map, List.length_range] at b1
      have b3 : ("\n" : Str).length = 1 := by decide +kernel
      refine ⟨_, D, (List.range n).map (lineS d), rfl, rfl, .inl (SqL.of (by rw [List.map_map]; exact h1)), ?_, k _ e1⟩
      rw [List.length_map, List.length_range, b3]
      omega
end
end Kw

set_option Elab.async false
set_option linter.all false
set_option maxRecDepth 100000
set_option maxHeartbeats 4000000
namespace Kw
open PySem PySem.Spec PyProof.Rows L2
section
variable {P : Program} {w : World} {K : PySem.W.Frag} {mg : Str → Option Value} {base : Heap}
def spLstT (K : PySem.W.Frag) (n : Nat) : Sp := fun vs H Q _ => ∃ (x : V) (L : Addr) (xs : List V) (ps : List It) (d : Hs), vs = [x, .ref L] ∧ Dp K H x (stD d) ∧ Sz d ∧ SqT K H L xs ∧ DpAll K H xs (ps.map itP) ∧ ps.length ≤ 20 ∧ (∀ p ∈ ps, ItOk n d p) ∧ ∀ H', Same H H' → Q (.str (txts n d ps)) H'
def spLstL (K : PySem.W.Frag) (n : Nat) : Sp := fun vs H Q _ => ∃ (x : V) (L : Addr) (xs : List V) (ps : List It) (d : Hs), vs = [x, .ref L] ∧ Dp K H x (stD d) ∧ Sz d ∧ SqL K H L xs ∧ DpAll K H xs (ps.map itP) ∧ ps.length ≤ 20 ∧ (∀ p ∈ ps, ItOk n d p) ∧ ∀ H', Same H H' → Q (.str (txts n d ps)) H'
theorem scLst : FnScope ["_law_state", "_law_items_here", "_law_found", "_law_kind", "_law_number", "_law_text", "_law_inside_here", "_law_lid_here"] ["_law_state", "_law_items_here"] (defScope sLst) := ⟨rfl, rfl, rfl, by decide +kernel, rfl, by decide +kernel, by decide +kernel⟩
theorem name_out2 {p : It} : (p.1.str ++ (" " : Str)) ++ Str.ofString (toString ((p.2 : Nat) : Int)) = nameS p := rfl
theorem txts_ne {d : Hs} (x : Sz d) {n : Nat} {ps : List It} (h : ∀ p ∈ ps, ItOk n d p) : txts n d ps = ("" : Str) ↔ ps = [] := by
  constructor
  · intro e
    cases ps with
    | nil => rfl
    | cons p r =>
      exfalso
      have h1 := join_pos commaS (txt n d p) (r.map (txt n d)) (by have := (txt_len x n p (h p List.mem_cons_self).1).2; omega)
      have h2 : (txts n d (p :: r)).length = 0 := by rw [e]; decide +kernel
      have h3 : 0 < (txts n d (p :: r)).length := h1
      omega
  · intro e
    rw [e]
    show Txt.join commaS [] = _
    decide +kernel
theorem decE (a b : Str) : decide ((V.str a) ≠ V.str b) = decide (a ≠ b) := by
  by_cases c : a = b
  · rw [c]; simp
  · rw [decide_eq_true c]; exact decide_eq_true fun q => c (V.str.inj q)
theorem ok_lstT0 {f : Addr} {fd : FuncData} (F : Fun K "_law_listed" "_law_listed" sLst f fd) (B : Bt mg) : FnOk P w K mg base CX0 2 f fd ["_law_state", "_law_items_here"] (spLstT K 0) := by
  refine F.ok scLst (fun vs H Q E h => ?_) (fun cdv A outer s H vs Q E hr h => ?_)
  · obtain ⟨x, L, xs, ps, d, rfl, _⟩ := h
    rfl
  · obtain ⟨x, L, xs, ps, d, rfl, hx, sz, sL, dL, lp, ok, k⟩ := h
    have hB : Bd 0 ≤ 100000 := by decide
    refine ⟨_, (pss_cons (ps_set (i := 2) scLst.nd rfl (.inl rfl) (pe_lst pa_nil)) (pss_cons (ps_for PassesOwn.never rfl (pi_tup (pv 1)) (pg_tup (by rfl) (pgs_cons (pg_name (i := 3) scLst.nd rfl (.inl rfl)) (pgs_cons (pg_name (i := 4) scLst.nd rfl (.inl rfl)) pgs_nil))) (pss_cons (ps_set (i := 5) scLst.nd rfl (.inl rfl) (pe_op op_add_str (pe_op op_add_str (pv 3) pe_str) (pe_callTy call_str_int (by rfl) B.str (by decide +kernel) (pa_cons (pv 4) pa_nil)))) (pss_cons (ps_if (pt_cmpR op_eq (pv 3) pe_str (nomark _)) (pss_cons ps_never (pss_cons ps_never (pss_one ps_never))) pss_nil) (pss_one (ps_expr (pe_bm PySem.F.plainAttrs_list PySem.F.slot_list_append PySem.F.type_list_append mt_append (pv 2) (pa_cons (pv 5) pa_nil))))))) (pss_one (ps_ret (pe_join pe_str (pv 2)))))), ?_⟩
    have l5 := sizeLine_eq
    have lxs : xs.length = ps.length := by rw [DpAll.len dL, List.length_map]
    refine ⟨(by show 0 ≤ sizeLine; decide), fun F0 hF0 => ?_⟩
    have f0 := same_upd (o := HO.lst []) hF0
    refine ⟨_, rfl, L, rfl, ⟨_, SqT.same f0 sL⟩, ?_⟩
    refine for_tup (K := K) (a := L) (xs := xs) (fun i σ H' => ∃ v3 v4 v5 v6 v7 : Option V, σ = [some x, some (.ref L), some (.ref F0), v3, v4, v5, v6, v7] ∧ Same H H' ∧ H' F0 = some (.lst (((ps.take i).map (txt 0 d)).map V.str)))
      ⟨none, none, none, none, none, rfl, f0, upd_same⟩ (fun i σ H' _ ⟨_, _, _, _, _, _, e, _⟩ => SqT.same e sL) ?_ ?_
    · rintro i y σ H5 hi ⟨v3, v4, v5, v6, v7, rfl, e5, hF5⟩
      obtain ⟨dd, hd1, hd2⟩ := DpAll.get dL hi
      rw [List.getElem?_map] at hd1
      obtain ⟨p, hpi⟩ : ∃ p, ps[i]? = some p := by
        cases z : ps[i]? with
        | none => rw [z] at hd1; cases hd1
        | some p => exact ⟨p, rfl⟩
      rw [hpi] at hd1
      obtain rfl : itP p = dd := Option.some.inj hd1
      have okp := ok p (List.mem_of_getElem? hpi)
      have hil : i < ps.length := (List.getElem?_eq_some_iff.mp hpi).1
      obtain ⟨ya, rfl, sy⟩ := it_at (Dp.same e5 _ _ hd2)
      have dx5 := Dp.same e5 _ _ hx
      have h4 := sz.row p.1
      have hp := okp.1
      have kl := kd_len5 p.1
      have nl := num_len (n := p.2) (by omega)
      have nl1 := name_len (p := p) (by omega)
      have nl' : (Str.ofString (toString ((p.2 : Nat) : Int))).length ≤ 4 := nl
      have e1 : (" " : Str).length = 1 := by decide +kernel
      refine ⟨ya, _, rfl, sy, rfl, _, _, rfl, _, _, rfl, rfl, ?_⟩
      refine seq_cont (fun σ' H' => σ' = [some x, some (.ref L), some (.ref F0), some (.str p.1.str), some (.int (p.2 : Nat)), some (.str (nameS p)), v6, v7] ∧ H' = H5) (fun D' hD' => ?_) ?_
      · refine ⟨_, rfl, _, _, rfl, rfl, ?_, _, rfl, _, rfl, log2_small (by omega) (by omega), _, _, rfl, rfl, ?_, hD' _ _ ⟨?_, rfl⟩⟩
        · omega
        · rw [str_app]; omega
        · rw [name_out2]; rfl
      rintro σ' Hm ⟨rfl, rfl⟩
      refine seq_cont (fun σ' H6 => ∃ v6 v7 : Option V, σ' = [some x, some (.ref L), some (.ref F0), some (.str p.1.str), some (.int (p.2 : Nat)), some (.str (txt 0 d p)), v6, v7] ∧ Same Hm H6) (fun D' hD' => ?_) ?_
      · refine ⟨_, rfl, rfl, _, rfl, ?_⟩
        have nb : p.1 ≠ .box := fun z => okp.2 z
        rw [decS, kd_box, decide_eq_false nb]
        exact iteF (hD' _ _ ⟨v6, v7, rfl, Same.refl _⟩)
      rintro σ' H6 ⟨v6', v7', rfl, e6⟩
      have hF6 := e6 _ _ hF5
      refine ⟨_, rfl, .inl ⟨rfl, _, SqL.of hF6⟩, _, rfl, F0, _, _, rfl, rfl, hF6, by rw [List.length_map, List.length_map, List.length_take]; omega, _, _, _, _, _, rfl, fun b o hb => ?_, ?_⟩
      · rw [upd_ne (ne_of_none hb hF0)]
        exact e6 _ _ (e5 _ _ hb)
      · rw [List.take_add_one, hpi, List.map_append, List.map_append]
        exact upd_same
    · rintro σ H5 ⟨v3, v4, v5, v6, v7, rfl, e5, hF5⟩
      rw [lxs, List.take_length] at hF5
      have b1 := sum_len (ys := ps.map (txt 0 d)) (B := Bd 0) fun y hy => by
        obtain ⟨q, hq, rfl⟩ := List.mem_map.mp hy
        exact (txt_len sz 0 q (ok q hq).1).1
      rw [List.length_map] at b1
      have b2 : ps.length * Bd 0 ≤ 20 * 100000 := Nat.mul_le_mul lp hB
      have b3 : (", " : Str).length = 2 := by decide +kernel
      refine ⟨⟨_, rfl⟩, _, rfl, _, F0, ps.map (txt 0 d), rfl, rfl, .inl (SqL.of hF5), ?_, k _ e5⟩
      rw [List.length_map, b3]
      omega

theorem ok_lstL0 {f : Addr} {fd : FuncData} (F : Fun K "_law_listed" "_law_listed" sLst f fd) (B : Bt mg) : FnOk P w K mg base CX0 2 f fd ["_law_state", "_law_items_here"] (spLstL K 0) := by
  refine F.ok scLst (fun vs H Q E h => ?_) (fun cdv A outer s H vs Q E hr h => ?_)
  · obtain ⟨x, L, xs, ps, d, rfl, _⟩ := h
    rfl
  · obtain ⟨x, L, xs, ps, d, rfl, hx, sz, sL, dL, lp, ok, k⟩ := h
    have hB : Bd 0 ≤ 100000 := by decide
    refine ⟨_, (pss_cons (ps_set (i := 2) scLst.nd rfl (.inl rfl) (pe_lst pa_nil)) (pss_cons (ps_for PassesOwn.never rfl (pi_list (pv 1)) (pg_tup (by rfl) (pgs_cons (pg_name (i := 3) scLst.nd rfl (.inl rfl)) (pgs_cons (pg_name (i := 4) scLst.nd rfl (.inl rfl)) pgs_nil))) (pss_cons (ps_set (i := 5) scLst.nd rfl (.inl rfl) (pe_op op_add_str (pe_op op_add_str (pv 3) pe_str) (pe_callTy call_str_int (by rfl) B.str (by decide +kernel) (pa_cons (pv 4) pa_nil)))) (pss_cons (ps_if (pt_cmpR op_eq (pv 3) pe_str (nomark _)) (pss_cons ps_never (pss_cons ps_never (pss_one ps_never))) pss_nil) (pss_one (ps_expr (pe_bm PySem.F.plainAttrs_list PySem.F.slot_list_append PySem.F.type_list_append mt_append (pv 2) (pa_cons (pv 5) pa_nil))))))) (pss_one (ps_ret (pe_join pe_str (pv 2)))))), ?_⟩
    have l5 := sizeLine_eq
    have lxs : xs.length = ps.length := by rw [DpAll.len dL, List.length_map]
    refine ⟨(by show 0 ≤ sizeLine; decide), fun F0 hF0 => ?_⟩
    have f0 := same_upd (o := HO.lst []) hF0
    refine ⟨_, rfl, L, rfl, ⟨_, sqL_same f0 sL⟩, ?_⟩
    refine for_list (K := K) (a := L) (xs := xs) (fun i σ H' => ∃ v3 v4 v5 v6 v7 : Option V, σ = [some x, some (.ref L), some (.ref F0), v3, v4, v5, v6, v7] ∧ Same H H' ∧ H' F0 = some (.lst (((ps.take i).map (txt 0 d)).map V.str)))
      ⟨none, none, none, none, none, rfl, f0, upd_same⟩ (fun i σ H' _ ⟨_, _, _, _, _, _, e, _⟩ => sqL_same e sL) ?_ ?_
    · rintro i y σ H5 hi ⟨v3, v4, v5, v6, v7, rfl, e5, hF5⟩
      obtain ⟨dd, hd1, hd2⟩ := DpAll.get dL hi
      rw [List.getElem?_map] at hd1
      obtain ⟨p, hpi⟩ : ∃ p, ps[i]? = some p := by
        cases z : ps[i]? with
        | none => rw [z] at hd1; cases hd1
        | some p => exact ⟨p, rfl⟩
      rw [hpi] at hd1
      obtain rfl : itP p = dd := Option.some.inj hd1
      have okp := ok p (List.mem_of_getElem? hpi)
      have hil : i < ps.length := (List.getElem?_eq_some_iff.mp hpi).1
      obtain ⟨ya, rfl, sy⟩ := it_at (Dp.same e5 _ _ hd2)
      have dx5 := Dp.same e5 _ _ hx
      have h4 := sz.row p.1
      have hp := okp.1
      have kl := kd_len5 p.1
      have nl := num_len (n := p.2) (by omega)
      have nl1 := name_len (p := p) (by omega)
      have nl' : (Str.ofString (toString ((p.2 : Nat) : Int))).length ≤ 4 := nl
      have e1 : (" " : Str).length = 1 := by decide +kernel
      refine ⟨ya, _, rfl, sy, rfl, _, _, rfl, _, _, rfl, rfl, ?_⟩
      refine seq_cont (fun σ' H' => σ' = [some x, some (.ref L), some (.ref F0), some (.str p.1.str), some (.int (p.2 : Nat)), some (.str (nameS p)), v6, v7] ∧ H' = H5) (fun D' hD' => ?_) ?_
      · refine ⟨_, rfl, _, _, rfl, rfl, ?_, _, rfl, _, rfl, log2_small (by omega) (by omega), _, _, rfl, rfl, ?_, hD' _ _ ⟨?_, rfl⟩⟩
        · omega
        · rw [str_app]; omega
        · rw [name_out2]; rfl
      rintro σ' Hm ⟨rfl, rfl⟩
      refine seq_cont (fun σ' H6 => ∃ v6 v7 : Option V, σ' = [some x, some (.ref L), some (.ref F0), some (.str p.1.str), some (.int (p.2 : Nat)), some (.str (txt 0 d p)), v6, v7] ∧ Same Hm H6) (fun D' hD' => ?_) ?_
      · refine ⟨_, rfl, rfl, _, rfl, ?_⟩
        have nb : p.1 ≠ .box := fun z => okp.2 z
        rw [decS, kd_box, decide_eq_false nb]
        exact iteF (hD' _ _ ⟨v6, v7, rfl, Same.refl _⟩)
      rintro σ' H6 ⟨v6', v7', rfl, e6⟩
      have hF6 := e6 _ _ hF5
      refine ⟨_, rfl, .inl ⟨rfl, _, SqL.of hF6⟩, _, rfl, F0, _, _, rfl, rfl, hF6, by rw [List.length_map, List.length_map, List.length_take]; omega, _, _, _, _, _, rfl, fun b o hb => ?_, ?_⟩
      · rw [upd_ne (ne_of_none hb hF0)]
        exact e6 _ _ (e5 _ _ hb)
      · rw [List.take_add_one, hpi, List.map_append, List.map_append]
        exact upd_same
    · rintro σ H5 ⟨v3, v4, v5, v6, v7, rfl, e5, hF5⟩
      rw [lxs, List.take_length] at hF5
      have b1 := sum_len (ys := ps.map (txt 0 d)) (B := Bd 0) fun y hy => by
        obtain ⟨q, hq, rfl⟩ := List.mem_map.mp hy
        exact (txt_len sz 0 q (ok q hq).1).1
      rw [List.length_map] at b1
      have b2 : ps.length * Bd 0 ≤ 20 * 100000 := Nat.mul_le_mul lp hB
      have b3 : (", " : Str).length = 2 := by decide +kernel
      refine ⟨⟨_, rfl⟩, _, rfl, _, F0, ps.map (txt 0 d), rfl, rfl, .inl (SqL.of hF5), ?_, k _ e5⟩
      rw [List.length_map, b3]
      omega

theorem ok_lstTS {f gI gD : Addr} {fd fdI fdD : FuncData} {n : Nat} (F : Fun K "_law_listed" "_law_listed" sLst f fd) (B : Bt mg) (GZ : OnceF P w K mg base "_law_listed" (2 + n) ["_law_state", "_law_items_here"] (spLstT K n) f fd) (GI : OnceF P w K mg base "_law_inside" 1 ["_law_state", "_law_box"] (spInside K) gI fdI) (GD : OnceF P w K mg base "_law_lid" 1 ["_law_state", "_law_box"] (spLd K) gD fdD) (hB : Bd (n + 1) ≤ 100000) : FnOk P w K mg base CX0 (2 + (n + 1)) f fd ["_law_state", "_law_items_here"] (spLstT K (n + 1)) := by
  rw [show 2 + (n + 1) = (2 + n) + 1 by omega]
  refine F.ok scLst (fun vs H Q E h => ?_) (fun cdv A outer s H vs Q E hr h => ?_)
  · obtain ⟨x, L, xs, ps, d, rfl, _⟩ := h
    rfl
  · obtain ⟨x, L, xs, ps, d, rfl, hx, sz, sL, dL, lp, ok, k⟩ := h
    have hr1 : Room 1 _ := hr.mono (by omega)
    have hrZ : Room (2 + n) _ := hr.mono (by omega)
    refine ⟨_, (pss_cons (ps_set (i := 2) scLst.nd rfl (.inl rfl) (pe_lst pa_nil)) (pss_cons (ps_for PassesOwn.never rfl (pi_tup (pv 1)) (pg_tup (by rfl) (pgs_cons (pg_name (i := 3) scLst.nd rfl (.inl rfl)) (pgs_cons (pg_name (i := 4) scLst.nd rfl (.inl rfl)) pgs_nil))) (pss_cons (ps_set (i := 5) scLst.nd rfl (.inl rfl) (pe_op op_add_str (pe_op op_add_str (pv 3) pe_str) (pe_callTy call_str_int (by rfl) B.str (by decide +kernel) (pa_cons (pv 4) pa_nil)))) (pss_cons (ps_if (pt_cmpR op_eq (pv 3) pe_str (nomark _)) (pss_cons (ps_par (i := 6) (j := 7) rfl scLst.nd rfl rfl (by decide) rfl rfl (pa_cons (pe_call GZ.G hrZ rfl GZ.m GZ.k GZ.b .nil pass0 (pa_cons (pv 0) (pa_cons (pe_call GI.G hr1 rfl GI.m GI.k GI.b .nil pass0 (pa_cons (pv 0) (pa_cons (pv 4) pa_nil))) pa_nil))) (pa_cons (pe_call GD.G hr1 rfl GD.m GD.k GD.b .nil pass0 (pa_cons (pv 0) (pa_cons (pv 4) pa_nil))) pa_nil)) (by rfl)) (pss_cons (ps_set (i := 5) scLst.nd rfl (.inl rfl) (pe_op op_add_str (pv 5) (pe_ifExp (pt_cmpR op_notN (pv 7) pe_non (nomark _)) (pe_op op_add_str (pe_op op_add_str pe_str (pe_callTy call_str_int (by rfl) B.str (by decide +kernel) (pa_cons (pv 7) pa_nil))) pe_str) pe_str))) (pss_one (ps_set (i := 5) scLst.nd rfl (.inl rfl) (pe_op op_add_str (pv 5) (pe_ifExp (pt_cmpR op_ne (pv 6) pe_str (nomark _)) (pe_op op_add_str (pe_op op_add_str pe_str (pv 6)) pe_str) pe_str)))))) pss_nil) (pss_one (ps_expr (pe_bm PySem.F.plainAttrs_list PySem.F.slot_list_append PySem.F.type_list_append mt_append (pv 2) (pa_cons (pv 5) pa_nil))))))) (pss_one (ps_ret (pe_join pe_str (pv 2)))))), ?_⟩
    have l5 := sizeLine_eq
    have lxs : xs.length = ps.length := by rw [DpAll.len dL, List.length_map]
    refine ⟨(by show 0 ≤ sizeLine; decide), fun F0 hF0 => ?_⟩
    have f0 := same_upd (o := HO.lst []) hF0
    refine ⟨_, rfl, L, rfl, ⟨_, SqT.same f0 sL⟩, ?_⟩
    refine for_tup (K := K) (a := L) (xs := xs) (fun i σ H' => ∃ v3 v4 v5 v6 v7 : Option V, σ = [some x, some (.ref L), some (.ref F0), v3, v4, v5, v6, v7] ∧ Same H H' ∧ H' F0 = some (.lst (((ps.take i).map (txt (n + 1) d)).map V.str)))
      ⟨none, none, none, none, none, rfl, f0, upd_same⟩ (fun i σ H' _ ⟨_, _, _, _, _, _, e, _⟩ => SqT.same e sL) ?_ ?_
    · rintro i y σ H5 hi ⟨v3, v4, v5, v6, v7, rfl, e5, hF5⟩
      obtain ⟨dd, hd1, hd2⟩ := DpAll.get dL hi
      rw [List.getElem?_map] at hd1
      obtain ⟨p, hpi⟩ : ∃ p, ps[i]? = some p := by
        cases z : ps[i]? with
        | none => rw [z] at hd1; cases hd1
        | some p => exact ⟨p, rfl⟩
      rw [hpi] at hd1
      obtain rfl : itP p = dd := Option.some.inj hd1
      have okp := ok p (List.mem_of_getElem? hpi)
      have hil : i < ps.length := (List.getElem?_eq_some_iff.mp hpi).1
      obtain ⟨ya, rfl, sy⟩ := it_at (Dp.same e5 _ _ hd2)
      have dx5 := Dp.same e5 _ _ hx
      have h4 := sz.row p.1
      have hp := okp.1
      have kl := kd_len5 p.1
      have nl := num_len (n := p.2) (by omega)
      have nl1 := name_len (p := p) (by omega)
      have nl' : (Str.ofString (toString ((p.2 : Nat) : Int))).length ≤ 4 := nl
      have e1 : (" " : Str).length = 1 := by decide +kernel
      refine ⟨ya, _, rfl, sy, rfl, _, _, rfl, _, _, rfl, rfl, ?_⟩
      refine seq_cont (fun σ' H' => σ' = [some x, some (.ref L), some (.ref F0), some (.str p.1.str), some (.int (p.2 : Nat)), some (.str (nameS p)), v6, v7] ∧ H' = H5) (fun D' hD' => ?_) ?_
      · refine ⟨_, rfl, _, _, rfl, rfl, ?_, _, rfl, _, rfl, log2_small (by omega) (by omega), _, _, rfl, rfl, ?_, hD' _ _ ⟨?_, rfl⟩⟩
        · omega
        · rw [str_app]; omega
        · rw [name_out2]; rfl
      rintro σ' Hm ⟨rfl, rfl⟩
      refine seq_cont (fun σ' H6 => ∃ v6 v7 : Option V, σ' = [some x, some (.ref L), some (.ref F0), some (.str p.1.str), some (.int (p.2 : Nat)), some (.str (txt (n + 1) d p)), v6, v7] ∧ Same Hm H6) (fun D' hD' => ?_) ?_
      · refine ⟨_, rfl, rfl, _, rfl, ?_⟩
        rw [decS, kd_box]
        by_cases nb : p.1 = .box
        · rw [decide_eq_true nb]
          refine iteT ?_
          obtain ⟨kd, m⟩ := p
          dsimp only at nb
          subst nb
          have hml : m < d.bs.length := okp.1
          have dep := okp.2 rfl
          have lin : (insideOf d m).length ≤ 7 := in_len sz (.box, (m : Int))
          have sl0 := seal_len (n := m) sz
          have okin : ∀ q ∈ insideOf d m, ItOk n d q := fun q hq => ⟨in_lt hq, fun hb => dep_in dep hq hb⟩
          have e5 := join_len commaS ((insideOf d m).map (txt n d)) (Bd n) fun y hy => by
            obtain ⟨q, hq, rfl⟩ := List.mem_map.mp hy
            exact (txt_len sz n q (in_lt hq)).1
          rw [List.length_map, show commaS.length = 2 by decide +kernel] at e5
          have e6 := Nat.mul_le_mul_right (Bd n + 2) lin
          have e8 : 60 + 20 * (Bd n + 2) ≤ 100000 := hB
          have e5' : (txts n d (insideOf d m)).length ≤ 100000 := by show (Txt.join commaS _).length ≤ _; omega
          refine seq_cont (fun σ' H' => ∃ v : V, σ' = [some x, some (.ref L), some (.ref F0), some (.str Kd.box.str), some (.int (m : Nat)), some (.str (nameS (.box, m))), some (.str (txts n d (insideOf d m))), some v] ∧ Same Hm H' ∧ (((Wd.box, (m : Int)) ∈ d.ss ∧ v = .int (onIx d m : Nat)) ∨ ((Wd.box, (m : Int)) ∉ d.ss ∧ v = .non))) (fun D2 hD2 => ?_) ?_
          · refine ⟨_, rfl, _, rfl, _, rfl, x, m, d, rfl, dx5, sz.ls, fun vi H6 e6' dvi => ?_⟩
            cases dvi with
            | tup si di =>
              refine ⟨x, _, _, insideOf d m, d, rfl, Dp.same e6' _ _ dx5, sz, si, di, by omega, okin, fun H7 e7 => ?_⟩
              have e67 := e6'.trans e7
              refine ⟨_, rfl, _, rfl, x, m, d, rfl, Dp.same e67 _ _ dx5, by have := sz.s; omega, fun hin H8 e9 => ⟨_, _, rfl, hD2 _ _ ⟨_, rfl, e67.trans e9, .inl ⟨hin, rfl⟩⟩⟩, fun hout H8 e9 => ⟨_, _, rfl, hD2 _ _ ⟨_, rfl, e67.trans e9, .inr ⟨hout, rfl⟩⟩⟩⟩
          rintro σ' H6 ⟨v7', rfl, e6'', hv7⟩
          refine seq_cont (fun σ' H' => σ' = [some x, some (.ref L), some (.ref F0), some (.str Kd.box.str), some (.int (m : Nat)), some (.str (nameS (.box, m) ++ sealS d m)), some (.str (txts n d (insideOf d m))), some v7'] ∧ H' = H6) (fun D2 hD2 => ?_) ?_
          · rcases hv7 with ⟨hin, rfl⟩ | ⟨hout, rfl⟩
            · have lt := on_lt hin
              have no := num_len (n := onIx d m) (by have := sz.s; omega)
              have q1 : (" (seal " : Str).length = 7 := by decide +kernel
              have q2 : (")" : Str).length = 1 := by decide +kernel
              have q3 : (Str.ofString (toString ((onIx d m : Nat) : Int))).length ≤ 4 := no
              refine ⟨_, rfl, _, rfl, rfl, _, rfl, ?_⟩
              rw [isn_int]
              refine iteTe rfl ⟨_, rfl, _, rfl, log2_small (by omega) (by have := sz.s; omega), _, _, rfl, rfl, ?_, _, _, rfl, rfl, ?_, _, _, rfl, rfl, ?_, ?_⟩
              · omega
              · rw [str_app]; omega
              · rw [str_app, str_app]; omega
              refine hD2 _ _ ⟨?_, rfl⟩
              unfold sealS
              rw [if_pos hin]
              rfl
            · refine ⟨_, rfl, _, rfl, rfl, _, rfl, ?_⟩
              have q0 : ("" : Str).length = 0 := by decide +kernel
              refine iteFe (by decide +kernel) ⟨_, _, rfl, rfl, by omega, hD2 _ _ ⟨?_, rfl⟩⟩
              unfold sealS
              rw [if_neg hout]
              rfl
          rintro σ' H7 ⟨rfl, rfl⟩
          refine ⟨_, rfl, _, rfl, rfl, _, rfl, ?_⟩
          by_cases e3 : insideOf d m = []
          · have ez := (txts_ne sz okin).mpr e3
            have et : txt (n + 1) d (.box, m) = (nameS (.box, m) ++ sealS d m) ++ ("" : Str) := by
              unfold txt
              rw [if_pos rfl, if_pos e3]
            have q0 : ("" : Str).length = 0 := by decide +kernel
            refine iteFe (by rw [decS, decide_eq_true ez]; rfl) ⟨_, _, rfl, rfl, ?_, hD' _ _ ⟨some (.str (txts n d (insideOf d m))), some v7', by rw [et]; rfl, e6''⟩⟩
            rw [str_app]; omega
          · have ez : txts n d (insideOf d m) ≠ ("" : Str) := fun z => e3 ((txts_ne sz okin).mp z)
            have et : txt (n + 1) d (.box, m) = (nameS (.box, m) ++ sealS d m) ++ (((" [" : Str) ++ txts n d (insideOf d m)) ++ ("]" : Str)) := by
              unfold txt
              rw [if_pos rfl, if_neg e3]
              rfl
            have q1 : (" [" : Str).length = 2 := by decide +kernel
            have q2 : ("]" : Str).length = 1 := by decide +kernel
            refine iteTe (by rw [decS, decide_eq_false ez]; rfl) ⟨_, rfl, _, _, rfl, rfl, ?_, _, _, rfl, rfl, ?_, _, _, rfl, rfl, ?_, hD' _ _ ⟨some (.str (txts n d (insideOf d m))), some v7', by rw [et]; rfl, e6''⟩⟩
            · omega
            · rw [str_app]; omega
            · rw [str_app, str_app, str_app]; omega
        · have et : txt (n + 1) d p = nameS p := by
            unfold txt
            rw [if_neg nb]
          rw [decide_eq_false nb]
          exact iteF (hD' _ _ ⟨v6, v7, by rw [et], Same.refl _⟩)
      rintro σ' H6 ⟨v6', v7', rfl, e6⟩
      have hF6 := e6 _ _ hF5
      refine ⟨_, rfl, .inl ⟨rfl, _, SqL.of hF6⟩, _, rfl, F0, _, _, rfl, rfl, hF6, by rw [List.length_map, List.length_map, List.length_take]; omega, _, _, _, _, _, rfl, fun b o hb => ?_, ?_⟩
      · rw [upd_ne (ne_of_none hb hF0)]
        exact e6 _ _ (e5 _ _ hb)
      · rw [List.take_add_one, hpi, List.map_append, List.map_append]
        exact upd_same
    · rintro σ H5 ⟨v3, v4, v5, v6, v7, rfl, e5, hF5⟩
      rw [lxs, List.take_length] at hF5
      have b1 := sum_len (ys := ps.map (txt (n + 1) d)) (B := Bd (n + 1)) fun y hy => by
        obtain ⟨q, hq, rfl⟩ := List.mem_map.mp hy
        exact (txt_len sz (n + 1) q (ok q hq).1).1
      rw [List.length_map] at b1
      have b2 : ps.length * Bd (n + 1) ≤ 20 * 100000 := Nat.mul_le_mul lp hB
      have b3 : (", " : Str).length = 2 := by decide +kernel
      refine ⟨⟨_, rfl⟩, _, rfl, _, F0, ps.map (txt (n + 1) d), rfl, rfl, .inl (SqL.of hF5), ?_, k _ e5⟩
      rw [List.length_map, b3]
      omega

theorem ok_lstLS {f gI gD : Addr} {fd fdI fdD : FuncData} {n : Nat} (F : Fun K "_law_listed" "_law_listed" sLst f fd) (B : Bt mg) (GZ : OnceF P w K mg base "_law_listed" (2 + n) ["_law_state", "_law_items_here"] (spLstT K n) f fd) (GI : OnceF P w K mg base "_law_inside" 1 ["_law_state", "_law_box"] (spInside K) gI fdI) (GD : OnceF P w K mg base "_law_lid" 1 ["_law_state", "_law_box"] (spLd K) gD fdD) (hB : Bd (n + 1) ≤ 100000) : FnOk P w K mg base CX0 (2 + (n + 1)) f fd ["_law_state", "_law_items_here"] (spLstL K (n + 1)) := by
  rw [show 2 + (n + 1) = (2 + n) + 1 by omega]
  refine F.ok scLst (fun vs H Q E h => ?_) (fun cdv A outer s H vs Q E hr h => ?_)
  · obtain ⟨x, L, xs, ps, d, rfl, _⟩ := h
    rfl
  · obtain ⟨x, L, xs, ps, d, rfl, hx, sz, sL, dL, lp, ok, k⟩ := h
    have hr1 : Room 1 _ := hr.mono (by omega)
    have hrZ : Room (2 + n) _ := hr.mono (by omega)
    refine ⟨_, (pss_cons (ps_set (i := 2) scLst.nd rfl (.inl rfl) (pe_lst pa_nil)) (pss_cons (ps_for PassesOwn.never rfl (pi_list (pv 1)) (pg_tup (by rfl) (pgs_cons (pg_name (i := 3) scLst.nd rfl (.inl rfl)) (pgs_cons (pg_name (i := 4) scLst.nd rfl (.inl rfl)) pgs_nil))) (pss_cons (ps_set (i := 5) scLst.nd rfl (.inl rfl) (pe_op op_add_str (pe_op op_add_str (pv 3) pe_str) (pe_callTy call_str_int (by rfl) B.str (by decide +kernel) (pa_cons (pv 4) pa_nil)))) (pss_cons (ps_if (pt_cmpR op_eq (pv 3) pe_str (nomark _)) (pss_cons (ps_par (i := 6) (j := 7) rfl scLst.nd rfl rfl (by decide) rfl rfl (pa_cons (pe_call GZ.G hrZ rfl GZ.m GZ.k GZ.b .nil pass0 (pa_cons (pv 0) (pa_cons (pe_call GI.G hr1 rfl GI.m GI.k GI.b .nil pass0 (pa_cons (pv 0) (pa_cons (pv 4) pa_nil))) pa_nil))) (pa_cons (pe_call GD.G hr1 rfl GD.m GD.k GD.b .nil pass0 (pa_cons (pv 0) (pa_cons (pv 4) pa_nil))) pa_nil)) (by rfl)) (pss_cons (ps_set (i := 5) scLst.nd rfl (.inl rfl) (pe_op op_add_str (pv 5) (pe_ifExp (pt_cmpR op_notN (pv 7) pe_non (nomark _)) (pe_op op_add_str (pe_op op_add_str pe_str (pe_callTy call_str_int (by rfl) B.str (by decide +kernel) (pa_cons (pv 7) pa_nil))) pe_str) pe_str))) (pss_one (ps_set (i := 5) scLst.nd rfl (.inl rfl) (pe_op op_add_str (pv 5) (pe_ifExp (pt_cmpR op_ne (pv 6) pe_str (nomark _)) (pe_op op_add_str (pe_op op_add_str pe_str (pv 6)) pe_str) pe_str)))))) pss_nil) (pss_one (ps_expr (pe_bm PySem.F.plainAttrs_list PySem.F.slot_list_append PySem.F.type_list_append mt_append (pv 2) (pa_cons (pv 5) pa_nil))))))) (pss_one (ps_ret (pe_join pe_str (pv 2)))))), ?_⟩
    have l5 := sizeLine_eq
    have lxs : xs.length = ps.length := by rw [DpAll.len dL, List.length_map]
    refine ⟨(by show 0 ≤ sizeLine; decide), fun F0 hF0 => ?_⟩
    have f0 := same_upd (o := HO.lst []) hF0
    refine ⟨_, rfl, L, rfl, ⟨_, sqL_same f0 sL⟩, ?_⟩
    refine for_list (K := K) (a := L) (xs := xs) (fun i σ H' => ∃ v3 v4 v5 v6 v7 : Option V, σ = [some x, some (.ref L), some (.ref F0), v3, v4, v5, v6, v7] ∧ Same H H' ∧ H' F0 = some (.lst (((ps.take i).map (txt (n + 1) d)).map V.str)))
      ⟨none, none, none, none, none, rfl, f0, upd_same⟩ (fun i σ H' _ ⟨_, _, _, _, _, _, e, _⟩ => sqL_same e sL) ?_ ?_
    · rintro i y σ H5 hi ⟨v3, v4, v5, v6, v7, rfl, e5, hF5⟩
      obtain ⟨dd, hd1, hd2⟩ := DpAll.get dL hi
      rw [List.getElem?_map] at hd1
      obtain ⟨p, hpi⟩ : ∃ p, ps[i]? = some p := by
        cases z : ps[i]? with
        | none => rw [z] at hd1; cases hd1
        | some p => exact ⟨p, rfl⟩
      rw [hpi] at hd1
      obtain rfl : itP p = dd := Option.some.inj hd1
      have okp := ok p (List.mem_of_getElem? hpi)
      have hil : i < ps.length := (List.getElem?_eq_some_iff.mp hpi).1
      obtain ⟨ya, rfl, sy⟩ := it_at (Dp.same e5 _ _ hd2)
      have dx5 := Dp.same e5 _ _ hx
      have h4 := sz.row p.1
      have hp := okp.1
      have kl := kd_len5 p.1
      have nl := num_len (n := p.2) (by omega)
      have nl1 := name_len (p := p) (by omega)
      have nl' : (Str.ofString (toString ((p.2 : Nat) : Int))).length ≤ 4 := nl
      have e1 : (" " : Str).length = 1 := by decide +kernel
      refine ⟨ya, _, rfl, sy, rfl, _, _, rfl, _, _, rfl, rfl, ?_⟩
      refine seq_cont (fun σ' H' => σ' = [some x, some (.ref L), some (.ref F0), some (.str p.1.str), some (.int (p.2 : Nat)), some (.str (nameS p)), v6, v7] ∧ H' = H5) (fun D' hD' => ?_) ?_
      · refine ⟨_, rfl, _, _, rfl, rfl, ?_, _, rfl, _, rfl, log2_small (by omega) (by omega), _, _, rfl, rfl, ?_, hD' _ _ ⟨?_, rfl⟩⟩
        · omega
        · rw [str_app]; omega
        · rw [name_out2]; rfl
      rintro σ' Hm ⟨rfl, rfl⟩
      refine seq_cont (fun σ' H6 => ∃ v6 v7 : Option V, σ' = [some x, some (.ref L), some (.ref F0), some (.str p.1.str), some (.int (p.2 : Nat)), some (.str (txt (n + 1) d p)), v6, v7] ∧ Same Hm H6) (fun D' hD' => ?_) ?_
      · refine ⟨_, rfl, rfl, _, rfl, ?_⟩
        rw [decS, kd_box]
        by_cases nb : p.1 = .box
        · rw [decide_eq_true nb]
          refine iteT ?_
          obtain ⟨kd, m⟩ := p
          dsimp only at nb
          subst nb
          have hml : m < d.bs.length := okp.1
          have dep := okp.2 rfl
          have lin : (insideOf d m).length ≤ 7 := in_len sz (.box, (m : Int))
          have sl0 := seal_len (n := m) sz
          have okin : ∀ q ∈ insideOf d m, ItOk n d q := fun q hq => ⟨in_lt hq, fun hb => dep_in dep hq hb⟩
          have e5 := join_len commaS ((insideOf d m).map (txt n d)) (Bd n) fun y hy => by
            obtain ⟨q, hq, rfl⟩ := List.mem_map.mp hy
            exact (txt_len sz n q (in_lt hq)).1
          rw [List.length_map, show commaS.length = 2 by decide +kernel] at e5
          have e6 := Nat.mul_le_mul_right (Bd n + 2) lin
          have e8 : 60 + 20 * (Bd n + 2) ≤ 100000 := hB
          have e5' : (txts n d (insideOf d m)).length ≤ 100000 := by show (Txt.join commaS _).length ≤ _; omega
          refine seq_cont (fun σ' H' => ∃ v : V, σ' = [some x, some (.ref L), some (.ref F0), some (.str Kd.box.str), some (.int (m : Nat)), some (.str (nameS (.box, m))), some (.str (txts n d (insideOf d m))), some v] ∧ Same Hm H' ∧ (((Wd.box, (m : Int)) ∈ d.ss ∧ v = .int (onIx d m : Nat)) ∨ ((Wd.box, (m : Int)) ∉ d.ss ∧ v = .non))) (fun D2 hD2 => ?_) ?_
          · refine ⟨_, rfl, _, rfl, _, rfl, x, m, d, rfl, dx5, sz.ls, fun vi H6 e6' dvi => ?_⟩
            cases dvi with
            | tup si di =>
              refine ⟨x, _, _, insideOf d m, d, rfl, Dp.same e6' _ _ dx5, sz, si, di, by omega, okin, fun H7 e7 => ?_⟩
              have e67 := e6'.trans e7
              refine ⟨_, rfl, _, rfl, x, m, d, rfl, Dp.same e67 _ _ dx5, by have := sz.s; omega, fun hin H8 e9 => ⟨_, _, rfl, hD2 _ _ ⟨_, rfl, e67.trans e9, .inl ⟨hin, rfl⟩⟩⟩, fun hout H8 e9 => ⟨_, _, rfl, hD2 _ _ ⟨_, rfl, e67.trans e9, .inr ⟨hout, rfl⟩⟩⟩⟩
          rintro σ' H6 ⟨v7', rfl, e6'', hv7⟩
          refine seq_cont (fun σ' H' => σ' = [some x, some (.ref L), some (.ref F0), some (.str Kd.box.str), some (.int (m : Nat)), some (.str (nameS (.box, m) ++ sealS d m)), some (.str (txts n d (insideOf d m))), some v7'] ∧ H' = H6) (fun D2 hD2 => ?_) ?_
          · rcases hv7 with ⟨hin, rfl⟩ | ⟨hout, rfl⟩
            · have lt := on_lt hin
              have no := num_len (n := onIx d m) (by have := sz.s; omega)
              have q1 : (" (seal " : Str).length = 7 := by decide +kernel
              have q2 : (")" : Str).length = 1 := by decide +kernel
              have q3 : (Str.ofString (toString ((onIx d m : Nat) : Int))).length ≤ 4 := no
              refine ⟨_, rfl, _, rfl, rfl, _, rfl, ?_⟩
              rw [isn_int]
              refine iteTe rfl ⟨_, rfl, _, rfl, log2_small (by omega) (by have := sz.s; omega), _, _, rfl, rfl, ?_, _, _, rfl, rfl, ?_, _, _, rfl, rfl, ?_, ?_⟩
              · omega
              · rw [str_app]; omega
              · rw [str_app, str_app]; omega
              refine hD2 _ _ ⟨?_, rfl⟩
              unfold sealS
              rw [if_pos hin]
              rfl
            · refine ⟨_, rfl, _, rfl, rfl, _, rfl, ?_⟩
              have q0 : ("" : Str).length = 0 := by decide +kernel
              refine iteFe (by decide +kernel) ⟨_, _, rfl, rfl, by omega, hD2 _ _ ⟨?_, rfl⟩⟩
              unfold sealS
              rw [if_neg hout]
              rfl
          rintro σ' H7 ⟨rfl, rfl⟩
          refine ⟨_, rfl, _, rfl, rfl, _, rfl, ?_⟩
          by_cases e3 : insideOf d m = []
          · have ez := (txts_ne sz okin).mpr e3
            have et : txt (n + 1) d (.box, m) = (nameS (.box, m) ++ sealS d m) ++ ("" : Str) := by
              unfold txt
              rw [if_pos rfl, if_pos e3]
            have q0 : ("" : Str).length = 0 := by decide +kernel
            refine iteFe (by rw [decS, decide_eq_true ez]; rfl) ⟨_, _, rfl, rfl, ?_, hD' _ _ ⟨some (.str (txts n d (insideOf d m))), some v7', by rw [et]; rfl, e6''⟩⟩
            rw [str_app]; omega
          · have ez : txts n d (insideOf d m) ≠ ("" : Str) := fun z => e3 ((txts_ne sz okin).mp z)
            have et : txt (n + 1) d (.box, m) = (nameS (.box, m) ++ sealS d m) ++ (((" [" : Str) ++ txts n d (insideOf d m)) ++ ("]" : Str)) := by
              unfold txt
              rw [if_pos rfl, if_neg e3]
              rfl
            have q1 : (" [" : Str).length = 2 := by decide +kernel
            have q2 : ("]" : Str).length = 1 := by decide +kernel
            refine iteTe (by rw [decS, decide_eq_false ez]; rfl) ⟨_, rfl, _, _, rfl, rfl, ?_, _, _, rfl, rfl, ?_, _, _, rfl, rfl, ?_, hD' _ _ ⟨some (.str (txts n d (insideOf d m))), some v7', by rw [et]; rfl, e6''⟩⟩
            · omega
            · rw [str_app]; omega
            · rw [str_app, str_app, str_app]; omega
        · have et : txt (n + 1) d p = nameS p := by
            unfold txt
            rw [if_neg nb]
          rw [decide_eq_false nb]
          exact iteF (hD' _ _ ⟨v6, v7, by rw [et], Same.refl _⟩)
      rintro σ' H6 ⟨v6', v7', rfl, e6⟩
      have hF6 := e6 _ _ hF5
      refine ⟨_, rfl, .inl ⟨rfl, _, SqL.of hF6⟩, _, rfl, F0, _, _, rfl, rfl, hF6, by rw [List.length_map, List.length_map, List.length_take]; omega, _, _, _, _, _, rfl, fun b o hb => ?_, ?_⟩
      · rw [upd_ne (ne_of_none hb hF0)]
        exact e6 _ _ (e5 _ _ hb)
      · rw [List.take_add_one, hpi, List.map_append, List.map_append]
        exact upd_same
    · rintro σ H5 ⟨v3, v4, v5, v6, v7, rfl, e5, hF5⟩
      rw [lxs, List.take_length] at hF5
      have b1 := sum_len (ys := ps.map (txt (n + 1) d)) (B := Bd (n + 1)) fun y hy => by
        obtain ⟨q, hq, rfl⟩ := List.mem_map.mp hy
        exact (txt_len sz (n + 1) q (ok q hq).1).1
      rw [List.length_map] at b1
      have b2 : ps.length * Bd (n + 1) ≤ 20 * 100000 := Nat.mul_le_mul lp hB
      have b3 : (", " : Str).length = 2 := by decide +kernel
      refine ⟨⟨_, rfl⟩, _, rfl, _, F0, ps.map (txt (n + 1) d), rfl, rfl, .inl (SqL.of hF5), ?_, k _ e5⟩
      rw [List.length_map, b3]
      omega

end
end Kw

set_option Elab.async false
set_option linter.all false
set_option maxRecDepth 100000
set_option maxHeartbeats 4000000
namespace Kw
open PySem PySem.Spec PyProof.Rows L2
abbrev sAlk : Stmt := top 54
section
variable {P : Program} {w : World} {K : PySem.W.Frag} {mg : Str → Option Value} {base : Heap}
def spAlS : Sp := fun vs H Q _ => ∃ z : Str, vs = [.str z, .str z] ∧ ∀ H', Same H H' → Q (.bl true) H'
theorem scAlk : FnScope ["_law_found", "_law_due", "_law_k"] ["_law_found", "_law_due"] (defScope sAlk) := ⟨rfl, rfl, rfl, by decide +kernel, rfl, by decide +kernel, by decide +kernel⟩
theorem ok_alS {f : Addr} {fd : FuncData} (F : Fun K "_law_alike" "_law_alike" sAlk f fd) (B : Bt mg) (mD : mg "dict" = none) : FnOk P w K mg base CX0 1 f fd ["_law_found", "_law_due"] spAlS := by
  refine F.ok scAlk (fun vs H Q E h => ?_) (fun cdv A outer s H vs Q E hr h => ?_)
  · obtain ⟨z, rfl, _⟩ := h
    rfl
  · obtain ⟨z, rfl, k⟩ := h
    refine ⟨_, (pss_cons (ps_if (pt_val (pe_callB call_isi (by rfl) B.isi (by decide +kernel) (pa_cons (pv 1) (pa_cons (pe_bltn (v := .ty "dict") (by rfl) mD (by decide +kernel) rfl) pa_nil)))) (pss_one ps_never) pss_nil) (pss_cons (ps_if (pt_val (pe_callB call_isiT (by rfl) B.isi (by decide +kernel) (pa_cons (pv 1) (pa_cons (pe_tup (pa_cons (pe_bltn (v := .ty "tuple") (by rfl) B.tup (by decide +kernel) rfl) (pa_cons (pe_bltn (v := .ty "list") (by rfl) B.lst (by decide +kernel) rfl) pa_nil))) pa_nil)))) (pss_cons ps_never (pss_cons ps_never (pss_one ps_never))) pss_nil) (pss_cons (ps_if (PW.pt (pw_or (pt_cmpR op_isN (pv 1) pe_non (nomark _)) (pw_or1 (pt_val (pe_callB call_isi (by rfl) B.isi (by decide +kernel) (pa_cons (pv 1) (pa_cons (pe_bltn (v := .ty "str") (by rfl) B.str (by decide +kernel) rfl) pa_nil))))))) (pss_one (ps_ret (pe_and (pe_cmpR op_eq (pv 0) (pv 1) (nomark _)) (pe_one (pe_cmpR op_eq (pe_callB call_isi (by rfl) B.isi (by decide +kernel) (pa_cons (pv 0) (pa_cons (pe_bltn (v := .ty "str") (by rfl) B.str (by decide +kernel) rfl) pa_nil))) (pe_callB call_isi (by rfl) B.isi (by decide +kernel) (pa_cons (pv 1) (pa_cons (pe_bltn (v := .ty "str") (by rfl) B.str (by decide +kernel) rfl) pa_nil))) (nomark _)))))) pss_nil) (pss_one ps_never)))), ?_⟩
    refine ⟨_, rfl, _, _, _, _, false, rfl, .ty "dict", .base (.str z), kit_ty (by decide +kernel), _, rfl, iteF ?_⟩
    refine ⟨_, rfl, (by show 2 ≤ sizeLine; decide), fun tp htp => ?_⟩
    have f1 := same_upd (o := HO.tup [V.ty "tuple", .ty "list"]) htp
    refine ⟨_, tp, _, _, _, false, rfl, upd_same, .cons (.ty "tuple") (.cons (.ty "list") .nil), .base (.str z), ?_, _, rfl, iteF ?_⟩
    · have h1 : PySem.W.kitOne K (.type "str") (.type "tuple") = some false := kit_ty (by decide +kernel)
      have h2 : PySem.W.kitOne K (.type "str") (.type "list") = some false := kit_ty (by decide +kernel)
      show PySem.W.kitAny K (.type "str") [.type "tuple", .type "list"] = some false
      simp [PySem.W.kitAny, h1, h2]
    refine ⟨_, rfl, rfl, _, rfl, iteF ⟨_, rfl, _, _, _, _, true, rfl, .ty "str", .base (.str z), kit_ty (by decide +kernel), _, rfl, iteT ?_⟩⟩
    refine ⟨_, rfl, _, rfl, rfl, _, rfl, iteTe (decide_eq_true rfl) ?_⟩
    refine ⟨_, rfl, _, _, _, _, true, rfl, .ty "str", .base (.str z), kit_ty (by decide +kernel), _, rfl, _, _, _, _, true, rfl, .ty "str", .base (.str z), kit_ty (by decide +kernel), rfl, ?_⟩
    rw [decide_eq_true rfl]
    exact k _ f1
end
end Kw

set_option Elab.async false
set_option linter.all false
set_option maxRecDepth 100000
set_option maxHeartbeats 4000000
namespace Kw
open PySem PySem.Spec PyProof.Rows L2
abbrev sLawB : Stmt := top 66
theorem itE (p : It) {l : List Pl} : True := trivial
theorem kdI_flt (k : Kd) (l : List Pl) (q : Pl) (pr : It → Bool) (h : ∀ i, pr (k, i) = decide (l[i]? = some q)) : (kdI k l.length).filter pr = atOf l k q := by
  unfold kdI atOf
  rw [List.filter_map]
  congr 1
  refine List.filter_congr fun i _ => ?_
  exact h i
theorem held_flt (d : Hs) (q : Pl) : (allI d).filter (fun p => decide (whereD d p = some q)) = heldL d q := by
  unfold allI heldL
  rw [List.filter_append, List.filter_append, kdI_flt .box d.bs q _ fun _ => rfl, kdI_flt .sl d.ss q _ fun _ => rfl, kdI_flt .thing d.ts q _ fun _ => rfl]
theorem Kn.shp {d0 d : Hs} (s : Shp d0 d) {e : Dd} (h : Kn d0 e) : Kn d e := by
  have w : ∀ p : It, (whereD d0 p).isSome = true → (whereD d p).isSome = true := fun p hp => by
    obtain ⟨q, hq⟩ := Option.isSome_iff_exists.mp hp
    have hl := (List.getElem?_eq_some_iff.mp hq).1
    unfold whereD
    rw [List.getElem?_eq_getElem (by rw [← s.r p.1]; exact hl)]
    rfl
  have b := s.r .box
  have c := s.r .sl
  simp only [rowOf] at b c
  cases e with
  | give h' p o => exact w p h
  | put h' p b' => exact ⟨w p h.1, by rw [← b]; exact h.2⟩
  | take h' p b' => exact ⟨w p h.1, by rw [← b]; exact h.2⟩
  | lock h' b' s' => exact ⟨by rw [← b]; exact h.1, by rw [← c]; exact h.2⟩
  | brk h' b' => exact (by rw [← b]; exact h : b' < d.bs.length)
theorem Hb.shp {d0 d : Hs} (s : Shp d0 d) {e : Dd} (h : Hb d0 e) : Hb d e := by
  have b := s.h
  cases e with
  | give h' p o => exact ⟨by rw [← b]; exact h.1, by rw [← b]; exact h.2⟩
  | put h' p b' => exact ⟨by rw [← b]; exact h.1, h.2⟩
  | take h' p b' => exact (by rw [← b]; exact h : (h' : Int) < d.hands)
  | lock h' b' s' => exact (by rw [← b]; exact h : (h' : Int) < d.hands)
  | brk h' b' => exact (by rw [← b]; exact h : (h' : Int) < d.hands)
theorem noL_dr (d : Hs) : noL (drD d) = true := by
  have h1 := noL_pls d.bs
  have h2 := noL_pls d.ts
  have h3 := noL_pls d.ss
  simp [drD, noL, noLs, h1, h2, h3]
section
variable {P : Program} {w : World} {K : PySem.W.Frag} {mg : Str → Option Value} {base : Heap}
/-- [x for x in xs if ..], items -/
theorem lc_fltI {a D : Addr} {xs : List V} {ps : List It} {j : Nat} {σ : L2.St} {H1 : Hp} {tt : TT} {Qd : Hp → Prop} (pr : It → Bool) (hj : j < σ.length) (ha : SqL K H1 a xs) (da : DpAll K H1 xs (ps.map itP)) (hn : xs.length ≤ 1000000) (hD : H1 D = none)
    (ht : ∀ (x : V) (p : It) (H : Hp) (T : Bool → Hp → Prop), p ∈ ps → Dp K H x (itP p) → Same H1 H → (∀ H', Same H H' → T (pr p) H') → tt ((wipe σ [j]).set j (some x)) H T)
    (hd : ∀ H zs, Same H1 H → H D = some (.lst zs) → DpAll K H zs ((ps.filter pr).map itP) → Qd H) :
    ∃ W : Nat → Nat → Hp → Prop, (∃ m, W 0 m (upd H1 D (.lst []))) ∧ ∀ i m H, W i m H →
      ((Itl K a).stop i H ∧ Qd H) ∨ ((Itl K a).go i H ∧ ∃ Nx : Hp → Prop, (∀ H', Nx H' → ∃ m', m' < m ∧ W (i + 1) m' H') ∧ ∀ x H', (Itl K a).yld i H x H' → gName j x (wipe σ [j]) H' fun σ2 H2 => wipe σ2 [j] = wipe σ [j] ∧ tt σ2 H2 fun b H3 =>
        if b = true then tVar j σ2 H3 fun y H4 => ∃ acc, H4 D = some (.lst acc) ∧ acc.length < sizeLine ∧ Nx (upd H4 D (.lst (acc ++ [y]))) else Nx H3) := by
  have e0 : ∀ (H' : Hp) (o : HO), Same H1 H' → Same H1 (L2.upd H' D o) := fun H' o e c u h => by rw [upd_ne (ne_of_none h hD)]; exact e c u h
  have nl : ∀ l : List It, noLs (l.map itP) = true := fun l => noLs_map itP (fun _ => rfl) l
  have lx : xs.length = ps.length := by rw [DpAll.len da, List.length_map]
  refine lc_list (K := K) (a := a) (xs := xs) (fun i H => Same H1 H ∧ ∃ zs, H D = some (.lst zs) ∧ zs.length ≤ i ∧ DpAll K H zs (((ps.take i).filter pr).map itP)) ⟨same_upd hD, [], upd_same, Nat.le_refl _, .nil⟩ (fun i H _ ⟨e, _⟩ => sqL_same e ha) ?_ ?_
  · rintro i x H hi ⟨e, zs, hz, lz, dz⟩
    have i1 := (List.getElem?_eq_some_iff.mp hi).1
    obtain ⟨p, hp⟩ : ∃ p, ps[i]? = some p := ⟨_, List.getElem?_eq_getElem (by omega)⟩
    obtain ⟨dd, hd1, hd2⟩ := DpAll.get da hi
    rw [List.getElem?_map, hp] at hd1
    obtain rfl : itP p = dd := Option.some.inj hd1
    refine ⟨wipe_one _ j _, ht x p H _ (List.mem_of_getElem? hp) (Dp.same e _ _ hd2) e fun H' e' => ?_⟩
    have hz' := e' _ _ hz
    have er : (ps.take (i + 1)).filter pr = (ps.take i).filter pr ++ (if pr p = true then [p] else []) := by
      rw [List.take_add_one, hp, List.filter_append]
      congr 1
      simp only [Option.toList, List.filter_cons, List.filter_nil]
    refine ite_b _ (fun c => ?_) (fun c => ?_)
    · rw [c, if_pos rfl] at er
      refine ⟨_, List.getElem?_set_self (by rw [wipe_length]; exact hj), ?_⟩
      have nl2 := nl_updL (ys := zs ++ [x]) hz'
      refine ⟨zs, hz', by rw [sizeLine_eq]; omega, e0 _ _ (e.trans e'), zs ++ [x], upd_same, by rw [List.length_append]; simp; exact lz, ?_⟩
      rw [er, List.map_append]
      exact DpAll.app (Dp.nls nl2 _ _ (nl _) (Dp.sames e' _ _ dz)) (.cons (Dp.nl nl2 _ _ rfl (Dp.same (e.trans e') _ _ hd2)) .nil)
    · rw [c, if_neg (by decide), List.append_nil] at er
      refine ⟨e.trans e', zs, hz', by omega, ?_⟩
      rw [er]
      exact Dp.sames e' _ _ dz
  · rintro H ⟨e, zs, hz, lz, dz⟩
    rw [lx, List.take_length] at dz
    exact hd H zs e hz dz
theorem wCmpJ {σ : L2.St} {H : Hp} {Q : V → Hp → Prop} {A Bx : TE} {x : V} {d : Hs} {p : It} {q q2 : Pl} {j : Nat} (h0 : σ[j]? = some (some x)) (hx : Dp K H x (stD d)) (hA : ∀ R : V → Hp → Prop, (∀ y H1, Same H H1 → Dp K H1 y (itP p) → R y H1) → A σ H R) (hw : whereD d p = some q)
    (hB : ∀ H2, Same H H2 → ∀ R : V → Hp → Prop, (∀ z H3, Same H2 H3 → Dp K H3 z (plD q2) → R z H3) → Bx σ H2 R) (k : ∀ H', Same H H' → Q (.bl (decide (q = q2))) H') : tOp (rEqD K) (tCall (spWhere K) [] E0 (tCons (tVar j) (tCons A tNil))) Bx σ H Q :=
  ⟨_, h0, hA _ fun y H1 e1 dy => ⟨x, y, d, p, q, rfl, Dp.same e1 _ _ hx, dy, hw, fun v H2 e2 dv => hB H2 (e1.trans e2) _ fun z H3 e3 dz => ⟨plD q, plD q2, Dp.same e3 _ _ dv, dz, shaped_pl _, shaped_pl _, by rw [eqv_pl]; exact k H3 ((e1.trans e2).trans e3)⟩⟩⟩
theorem eqv_nilL (ds : List PyData) : PyData.eqv (.list ds) (.list []) = decide (ds = []) := by
  cases ds <;> simp [PyData.eqv, PyData.eqvAll]
theorem allI_shp {d0 d : Hs} (s : Shp d0 d) : allI d0 = allI d := by
  have a := s.r .box
  have b := s.r .sl
  have c := s.r .thing
  simp only [rowOf] at a b c
  unfold allI
  rw [a, b, c]
structure LawB (P : Program) (w : World) (K : PySem.W.Frag) (mg : Str → Option Value) (base : Heap) (C CW : Addr) : Prop where
  MI : ∃ g fd, OnceF P w K mg base "_law_mix" 1 ["_law_script", "_law_seed"] (spMix K) g fd
  NX : ∃ g fd, OnceF P w K mg base "_law_next" 1 ["_law_h", "_law_limit"] spNx g fd
  DN : ∃ g fd, OnceF P w K mg base "_law_drawn" 2 ["_law_h", "_law_most"] (spDrn K) g fd
  HM : ∃ g fd, OnceF P w K mg base "_law_house" 7 ["_law_drawn_here"] (spHsM K C) g fd
  IT : ∃ g fd, OnceF P w K mg base "_law_items" 1 ["_law_house_here"] (spItm K) g fd
  PL : ∃ g fd, OnceF P w K mg base "_law_place" 1 ["_law_state", "_law_item"] (spWhere K) g fd
  LS : ∃ g fd, OnceF P w K mg base "_law_listed" 4 ["_law_state", "_law_items_here"] (spLstL K 2) g fd
  AL : ∃ g fd, OnceF P w K mg base "_law_alike" 1 ["_law_found", "_law_due"] spAlS g fd
  KN : ∃ g fd, OnceF P w K mg base "_law_known" 2 ["_law_drawn_here", "_law_hands"] (spKno K) g fd
  MA : ∃ g fd, OnceF P w K mg base "_law_may" 2 ["_law_state", "_law_deed"] (spMay K) g fd
  DO : ∃ g fd, OnceF P w K mg base "_law_done" 2 ["_law_state", "_law_deed"] (spDne K) g fd
  BO : ∃ g fd, OnceF P w K mg base "board" 11 ["world"] (spBoard K C CW) g fd
  WM : ∃ g fd, WMk P w K mg base C CW g fd
  CH : ∃ g fd, FnOk P w K mg base CX0 3 g fd ["self", "state"] (spWCh K C CW) ∧ Meth K CW "changed" g ∧ Binds K fd ["self", "state"] []
  WC : WorldC K CW
abbrev nB : List Str := ["_law_script", "_law_h", "_law_turn", "_law_drawn_here", "_law_state", "_law_house_here", "_law_step", "_law_lines", "_law_hand", "_law_items_here", "_law_some", "_law_item", "_law_deed"]
theorem scLawB : FnScope ["_law_script", "_law_h", "_law_turn", "_law_drawn_here", "_law_state", "_law_house_here", "_law_step", "_law_lines", "_law_hand", "_law_items_here", "_law_some", "_law_item", "_law_deed"] ["_law_script"] (defScope sLawB) := ⟨rfl, rfl, rfl, by decide +kernel, rfl, by decide +kernel, by decide +kernel⟩
def spLawB (K : PySem.W.Frag) : Sp := fun vs H Q _ => ∃ (a : Addr) (ns : List Int), vs = [.ref a] ∧ SqL K H a (ns.map V.int) ∧ ns.length ≤ 63 ∧ ∀ H', Q (.bl true) H'
theorem ok_lawB {f C CW : Addr} {fd : FuncData} (F : Fun K "law" "law" sLawB f fd) (L : LawB P w K mg base C CW) (B : Bt mg) : FnOk P w K mg base CX0 12 f fd ["_law_script"] (spLawB K) := by
  refine F.ok scLawB (fun vs H Q E h => ?_) (fun cdv A outer s H vs Q E hr h => ?_)
  · obtain ⟨a, ns, rfl, _⟩ := h
    rfl
  · obtain ⟨sc, ns, rfl, hS, hl, k⟩ := h
    have hr1 : Room 1 _ := hr.mono (by decide)
    have hr2 : Room 2 _ := hr.mono (by decide)
    have hr3 : Room 3 _ := hr.mono (by decide)
    have hr4 : Room 4 _ := hr.mono (by decide)
    have hr7 : Room 7 _ := hr.mono (by decide)
    obtain ⟨gMI, fdMI, MI⟩ := L.MI
    obtain ⟨gNX, fdNX, NX⟩ := L.NX
    obtain ⟨gDN, fdDN, DN⟩ := L.DN
    obtain ⟨gHM, fdHM, HM⟩ := L.HM
    obtain ⟨gIT, fdIT, IT⟩ := L.IT
    obtain ⟨gPL, fdPL, PL⟩ := L.PL
    obtain ⟨gLS, fdLS, LS⟩ := L.LS
    obtain ⟨gAL, fdAL, AL⟩ := L.AL
    obtain ⟨gKN, fdKN, KNw⟩ := L.KN
    obtain ⟨gMA, fdMA, MA⟩ := L.MA
    obtain ⟨gDO, fdDO, DO⟩ := L.DO
    obtain ⟨gBO, fdBO, BO⟩ := L.BO
    obtain ⟨gWM, fdWM, WM⟩ := L.WM
    obtain ⟨gCH, fdCH, CHG, CHm, CHb⟩ := L.CH
    have WC := L.WC
    have hu : (cxOf CX0 P w K mg base ["_law_script", "_law_h", "_law_turn", "_law_drawn_here", "_law_state", "_law_house_here", "_law_step", "_law_lines", "_law_hand", "_law_items_here", "_law_some", "_law_item", "_law_deed"] "law" (defScope sLawB) f cdv A outer s H E).nox.A.units + 64 < cLine := by have := hr.un; show (A.deeper _).units + 64 < cLine; omega
    refine ⟨_, (pss_cons (ps_set (i := 1) scLawB.nd rfl (.inl rfl) (pe_call MI.G hr1 rfl MI.m MI.k MI.b .nil pass0 (pa_cons (pv 0) (pa_cons pe_int pa_nil)))) (pss_cons (ps_for PassesOwn.never rfl (pi_range1 rfl B.rng (pa_cons pe_int pa_nil)) (pg_name (i := 2) scLawB.nd rfl (.inl rfl)) (pss_cons (ps_set (i := 3) scLawB.nd rfl (.inl rfl) (pe_call DN.G hr2 rfl DN.m DN.k DN.b .nil pass0 (pa_cons (pv 1) (pa_cons pe_int pa_nil)))) (pss_cons (ps_asg (pe_tup (pa_cons (pe_tup (pa_cons (pe_ix ix_tup (pv 3) pe_int (fun _ _ => rfl)) (pa_cons (pe_ix ix_tup (pv 3) pe_int (fun _ _ => rfl)) (pa_cons (pe_ix ix_tup (pv 3) pe_int (fun _ _ => rfl)) pa_nil)))) (pa_cons (pe_call HM.G hr7 rfl HM.m HM.k HM.b .nil pass0 (pa_cons (pv 3) pa_nil)) pa_nil))) (pg_tup (by rfl) (pgs_cons (pg_name (i := 4) scLawB.nd rfl (.inr rfl)) (pgs_cons (pg_name (i := 5) scLawB.nd rfl (.inl rfl)) pgs_nil)))) (pss_one (ps_for PassesOwn.never rfl (pi_range1 rfl B.rng (pa_cons pe_int pa_nil)) (pg_name (i := 6) scLawB.nd rfl (.inl rfl)) (pss_cons (ps_set (i := 7) scLawB.nd rfl (.inl rfl) (pe_lst pa_nil)) (pss_cons (ps_for PassesOwn.never rfl (pi_range1 rfl B.rng (pa_cons (pe_ix ix_tup (pv 3) pe_int (fun _ _ => rfl)) pa_nil)) (pg_name (i := 8) scLawB.nd rfl (.inr rfl)) (pss_cons (ps_setLc (i := 9) (own := [("_law_item", 11)]) (g := gName 11) (tt := (tTest (tOp (rEqD K) (tCall (spWhere K) [] E0 (tCons (tVar 4) (tCons (tVar 11) tNil))) (tTup (tCons (tC (.str ("hand" : Str))) (tCons (tVar 8) tNil)))))) (te := (tVar 11)) rfl scLawB.nd rfl rfl (sw_true rfl rfl rfl (by decide +kernel)) (pi_list (pe_call IT.G hr1 rfl IT.m IT.k IT.b .nil pass0 (pa_cons (pv 3) pa_nil))) (blkOk_by (own := [("_law_item", 11)]) (N := ["_law_script", "_law_h", "_law_turn", "_law_drawn_here", "_law_state", "_law_house_here", "_law_step", "_law_lines", "_law_hand", "_law_items_here", "_law_some", "_law_item", "_law_deed"]) (sc := defScope sLawB) (by decide +kernel)) (fun _ _ _ _ _ => pg_name (i := 11) scLawB.nd rfl (.inl rfl)) (fun _ _ _ _ _ => pts_one (pt_cmpR (op_eqD hu) (pe_call PL.G hr1 rfl PL.m PL.k PL.b .nil pass0 (pa_cons (pv 4) (pa_cons (pv 11) pa_nil))) (pe_tup (pa_cons pe_str (pa_cons (pv 8) pa_nil))) (nomark _))) (fun _ _ _ _ _ => (pv 11))) (pss_one (ps_expr (pe_bm PySem.F.plainAttrs_list PySem.F.slot_list_append PySem.F.type_list_append mt_append (pv 7) (pa_cons (pe_op op_add_str (pe_op op_add_str (pe_op op_add_str (pe_op op_add_str pe_str (pe_callTy call_str_int (by rfl) B.str (by decide +kernel) (pa_cons (pv 8) pa_nil))) pe_str) (pe_ifExp (pt_cmpR (op_neD hu) (pv 9) (pe_lst pa_nil) (nomark _)) pe_str pe_str)) (pe_call LS.G hr4 rfl LS.m LS.k LS.b .nil pass0 (pa_cons (pv 4) (pa_cons (pv 9) pa_nil)))) pa_nil)))))) (pss_cons (ps_if (pt_not (pt_val (pe_call AL.G hr1 rfl AL.m AL.k AL.b .nil pass0 (pa_cons (pe_call BO.G hr rfl BO.m BO.k BO.b .nil pass0 (pa_cons (pe_meth (pe_make WM.M WM.G hr2 rfl WM.m WM.b .nil pass0 (pa_cons (pv 5) pa_nil)) WC.cl CHm CHG hr3 CHb .nil pass0 (pa_cons (pv 4) pa_nil)) pa_nil)) (pa_cons (pe_join pe_str (pv 7)) pa_nil))))) (pss_one (ps_ret pe_bl)) pss_nil) (pss_cons (ps_setLc (i := 10) (own := [("_law_deed", 12)]) (g := gName 12) (tt := (tTest (tCall (spMay K) [] E0 (tCons (tVar 4) (tCons (tVar 12) tNil))))) (te := (tVar 12)) rfl scLawB.nd rfl rfl (sw_true rfl rfl rfl (by decide +kernel)) (pi_list (pe_call KNw.G hr2 rfl KNw.m KNw.k KNw.b .nil pass0 (pa_cons (pv 3) (pa_cons (pe_listRg rfl (by rfl) B.lst (prg_1 (by rfl) B.rng (pe_ix ix_tup (pv 3) pe_int (fun _ _ => rfl)))) pa_nil)))) (blkOk_by (own := [("_law_deed", 12)]) (N := ["_law_script", "_law_h", "_law_turn", "_law_drawn_here", "_law_state", "_law_house_here", "_law_step", "_law_lines", "_law_hand", "_law_items_here", "_law_some", "_law_item", "_law_deed"]) (sc := defScope sLawB) (by decide +kernel)) (fun _ _ _ _ _ => pg_name (i := 12) scLawB.nd rfl (.inl rfl)) (fun _ _ _ _ _ => pts_one (pt_val (pe_call MA.G hr2 rfl MA.m MA.k MA.b .nil pass0 (pa_cons (pv 4) (pa_cons (pv 12) pa_nil))))) (fun _ _ _ _ _ => (pv 12))) (pss_one (ps_set (i := 4) scLawB.nd rfl (.inr rfl) (pe_ifExp (pt_cmpR (op_neD hu) (pv 10) (pe_lst pa_nil) (nomark _)) (pe_call DO.G hr2 rfl DO.m DO.k DO.b .nil pass0 (pa_cons (pv 4) (pa_cons (pe_ix ix_list (pv 10) (pe_call NX.G hr1 rfl NX.m NX.k NX.b .nil pass0 (pa_cons (pv 1) (pa_cons (pe_callB call_len_seq (by rfl) B.len PySem.boot_len (pa_cons (pv 10) pa_nil)) pa_nil))) (fun _ _ => rfl)) pa_nil))) (pv 4))))))))))))) (pss_one (ps_ret pe_bl)))), ?_⟩
    refine ⟨_, rfl, sc, 49, ns, rfl, hS, hl, fun h c H1 e1 hB => ?_⟩
    refine ⟨4, rfl, by decide, by decide, for_range (lo := 0) (n := 4) (fun i σ Hn => ∃ v2 v3 v4 v5 v6 v7 v8 v9 v10 : Option V, σ = [some (.ref sc), some (.ref h), v2, v3, v4, v5, v6, v7, v8, v9, v10, none, none] ∧ HAt Hn h c) ⟨none, none, none, none, none, none, none, none, none, rfl, hB⟩ ?_ (fun σ Hn hq => k _)⟩
    rintro i σ Hn hi ⟨v2, v3, v4, v5, v6, v7, v8, v9, v10, rfl, hBn⟩
    refine ⟨_, rfl, h, c, 6, rfl, by decide, by decide, hBn, fun x d0 H2 dx ok0 h3 b2 l6 hB2 k2 => ?_⟩
    obtain ⟨da, w1, w2, w3, rfl, sda, dw1, dw2, dw3⟩ := dr_at dx
    refine ⟨_, rfl, da, _, 1, _, rfl, rfl, sda, rfl, _, rfl, da, _, 2, _, rfl, rfl, sda, rfl, _, rfl, da, _, 3, _, rfl, rfl, sda, rfl, (by show 3 ≤ sizeLine; decide), fun st0 hst0 => ?_⟩
    have f2 := same_upd (o := HO.tup [w1, w2, w3]) hst0
    refine ⟨_, rfl, _, d0, rfl, Dp.same f2 _ _ dx, ok0, fun hh H3 e3 hh3 => ⟨(by show 2 ≤ sizeLine; decide), fun t ht => ?_⟩⟩
    have f3 := same_upd (o := HO.tup [V.ref st0, V.ref hh]) ht
    refine ⟨t, _, rfl, SqT.of upd_same, rfl, _, _, rfl, _, _, rfl, rfl, ?_⟩
    have f23 := (f2.trans e3).trans f3
    have dst : Dp K (L2.upd H3 t (.tup [V.ref st0, V.ref hh])) (.ref st0) (stD d0) := .tup (SqT.of ((e3.trans f3) _ _ upd_same)) (.cons (Dp.same f23 _ _ dw1) (.cons (Dp.same f23 _ _ dw2) (.cons (Dp.same f23 _ _ dw3) .nil)))
    have dx4 := Dp.same f23 _ _ dx
    have hh4 := HouseAt.nl (nl_same f3) hh3
    have hB4 := hB2.same f23
    generalize L2.upd H3 t (.tup [V.ref st0, V.ref hh]) = H4 at *
    have n0 := ok0.h0
    obtain ⟨n, hn⟩ : ∃ n : Nat, d0.hands = (n : Int) := ⟨d0.hands.toNat, by omega⟩
    have n3 : n ≤ 3 := by omega
    have t1 := ok0.t1
    have s1 := ok0.s1
    refine ⟨4, rfl, by decide, by decide, for_range (lo := 0) (n := 4) (fun j σ Hm => ∃ (vs : V) (d : Hs) (v6 v7 v8 v9 v10 : Option V), σ = [some (.ref sc), some (.ref h), some (V.int (0 + (i : Int))), some (.ref da), some vs, some (.ref hh), v6, v7, v8, v9, v10, none, none] ∧ HAt Hm h c ∧ Dp K Hm (.ref da) (drD d0) ∧ Dp K Hm vs (stD d) ∧ HouseAt K C Hm hh d0 ∧ Shp d0 d ∧ Wf d)
      ⟨_, d0, _, _, _, _, _, rfl, hB4, dx4, dst, hh4, Shp.refl _, ok0.wf⟩ ?_ (fun σ Hm hq => by
        obtain ⟨vs, d, v6, v7, v8, v9, v10, rfl, hBm, _⟩ := hq
        exact ⟨_, _, _, _, _, _, _, _, _, rfl, hBm⟩)⟩
    rintro j σ Hm hj ⟨vs, d, v6, v7, v8, v9, v10, rfl, hBm, dxm, dsm, hhm, shp, wf⟩
    have rb := shp.r .box
    have rt := shp.r .thing
    have rs := shp.r .sl
    simp only [rowOf] at rb rt rs
    have sz : Sz d := ⟨by omega, by omega, by omega⟩
    have b2d : d.bs.length ≤ 2 := by omega
    have l5 := sizeLine_eq
    refine ⟨(by show 0 ≤ sizeLine; decide), fun Ln hLn => ?_⟩
    have f7 := same_upd (o := HO.lst []) hLn
    obtain ⟨da', w1', w2', w3', eda, sdm, _, _, _⟩ := dr_at dxm
    cases eda
    refine ⟨_, rfl, da, _, 0, _, rfl, rfl, SqT.same f7 sdm, rfl, d0.hands, rfl, by omega, by omega, ?_⟩
    rw [show d0.hands.toNat = n by omega]
    refine for_range (lo := 0) (n := n) (fun m σ H' => ∃ v8 v9 : Option V, σ = [some (.ref sc), some (.ref h), some (V.int (0 + (i : Int))), some (.ref da), some vs, some (.ref hh), some (V.int (0 + (j : Int))), some (.ref Ln), v8, v9, v10, none, none] ∧ Same Hm H' ∧ H' Ln = some (.lst ((List.range m).map fun i => V.str (lineS d i)))) ⟨_, _, rfl, f7, upd_same⟩ ?_ ?_
    · rintro m σ H5 hm ⟨v8, v9, rfl, e5, hL5⟩
      rw [Int.zero_add]
      refine ⟨_, rfl, _, d0, rfl, Dp.same e5 _ _ dxm, ok0.ls, fun pI xI H6 e6 _ hI dI => ⟨pI, rfl, ⟨_, SqL.of hI⟩, fun D hD => ?_⟩⟩
      have e56 := e5.trans e6
      have lI : xI.length ≤ 10 := by rw [DpAll.len dI, List.length_map, allI_len]; omega
      refine lc_fltI (K := K) (fun p => decide (whereD d p = some (.hand, (m : Int)))) (by show 11 < 13; decide) (SqL.of hI) dI (by omega) hD (fun x p H7 T hp dp e7 hT => ?_) (fun H7 zs e7 hz dz => ?_)
      · rw [allI_shp shp] at hp
        have hp2 := allI_get hp
        obtain ⟨q, hq⟩ : ∃ q, whereD d p = some q := ⟨_, List.getElem?_eq_getElem hp2⟩
        refine wCmpJ (p := p) (q := q) (q2 := (.hand, (m : Int))) rfl (Dp.same (e56.trans e7) _ _ dsm) (fun R hR => ⟨_, rfl, hR _ _ (Same.refl _) dp⟩) hq (fun H8 e8 R hR => ⟨_, rfl, (by show 2 ≤ sizeLine; decide), fun t ht => hR _ _ (same_upd ht) (.tup (SqT.of upd_same) (.cons (.str _) (.cons (.int _) .nil)))⟩) fun H8 e8 => ⟨_, rfl, ?_⟩
        have := hT H8 e8
        rw [hq] at this
        simpa using this
      rw [allI_shp shp, held_flt] at dz
      have e57 := e56.trans e7
      have hL7 := (e6.trans e7) _ _ hL5
      have dsm7 := Dp.same e57 _ _ dsm
      have nn := num_len (n := m) (by omega)
      have nn' : (Str.ofString (toString ((m : Nat) : Int))).length ≤ 4 := nn
      have q1 : ("hand " : Str).length = 5 := by decide +kernel
      have q2 : (":" : Str).length = 1 := by decide +kernel
      have q3 : (" " : Str).length = 1 := by decide +kernel
      have q4 : ("" : Str).length = 0 := by decide +kernel
      have okl : ∀ p ∈ heldL d (.hand, (m : Int)), ItOk 2 d p := fun p hp => held_ok wf b2d hp
      have lth := held_len sz (.hand, (m : Int))
      have ltx := txts_len sz (ps := heldL d (.hand, (m : Int))) okl lth
      refine ⟨_, rfl, .inl ⟨rfl, _, SqL.of hL7⟩, _, rfl, _, rfl, log2_small (by omega) (by omega), _, _, rfl, rfl, by omega, _, _, rfl, rfl, (by rw [str_app]; omega), ?_⟩
      refine ⟨_, rfl, (by show 0 ≤ sizeLine; decide), fun pe hpe => ?_⟩
      have f8 := same_upd (o := HO.lst []) hpe
      have hz8 := f8 _ _ hz
      have dz8 : DpAll K (L2.upd H7 pe (.lst [])) zs ((heldL d (.hand, (m : Int))).map itP) := Dp.sames f8 _ _ dz
      refine ⟨.list ((heldL d (.hand, (m : Int))).map itP), .list [], .lst (SqL.of hz8) dz8, .lst (SqL.of upd_same) .nil, shaped_itsL _, by decide, _, rfl, ?_⟩
      rw [eqv_nilL]
      -- the line
      have fin : ∀ (H' : Hp) (out : Str), Same (L2.upd H7 pe (.lst [])) H' → out = lineS d m → rAppend (.ref Ln) [.str out] H' (fun _ H' => ∃ v8 v9 : Option V, [some (V.ref sc), some (.ref h), some (V.int (0 + (i : Int))), some (.ref da), some vs, some (.ref hh), some (V.int (0 + (j : Int))), some (.ref Ln), some (V.int (m : Int)), some (V.ref D), v10, none, none] = [some (V.ref sc), some (.ref h), some (V.int (0 + (i : Int))), some (.ref da), some vs, some (.ref hh), some (V.int (0 + (j : Int))), some (.ref Ln), v8, v9, v10, none, none] ∧ Same Hm H' ∧ H' Ln = some (.lst ((List.range (m + 1)).map fun i => V.str (lineS d i)))) := fun H' out e' eo => by
        refine ⟨Ln, _, _, rfl, rfl, (f8.trans e') _ _ hL7, by rw [List.length_map, List.length_range]; omega, _, _, rfl, fun b o hb => ?_, ?_⟩
        · rw [upd_ne (ne_of_none hb hLn)]
          exact (f8.trans e') _ _ (e57 _ _ hb)
        · rw [List.range_succ, List.map_append, eo]
          exact upd_same
      by_cases e3 : heldL d (.hand, (m : Int)) = []
      · have ez : txts 2 d (heldL d (.hand, (m : Int))) = ("" : Str) := (txts_ne sz okl).mpr e3
        refine iteFe (by rw [e3]; rfl) ⟨_, _, rfl, rfl, (by rw [str_app, str_app]; omega), ?_⟩
        refine ⟨_, rfl, _, rfl, vs, D, zs, _, d, rfl, Dp.same f8 _ _ dsm7, sz, SqL.of hz8, dz8, by omega, okl, fun H9 e9 => ⟨_, _, rfl, rfl, (by rw [str_app, str_app, str_app]; omega), ?_⟩⟩
        refine fin H9 _ e9 ?_
        unfold lineS
        rw [if_pos e3, ez, app_empty, app_empty]
        rfl
      · refine iteTe (by rw [decide_eq_false (fun z => e3 (List.map_eq_nil_iff.mp z))]; rfl) ⟨_, _, rfl, rfl, (by rw [str_app, str_app]; omega), ?_⟩
        refine ⟨_, rfl, _, rfl, vs, D, zs, _, d, rfl, Dp.same f8 _ _ dsm7, sz, SqL.of hz8, dz8, by omega, okl, fun H9 e9 => ⟨_, _, rfl, rfl, (by rw [str_app, str_app, str_app]; omega), ?_⟩⟩
        refine fin H9 _ e9 ?_
        unfold lineS
        rw [if_neg e3, str_assoc _ (":" : Str) (" " : Str)]
        rfl
    · rintro σ H5 ⟨v8, v9, rfl, e5, hL5⟩
      have dx5 := Dp.same e5 _ _ dxm
      have ds5 := Dp.same e5 _ _ dsm
      have hh5 := HouseAt.nl (nl_same e5) hhm
      have hB5 := hBm.same e5
      -- board and lines
      refine ⟨_, rfl, fun a dy ha hdy ne => ?_⟩
      have ha' : (L2.upd H5 dy (.own a)) a = none := by rw [upd_ne ne.symm]; exact ha
      have g1 : Same H5 (L2.upd (L2.upd H5 dy (.own a)) a (.ins CW dy [])) := Same.upd2 (same_upd hdy) ha'
      refine ⟨a, dy, hh, d0, rfl, upd_same, hh5.nl (nl_same g1), fun H6 bt hw6 hl6 => ⟨rfl, ?_⟩⟩
      have e6 : Same H5 H6 := fun b o hb => bt b o (g1 b o hb) (ne_of_none hb ha)
      obtain ⟨dz, fz, vz, z0, z1, z2, z3, z4, z5⟩ := hw6.ex
      refine ⟨a, dz, fz, rfl, z0, z3 "changed" (by decide +kernel) (by decide +kernel), _, rfl, a, hh, vs, d0, d0, d, rfl, hw6, hh5.nl (nl_same e6), Dp.same e6 _ _ ds5, fun b H7 e7 _ hwb => ?_⟩
      have e67 := e6.trans e7
      refine ⟨b, hh, n, d0, d, rfl, ⟨hwb, hh5.nl (nl_same e67), shp, sz.ls⟩, sz, wf, b2d, hn, by omega, fun H8 e8 => ?_⟩
      have e68 := e67.trans e8
      have hL8 := e68 _ _ hL5
      have b1 := sum_len (ys := (List.range n).map (lineS d)) (B := 300000) fun y hy => by
        obtain ⟨i, hi, rfl⟩ := List.mem_map.mp hy
        exact line_len sz wf b2d (by have := List.mem_range.mp hi; omega)
      rw [List.length_map, List.length_range] at b1
      have q1 : ("\n" : Str).length = 1 := by decide +kernel
      refine ⟨⟨_, rfl⟩, _, rfl, _, Ln, (List.range n).map (lineS d), rfl, rfl, .inl (SqL.of (by rw [List.map_map]; exact hL8)), (by rw [List.length_map, List.length_range, q1]; omega), ?_⟩
      refine ⟨boardS d n, rfl, fun H9 e9 => ⟨true, rfl, iteFe rfl ?_⟩⟩
      have e59 := e68.trans e9
      -- what can be done
      refine ⟨_, rfl, _, rfl, da, _, 0, _, rfl, rfl, SqT.same (e5.trans e59) sdm, rfl, d0.hands, rfl, RgOk.of_le (by omega) (by omega) (by omega) (by omega), fun pr hpr => ?_⟩
      have f10 := same_upd (o := HO.lst (rgV 0 d0.hands)) hpr
      have e510 := e59.trans f10
      refine ⟨_, pr, d0, List.range n, rfl, Dp.same e510 _ _ dx5, SqL.of (by rw [upd_same, hn, rg_nv]), by rw [List.length_range]; omega, fun u hu => by have := List.mem_range.mp hu; omega, by omega, by omega, by omega, by omega, fun p xs H11 e11 hp lx rx => ⟨p, rfl, ⟨_, SqL.of hp⟩, fun D hD => ?_⟩⟩
      have e511 := e510.trans e11
      refine lc_mk (K := K) (fun v H => DdV K d v H) (fun _ _ _ k h => h.nl k) (SqL.of hp) (by omega) hD (fun m x H' N Y hm e hN hY => ?_) (fun H12 zs e12 hz lz rz => ?_)
      · obtain ⟨ed, he1, he2⟩ := (rx x (List.mem_of_getElem? hm)).nl (nl_same e)
        have kn := Kn.shp shp he2.1.1
        have hb := Hb.shp shp he2.1.2
        exact ⟨_, rfl, _, rfl, vs, x, d, ed, rfl, Dp.same (e511.trans e) _ _ ds5, he1, kn, by have := sz.s; omega, fun b H'' e'' hbar => ⟨_, rfl, ite_b _ (fun z => ⟨_, rfl, hY _ _ e'' ⟨ed, Dp.same e'' _ _ he1, ⟨kn, hb, hbar z⟩, he2.2⟩⟩) (fun _ => hN _ e'')⟩⟩
      have e512 := e511.trans e12
      obtain ⟨es, hes⟩ := dds_all rz
      refine ⟨_, rfl, (by show 0 ≤ sizeLine; decide), fun pe hpe => ?_⟩
      have f13 := same_upd (o := HO.lst []) hpe
      have e513 := e512.trans f13
      have hz13 := f13 _ _ hz
      have hes13 : DpAll K (L2.upd H12 pe (.lst [])) zs (es.map ddD) := Dp.sames f13 _ _ hes
      refine ⟨.list (es.map ddD), .list [], .lst (SqL.of hz13) hes13, .lst (SqL.of upd_same) .nil, shaped_dds _, by decide, _, rfl, ?_⟩
      rw [eqv_nilL]
      have dx13 := Dp.same e513 _ _ dx5
      have ds13 := Dp.same e513 _ _ ds5
      have hh13 := hh5.nl (nl_same e513)
      have hB13 := hB5.same e513
      have rz13 : ∀ z ∈ zs, DdV K d z (L2.upd H12 pe (.lst [])) := fun z hz => (rz z hz).nl (nl_same f13)
      have hzB : zs ≠ [] → D ≠ h ∧ D ≠ c := fun _ => (hB5.same e511).neL hD
      generalize L2.upd H12 pe (.lst []) = H13 at *
      have lzs := DpAll.len hes13
      rw [List.length_map] at lzs
      by_cases e3 : zs = []
      · have ee : es = [] := List.length_eq_zero_iff.mp (by rw [← lzs, e3]; rfl)
        refine iteFe (by rw [ee]; rfl) ⟨_, rfl, ?_⟩
        exact ⟨vs, d, _, _, _, _, _, rfl, hB13, dx13, ds13, hh13, shp, wf⟩
      · have ee : es ≠ [] := fun z => e3 (List.length_eq_zero_iff.mp (by rw [lzs, z]; rfl))
        have zp : 0 < zs.length := List.length_pos_iff.mpr e3
        obtain ⟨nDh, nDc⟩ := hzB e3
        refine iteTe (by rw [decide_eq_false (fun z => ee (List.map_eq_nil_iff.mp z))]; rfl) ⟨_, rfl, _, rfl, _, rfl, _, rfl, D, zs, rfl, .inl (SqL.of hz13), h, c, ((zs.length : Nat) : Int), rfl, by omega, by omega, hB13, fun r H14 r0 r1 hB14 k14 => ?_⟩
        have hz14 := k14.kp.ls _ _ hz13 nDh nDc
        obtain ⟨u, rfl⟩ : ∃ u : Nat, r = (u : Int) := ⟨r.toNat, by omega⟩
        have ul : u < zs.length := by omega
        obtain ⟨v, hv⟩ : ∃ v, zs[u]? = some v := ⟨_, List.getElem?_eq_getElem ul⟩
        obtain ⟨ed, he1, ⟨kn, hb, bar⟩, _⟩ := (rz13 v (List.mem_of_getElem? hv)).nl k14.nl
        refine ⟨D, zs, _, v, rfl, rfl, SqL.of hz14, atI_nat hv, vs, v, d, ed, rfl, Dp.nl k14.nl _ _ (noL_st d) ds13, he1, kn, bar, by have := sz.s; omega, fun v' H15 e15 hs15 => ?_⟩
        exact ⟨v', nextOf d ed, _, _, _, _, _, rfl, hB14.same e15, Dp.same e15 _ _ (Dp.nl k14.nl _ _ (noL_dr d0) dx13), hs15.dp, (hh13.nl k14.nl).nl (nl_same e15), shp.trans (Shp.next d ed), wf.next kn hb bar⟩
end
end Kw

set_option Elab.async false
set_option linter.all false
set_option maxRecDepth 100000
set_option maxHeartbeats 4000000
namespace Kw
open PySem PySem.Spec PyProof.Rows L2
theorem all_mk {l : PySem.W.OpenLaw} {w : World} {K : PySem.W.Frag} {h : Heap} {mg : Str → Option Value} {fa : Addr} (X : K.In h) (G : h.Ns mainGlobals mg) (hfa : mg "law" = some (.ref fa))
    {C CW : Addr}
    {CUnknownHand : Addr}
    {CUnknownBox : Addr}
    {CInvalidHouse : Addr}
    {fm0 : Addr} {ocm0 kVm0 dcm0 pmm0 cdm0 ctm0 : Value} {odm0 anm0 : Option Addr} {slm0 : Array (Option Value)}
    {fm1 : Addr} {ocm1 kVm1 dcm1 pmm1 cdm1 ctm1 : Value} {odm1 anm1 : Option Addr} {slm1 : Array (Option Value)}
    {fm2 : Addr} {ocm2 kVm2 dcm2 pmm2 cdm2 ctm2 : Value} {odm2 anm2 : Option Addr} {slm2 : Array (Option Value)}
    {fm3 : Addr} {ocm3 kVm3 dcm3 pmm3 cdm3 ctm3 : Value} {odm3 anm3 : Option Addr} {slm3 : Array (Option Value)}
    {fm4 : Addr} {ocm4 kVm4 dcm4 pmm4 cdm4 ctm4 : Value} {odm4 anm4 : Option Addr} {slm4 : Array (Option Value)}
    {fm5 : Addr} {ocm5 kVm5 dcm5 pmm5 cdm5 ctm5 : Value} {odm5 anm5 : Option Addr} {slm5 : Array (Option Value)}
    {fm6 : Addr} {ocm6 kVm6 dcm6 pmm6 cdm6 ctm6 : Value} {odm6 anm6 : Option Addr} {slm6 : Array (Option Value)}
    {fm7 : Addr} {ocm7 kVm7 dcm7 pmm7 cdm7 ctm7 : Value} {odm7 anm7 : Option Addr} {slm7 : Array (Option Value)}
    {fm8 : Addr} {ocm8 kVm8 dcm8 pmm8 cdm8 ctm8 : Value} {odm8 anm8 : Option Addr} {slm8 : Array (Option Value)}
    {fm9 : Addr} {ocm9 kVm9 dcm9 pmm9 cdm9 ctm9 : Value} {odm9 anm9 : Option Addr} {slm9 : Array (Option Value)}
    {fm10 : Addr} {ocm10 kVm10 dcm10 pmm10 cdm10 ctm10 : Value} {odm10 anm10 : Option Addr} {slm10 : Array (Option Value)}
    {fm11 : Addr} {ocm11 kVm11 dcm11 pmm11 cdm11 ctm11 : Value} {odm11 anm11 : Option Addr} {slm11 : Array (Option Value)}
    {fm12 : Addr} {ocm12 kVm12 dcm12 pmm12 cdm12 ctm12 : Value} {odm12 anm12 : Option Addr} {slm12 : Array (Option Value)}
    {fm13 : Addr} {ocm13 kVm13 dcm13 pmm13 cdm13 ctm13 : Value} {odm13 anm13 : Option Addr} {slm13 : Array (Option Value)}
    {fm14 : Addr} {ocm14 kVm14 dcm14 pmm14 cdm14 ctm14 : Value} {odm14 anm14 : Option Addr} {slm14 : Array (Option Value)}
    {fm15 : Addr} {ocm15 kVm15 dcm15 pmm15 cdm15 ctm15 : Value} {odm15 anm15 : Option Addr} {slm15 : Array (Option Value)}
    {fm16 : Addr} {ocm16 kVm16 dcm16 pmm16 cdm16 ctm16 : Value} {odm16 anm16 : Option Addr} {slm16 : Array (Option Value)}
    {fm17 : Addr} {ocm17 kVm17 dcm17 pmm17 cdm17 ctm17 : Value} {odm17 anm17 : Option Addr} {slm17 : Array (Option Value)}
    {fm18 : Addr} {ocm18 kVm18 dcm18 pmm18 cdm18 ctm18 : Value} {odm18 anm18 : Option Addr} {slm18 : Array (Option Value)}
    {fm19 : Addr} {ocm19 kVm19 dcm19 pmm19 cdm19 ctm19 : Value} {odm19 anm19 : Option Addr} {slm19 : Array (Option Value)}
    {fm20 : Addr} {ocm20 kVm20 dcm20 pmm20 cdm20 ctm20 : Value} {odm20 anm20 : Option Addr} {slm20 : Array (Option Value)}
    {fm21 : Addr} {ocm21 kVm21 dcm21 pmm21 cdm21 ctm21 : Value} {odm21 anm21 : Option Addr} {slm21 : Array (Option Value)}
    {fm22 : Addr} {ocm22 kVm22 dcm22 pmm22 cdm22 ctm22 : Value} {odm22 anm22 : Option Addr} {slm22 : Array (Option Value)}
    {fm23 : Addr} {ocm23 kVm23 dcm23 pmm23 cdm23 ctm23 : Value} {odm23 anm23 : Option Addr} {slm23 : Array (Option Value)}
    {fm24 : Addr} {ocm24 kVm24 dcm24 pmm24 cdm24 ctm24 : Value} {odm24 anm24 : Option Addr} {slm24 : Array (Option Value)}
    {fm25 : Addr} {ocm25 kVm25 dcm25 pmm25 cdm25 ctm25 : Value} {odm25 anm25 : Option Addr} {slm25 : Array (Option Value)}
    {fm26 : Addr} {ocm26 kVm26 dcm26 pmm26 cdm26 ctm26 : Value} {odm26 anm26 : Option Addr} {slm26 : Array (Option Value)}
    {fm27 : Addr} {ocm27 kVm27 dcm27 pmm27 cdm27 ctm27 : Value} {odm27 anm27 : Option Addr} {slm27 : Array (Option Value)}
    {fm28 : Addr} {ocm28 kVm28 dcm28 pmm28 cdm28 ctm28 : Value} {odm28 anm28 : Option Addr} {slm28 : Array (Option Value)}
    {ft0 : Addr} {oct0 kVt0 dct0 pmt0 cdt0 ctt0 : Value} {odt0 ant0 : Option Addr} {slt0 : Array (Option Value)}
    {ft1 : Addr} {oct1 kVt1 dct1 pmt1 cdt1 ctt1 : Value} {odt1 ant1 : Option Addr} {slt1 : Array (Option Value)}
    {ft2 : Addr} {oct2 kVt2 dct2 pmt2 cdt2 ctt2 : Value} {odt2 ant2 : Option Addr} {slt2 : Array (Option Value)}
    {ft3 : Addr} {oct3 kVt3 dct3 pmt3 cdt3 ctt3 : Value} {odt3 ant3 : Option Addr} {slt3 : Array (Option Value)}
    {ft4 : Addr} {oct4 kVt4 dct4 pmt4 cdt4 ctt4 : Value} {odt4 ant4 : Option Addr} {slt4 : Array (Option Value)}
    {ft5 : Addr} {oct5 kVt5 dct5 pmt5 cdt5 ctt5 : Value} {odt5 ant5 : Option Addr} {slt5 : Array (Option Value)}
    {nmInvalidHouse qInvalidHouse : Str} {NInvalidHouse : Addr} {bsInvalidHouse bmInvalidHouse subInvalidHouse : List Value} {snInvalidHouse : List Str} {abInvalidHouse : Bool} {colInvalidHouse : Option Bool} {ddInvalidHouse : Option Addr} {g0InvalidHouse g1InvalidHouse g2InvalidHouse g3InvalidHouse g5InvalidHouse : Option Value}
    {fIInvalidHouse cdaInvalidHouse ccInvalidHouse : Addr} {ocIInvalidHouse kVIInvalidHouse dcIInvalidHouse pmIInvalidHouse ctIInvalidHouse : Value} {odIInvalidHouse anIInvalidHouse : Option Addr} {slIInvalidHouse : Array (Option Value)} {vsCInvalidHouse : Array Value} {filInvalidHouse : Str} {tfInvalidHouse : Tok} {cclInvalidHouse clInvalidHouse : Value} {cddInvalidHouse cldInvalidHouse : Option Addr} {ccsInvalidHouse cslInvalidHouse : Array (Option Value)}
    {th tbx tth ts : Tok}
    (aC : PySem.W.nsIn K mainGlobals "House" = some (some (.ref C)))
    (aCW : PySem.W.nsIn K mainGlobals "World" = some (some (.ref CW)))
    (nUnknownHand : PySem.W.nsIn K mainGlobals "UnknownHand" = some (some (.ref CUnknownHand)))
    (nUnknownBox : PySem.W.nsIn K mainGlobals "UnknownBox" = some (some (.ref CUnknownBox)))
    (nInvalidHouse : PySem.W.nsIn K mainGlobals "InvalidHouse" = some (some (.ref CInvalidHouse)))
    (am0 : PySem.W.nsIn K mainGlobals "is_number" = some (some (.ref fm0)))
    (lm0 : K.lookup fm0 = some ⟨ocm0, odm0, .func (PySem.W.fnOf "is_number" "is_number" (defArgs sNum) (defBody sNum) (defScope sNum) .none kVm0 dcm0 pmm0 anm0 cdm0 ctm0), slm0⟩)
    (cm0 : PySem.W.codeIn K cdm0 "is_number" = true)
    (km0 : PySem.W.keepIn K (.ref fm0) = true)
    (am1 : PySem.W.nsIn K mainGlobals "how_many" = some (some (.ref fm1)))
    (lm1 : K.lookup fm1 = some ⟨ocm1, odm1, .func (PySem.W.fnOf "how_many" "how_many" (defArgs sMany) (defBody sMany) (defScope sMany) .none kVm1 dcm1 pmm1 anm1 cdm1 ctm1), slm1⟩)
    (cm1 : PySem.W.codeIn K cdm1 "how_many" = true)
    (km1 : PySem.W.keepIn K (.ref fm1) = true)
    (am2 : PySem.W.nsIn K mainGlobals "is_place" = some (some (.ref fm2)))
    (lm2 : K.lookup fm2 = some ⟨ocm2, odm2, .func (PySem.W.fnOf "is_place" "is_place" (defArgs sIsPl) (defBody sIsPl) (defScope sIsPl) .none kVm2 dcm2 pmm2 anm2 cdm2 ctm2), slm2⟩)
    (cm2 : PySem.W.codeIn K cdm2 "is_place" = true)
    (km2 : PySem.W.keepIn K (.ref fm2) = true)
    (am3 : PySem.W.nsIn K mainGlobals "need_boxes" = some (some (.ref fm3)))
    (lm3 : K.lookup fm3 = some ⟨ocm3, odm3, .func (PySem.W.fnOf "need_boxes" "need_boxes" (defArgs sBoxes) (defBody sBoxes) (defScope sBoxes) .none kVm3 dcm3 pmm3 anm3 cdm3 ctm3), slm3⟩)
    (cm3 : PySem.W.codeIn K cdm3 "need_boxes" = true)
    (km3 : PySem.W.keepIn K (.ref fm3) = true)
    (am4 : PySem.W.nsIn K mainGlobals "need_house" = some (some (.ref fm4)))
    (lm4 : K.lookup fm4 = some ⟨ocm4, odm4, .func (PySem.W.fnOf "need_house" "need_house" (defArgs sNeed) (defBody sNeed) (defScope sNeed) .none kVm4 dcm4 pmm4 anm4 cdm4 ctm4), slm4⟩)
    (cm4 : PySem.W.codeIn K cdm4 "need_house" = true)
    (km4 : PySem.W.keepIn K (.ref fm4) = true)
    (am5 : PySem.W.nsIn K mainGlobals "need_hand" = some (some (.ref fm5)))
    (lm5 : K.lookup fm5 = some ⟨ocm5, odm5, .func (PySem.W.fnOf "need_hand" "need_hand" (defArgs sNHand) (defBody sNHand) (defScope sNHand) .none kVm5 dcm5 pmm5 anm5 cdm5 ctm5), slm5⟩)
    (cm5 : PySem.W.codeIn K cdm5 "need_hand" = true)
    (km5 : PySem.W.keepIn K (.ref fm5) = true)
    (am6 : PySem.W.nsIn K mainGlobals "need_box" = some (some (.ref fm6)))
    (lm6 : K.lookup fm6 = some ⟨ocm6, odm6, .func (PySem.W.fnOf "need_box" "need_box" (defArgs sNBox) (defBody sNBox) (defScope sNBox) .none kVm6 dcm6 pmm6 anm6 cdm6 ctm6), slm6⟩)
    (cm6 : PySem.W.codeIn K cdm6 "need_box" = true)
    (km6 : PySem.W.keepIn K (.ref fm6) = true)
    (am7 : PySem.W.nsIn K mainGlobals "seal_on" = some (some (.ref fm7)))
    (lm7 : K.lookup fm7 = some ⟨ocm7, odm7, .func (PySem.W.fnOf "seal_on" "seal_on" (defArgs sOn) (defBody sOn) (defScope sOn) .none kVm7 dcm7 pmm7 anm7 cdm7 ctm7), slm7⟩)
    (cm7 : PySem.W.codeIn K cdm7 "seal_on" = true)
    (km7 : PySem.W.keepIn K (.ref fm7) = true)
    (am8 : PySem.W.nsIn K mainGlobals "loads_at" = some (some (.ref fm8)))
    (lm8 : K.lookup fm8 = some ⟨ocm8, odm8, .func (PySem.W.fnOf "loads_at" "loads_at" (defArgs sLoads) (defBody sLoads) (defScope sLoads) .none kVm8 dcm8 pmm8 anm8 cdm8 ctm8), slm8⟩)
    (cm8 : PySem.W.codeIn K cdm8 "loads_at" = true)
    (km8 : PySem.W.keepIn K (.ref fm8) = true)
    (am9 : PySem.W.nsIn K mainGlobals "seals_at" = some (some (.ref fm9)))
    (lm9 : K.lookup fm9 = some ⟨ocm9, odm9, .func (PySem.W.fnOf "seals_at" "seals_at" (defArgs sSealsAt) (defBody sSealsAt) (defScope sSealsAt) .none kVm9 dcm9 pmm9 anm9 cdm9 ctm9), slm9⟩)
    (cm9 : PySem.W.codeIn K cdm9 "seals_at" = true)
    (km9 : PySem.W.keepIn K (.ref fm9) = true)
    (am10 : PySem.W.nsIn K mainGlobals "board" = some (some (.ref fm10)))
    (lm10 : K.lookup fm10 = some ⟨ocm10, odm10, .func (PySem.W.fnOf "board" "board" (defArgs sBoard) (defBody sBoard) (defScope sBoard) .none kVm10 dcm10 pmm10 anm10 cdm10 ctm10), slm10⟩)
    (cm10 : PySem.W.codeIn K cdm10 "board" = true)
    (km10 : PySem.W.keepIn K (.ref fm10) = true)
    (am11 : PySem.W.nsIn K mainGlobals "line_of" = some (some (.ref fm11)))
    (lm11 : K.lookup fm11 = some ⟨ocm11, odm11, .func (PySem.W.fnOf "line_of" "line_of" (defArgs sLine) (defBody sLine) (defScope sLine) .none kVm11 dcm11 pmm11 anm11 cdm11 ctm11), slm11⟩)
    (cm11 : PySem.W.codeIn K cdm11 "line_of" = true)
    (km11 : PySem.W.keepIn K (.ref fm11) = true)
    (am12 : PySem.W.nsIn K mainGlobals "text_of_all" = some (some (.ref fm12)))
    (lm12 : K.lookup fm12 = some ⟨ocm12, odm12, .func (PySem.W.fnOf "text_of_all" "text_of_all" (defArgs sAllT) (defBody sAllT) (defScope sAllT) .none kVm12 dcm12 pmm12 anm12 cdm12 ctm12), slm12⟩)
    (cm12 : PySem.W.codeIn K cdm12 "text_of_all" = true)
    (km12 : PySem.W.keepIn K (.ref fm12) = true)
    (am13 : PySem.W.nsIn K mainGlobals "text_of" = some (some (.ref fm13)))
    (lm13 : K.lookup fm13 = some ⟨ocm13, odm13, .func (PySem.W.fnOf "text_of" "text_of" (defArgs sTxt) (defBody sTxt) (defScope sTxt) .none kVm13 dcm13 pmm13 anm13 cdm13 ctm13), slm13⟩)
    (cm13 : PySem.W.codeIn K cdm13 "text_of" = true)
    (km13 : PySem.W.keepIn K (.ref fm13) = true)
    (am14 : PySem.W.nsIn K mainGlobals "_law_mix" = some (some (.ref fm14)))
    (lm14 : K.lookup fm14 = some ⟨ocm14, odm14, .func (PySem.W.fnOf "_law_mix" "_law_mix" (defArgs sMix) (defBody sMix) (defScope sMix) .none kVm14 dcm14 pmm14 anm14 cdm14 ctm14), slm14⟩)
    (cm14 : PySem.W.codeIn K cdm14 "_law_mix" = true)
    (km14 : PySem.W.keepIn K (.ref fm14) = true)
    (am15 : PySem.W.nsIn K mainGlobals "_law_next" = some (some (.ref fm15)))
    (lm15 : K.lookup fm15 = some ⟨ocm15, odm15, .func (PySem.W.fnOf "_law_next" "_law_next" (defArgs sNx) (defBody sNx) (defScope sNx) .none kVm15 dcm15 pmm15 anm15 cdm15 ctm15), slm15⟩)
    (cm15 : PySem.W.codeIn K cdm15 "_law_next" = true)
    (km15 : PySem.W.keepIn K (.ref fm15) = true)
    (am16 : PySem.W.nsIn K mainGlobals "_law_alike" = some (some (.ref fm16)))
    (lm16 : K.lookup fm16 = some ⟨ocm16, odm16, .func (PySem.W.fnOf "_law_alike" "_law_alike" (defArgs sAlk) (defBody sAlk) (defScope sAlk) .none kVm16 dcm16 pmm16 anm16 cdm16 ctm16), slm16⟩)
    (cm16 : PySem.W.codeIn K cdm16 "_law_alike" = true)
    (km16 : PySem.W.keepIn K (.ref fm16) = true)
    (am17 : PySem.W.nsIn K mainGlobals "_law_place" = some (some (.ref fm17)))
    (lm17 : K.lookup fm17 = some ⟨ocm17, odm17, .func (PySem.W.fnOf "_law_place" "_law_place" (defArgs sPlc) (defBody sPlc) (defScope sPlc) .none kVm17 dcm17 pmm17 anm17 cdm17 ctm17), slm17⟩)
    (cm17 : PySem.W.codeIn K cdm17 "_law_place" = true)
    (km17 : PySem.W.keepIn K (.ref fm17) = true)
    (am18 : PySem.W.nsIn K mainGlobals "_law_moved" = some (some (.ref fm18)))
    (lm18 : K.lookup fm18 = some ⟨ocm18, odm18, .func (PySem.W.fnOf "_law_moved" "_law_moved" (defArgs sMvd) (defBody sMvd) (defScope sMvd) .none kVm18 dcm18 pmm18 anm18 cdm18 ctm18), slm18⟩)
    (cm18 : PySem.W.codeIn K cdm18 "_law_moved" = true)
    (km18 : PySem.W.keepIn K (.ref fm18) = true)
    (am19 : PySem.W.nsIn K mainGlobals "_law_lid" = some (some (.ref fm19)))
    (lm19 : K.lookup fm19 = some ⟨ocm19, odm19, .func (PySem.W.fnOf "_law_lid" "_law_lid" (defArgs sLid) (defBody sLid) (defScope sLid) .none kVm19 dcm19 pmm19 anm19 cdm19 ctm19), slm19⟩)
    (cm19 : PySem.W.codeIn K cdm19 "_law_lid" = true)
    (km19 : PySem.W.keepIn K (.ref fm19) = true)
    (am20 : PySem.W.nsIn K mainGlobals "_law_inside" = some (some (.ref fm20)))
    (lm20 : K.lookup fm20 = some ⟨ocm20, odm20, .func (PySem.W.fnOf "_law_inside" "_law_inside" (defArgs sIns) (defBody sIns) (defScope sIns) .none kVm20 dcm20 pmm20 anm20 cdm20 ctm20), slm20⟩)
    (cm20 : PySem.W.codeIn K cdm20 "_law_inside" = true)
    (km20 : PySem.W.keepIn K (.ref fm20) = true)
    (am21 : PySem.W.nsIn K mainGlobals "_law_items" = some (some (.ref fm21)))
    (lm21 : K.lookup fm21 = some ⟨ocm21, odm21, .func (PySem.W.fnOf "_law_items" "_law_items" (defArgs sItm) (defBody sItm) (defScope sItm) .none kVm21 dcm21 pmm21 anm21 cdm21 ctm21), slm21⟩)
    (cm21 : PySem.W.codeIn K cdm21 "_law_items" = true)
    (km21 : PySem.W.keepIn K (.ref fm21) = true)
    (am22 : PySem.W.nsIn K mainGlobals "_law_drawn" = some (some (.ref fm22)))
    (lm22 : K.lookup fm22 = some ⟨ocm22, odm22, .func (PySem.W.fnOf "_law_drawn" "_law_drawn" (defArgs sDrn) (defBody sDrn) (defScope sDrn) .none kVm22 dcm22 pmm22 anm22 cdm22 ctm22), slm22⟩)
    (cm22 : PySem.W.codeIn K cdm22 "_law_drawn" = true)
    (km22 : PySem.W.keepIn K (.ref fm22) = true)
    (am23 : PySem.W.nsIn K mainGlobals "_law_house" = some (some (.ref fm23)))
    (lm23 : K.lookup fm23 = some ⟨ocm23, odm23, .func (PySem.W.fnOf "_law_house" "_law_house" (defArgs sHsM) (defBody sHsM) (defScope sHsM) .none kVm23 dcm23 pmm23 anm23 cdm23 ctm23), slm23⟩)
    (cm23 : PySem.W.codeIn K cdm23 "_law_house" = true)
    (km23 : PySem.W.keepIn K (.ref fm23) = true)
    (am24 : PySem.W.nsIn K mainGlobals "_law_may" = some (some (.ref fm24)))
    (lm24 : K.lookup fm24 = some ⟨ocm24, odm24, .func (PySem.W.fnOf "_law_may" "_law_may" (defArgs sMay) (defBody sMay) (defScope sMay) .none kVm24 dcm24 pmm24 anm24 cdm24 ctm24), slm24⟩)
    (cm24 : PySem.W.codeIn K cdm24 "_law_may" = true)
    (km24 : PySem.W.keepIn K (.ref fm24) = true)
    (am25 : PySem.W.nsIn K mainGlobals "_law_done" = some (some (.ref fm25)))
    (lm25 : K.lookup fm25 = some ⟨ocm25, odm25, .func (PySem.W.fnOf "_law_done" "_law_done" (defArgs sDne) (defBody sDne) (defScope sDne) .none kVm25 dcm25 pmm25 anm25 cdm25 ctm25), slm25⟩)
    (cm25 : PySem.W.codeIn K cdm25 "_law_done" = true)
    (km25 : PySem.W.keepIn K (.ref fm25) = true)
    (am26 : PySem.W.nsIn K mainGlobals "_law_known" = some (some (.ref fm26)))
    (lm26 : K.lookup fm26 = some ⟨ocm26, odm26, .func (PySem.W.fnOf "_law_known" "_law_known" (defArgs sKno) (defBody sKno) (defScope sKno) .none kVm26 dcm26 pmm26 anm26 cdm26 ctm26), slm26⟩)
    (cm26 : PySem.W.codeIn K cdm26 "_law_known" = true)
    (km26 : PySem.W.keepIn K (.ref fm26) = true)
    (am27 : PySem.W.nsIn K mainGlobals "_law_listed" = some (some (.ref fm27)))
    (lm27 : K.lookup fm27 = some ⟨ocm27, odm27, .func (PySem.W.fnOf "_law_listed" "_law_listed" (defArgs sLst) (defBody sLst) (defScope sLst) .none kVm27 dcm27 pmm27 anm27 cdm27 ctm27), slm27⟩)
    (cm27 : PySem.W.codeIn K cdm27 "_law_listed" = true)
    (km27 : PySem.W.keepIn K (.ref fm27) = true)
    (am28 : PySem.W.nsIn K mainGlobals "law" = some (some (.ref fm28)))
    (lm28 : K.lookup fm28 = some ⟨ocm28, odm28, .func (PySem.W.fnOf "law" "law" (defArgs sLawB) (defBody sLawB) (defScope sLawB) .none kVm28 dcm28 pmm28 anm28 cdm28 ctm28), slm28⟩)
    (cm28 : PySem.W.codeIn K cdm28 "law" = true)
    (km28 : PySem.W.keepIn K (.ref fm28) = true)
    (at0 : PySem.W.findIn K (.ref C) "__init__" = some (some (.ref ft0)))
    (lt0 : K.lookup ft0 = some ⟨oct0, odt0, .func (PySem.W.fnOf "__init__" "House.__init__" (defArgs sInit) (defBody sInit) (defScope sInit) .none kVt0 dct0 pmt0 ant0 cdt0 ctt0), slt0⟩)
    (ct0 : PySem.W.codeIn K cdt0 "House.__init__" = true)
    (kt0 : PySem.W.keepIn K (.ref ft0) = true)
    (i0 : PySem.W.isFn K (.ref ft0) = true)
    (at1 : PySem.W.findIn K (.ref CW) "__init__" = some (some (.ref ft1)))
    (lt1 : K.lookup ft1 = some ⟨oct1, odt1, .func (PySem.W.fnOf "__init__" "World.__init__" (defArgs sWInit) (defBody sWInit) (defScope sWInit) .none kVt1 dct1 pmt1 ant1 cdt1 ctt1), slt1⟩)
    (ct1 : PySem.W.codeIn K cdt1 "World.__init__" = true)
    (kt1 : PySem.W.keepIn K (.ref ft1) = true)
    (i1 : PySem.W.isFn K (.ref ft1) = true)
    (at2 : PySem.W.findIn K (.ref CW) "changed" = some (some (.ref ft2)))
    (lt2 : K.lookup ft2 = some ⟨oct2, odt2, .func (PySem.W.fnOf "changed" "World.changed" (defArgs sWCh) (defBody sWCh) (defScope sWCh) .none kVt2 dct2 pmt2 ant2 cdt2 ctt2), slt2⟩)
    (ct2 : PySem.W.codeIn K cdt2 "World.changed" = true)
    (kt2 : PySem.W.keepIn K (.ref ft2) = true)
    (i2 : PySem.W.isFn K (.ref ft2) = true)
    (at3 : PySem.W.findIn K (.ref CW) "inside" = some (some (.ref ft3)))
    (lt3 : K.lookup ft3 = some ⟨oct3, odt3, .func (PySem.W.fnOf "inside" "World.inside" (defArgs sWIn) (defBody sWIn) (defScope sWIn) .none kVt3 dct3 pmt3 ant3 cdt3 ctt3), slt3⟩)
    (ct3 : PySem.W.codeIn K cdt3 "World.inside" = true)
    (kt3 : PySem.W.keepIn K (.ref ft3) = true)
    (i3 : PySem.W.isFn K (.ref ft3) = true)
    (at4 : PySem.W.findIn K (.ref CW) "seal" = some (some (.ref ft4)))
    (lt4 : K.lookup ft4 = some ⟨oct4, odt4, .func (PySem.W.fnOf "seal" "World.seal" (defArgs sWSeal) (defBody sWSeal) (defScope sWSeal) .none kVt4 dct4 pmt4 ant4 cdt4 ctt4), slt4⟩)
    (ct4 : PySem.W.codeIn K cdt4 "World.seal" = true)
    (kt4 : PySem.W.keepIn K (.ref ft4) = true)
    (i4 : PySem.W.isFn K (.ref ft4) = true)
    (at5 : PySem.W.findIn K (.ref CW) "held" = some (some (.ref ft5)))
    (lt5 : K.lookup ft5 = some ⟨oct5, odt5, .func (PySem.W.fnOf "held" "World.held" (defArgs sWHeld) (defBody sWHeld) (defScope sWHeld) .none kVt5 dct5 pmt5 ant5 cdt5 ctt5), slt5⟩)
    (ct5 : PySem.W.codeIn K cdt5 "World.held" = true)
    (kt5 : PySem.W.keepIn K (.ref ft5) = true)
    (i5 : PySem.W.isFn K (.ref ft5) = true)
    (hpg : PySem.W.plainGet K C Str.empty = true)
    (hhd : PySem.W.hasDictIn K C = true)
    (hpo : PySem.W.plainOver K C = true)
    (hsa : PySem.W.findIn K (.ref C) "__setattr__" = some (some (.builtin "object.__setattr__")))
    (hmk : PySem.W.makesIn K C = true)
    (hkc : PySem.W.keepIn K (.ref C) = true)
    (vpg : PySem.W.plainGet K CW Str.empty = true)
    (vhd : PySem.W.hasDictIn K CW = true)
    (vpo : PySem.W.plainOver K CW = true)
    (vsa : PySem.W.findIn K (.ref CW) "__setattr__" = some (some (.builtin "object.__setattr__")))
    (vmk : PySem.W.makesIn K CW = true)
    (vkc : PySem.W.keepIn K (.ref CW) = true)
    (nH : PySem.W.findIn K (.ref C) "hands" = some none)
    (nB : PySem.W.findIn K (.ref C) "boxes" = some none)
    (nT : PySem.W.findIn K (.ref C) "things" = some none)
    (nS : PySem.W.findIn K (.ref C) "seals" = some none)
    (nSt : PySem.W.findIn K (.ref C) "state" = some none)
    (wnH : PySem.W.findIn K (.ref CW) "house" = some none)
    (wnS : PySem.W.findIn K (.ref CW) "state" = some none)
    (xtp : PySem.W.nsIn K cStatics "thirdparty.any" = some none)
    (xtop : (l.prog.main.scope.names.lookup ("super" : Str)).isSome = false)
    (xLInvalidHouse : K.lookup CInvalidHouse = some (excClassObj nmInvalidHouse qInvalidHouse CInvalidHouse NInvalidHouse bsInvalidHouse bmInvalidHouse true snInvalidHouse subInvalidHouse abInvalidHouse colInvalidHouse ddInvalidHouse g0InvalidHouse g1InvalidHouse g2InvalidHouse g3InvalidHouse g5InvalidHouse "ValueError.__new__"))
    (xvInvalidHouse : PySem.HandSPX.refsVE bmInvalidHouse = true)
    (xaInvalidHouse : PySem.W.alongIn K "__init__" ((((Value.ref CInvalidHouse :: bmInvalidHouse).dropWhile (· != .ref CInvalidHouse)).drop 1)) = some (some (.builtin "ValueError.__init__")))
    (xsaInvalidHouse : PySem.W.findIn K (.ref CInvalidHouse) "__setattr__" = some (some (.builtin "object.__setattr__")))
    (xexInvalidHouse : PySem.W.subIn K (.ref CInvalidHouse) (.type "BaseException") = some true)
    (xtyInvalidHouse : PySem.W.typeIn K (.ref CInvalidHouse) = some (.type "type"))
    (xkcInvalidHouse : PySem.W.keepIn K (.ref CInvalidHouse) = true)
    (xveInvalidHouse : PySem.W.subIn K (.ref CInvalidHouse) (.type "ValueError") = some true)
    (xseInvalidHouse : PySem.W.mroIn K CInvalidHouse (.ref CInvalidHouse) = some true)
    (xnPInvalidHouse : PySem.W.findIn K (.ref CInvalidHouse) "part" = some none)
    (xnIInvalidHouse : PySem.W.findIn K (.ref CInvalidHouse) "index" = some none)
    (xiInvalidHouse : PySem.W.findIn K (.ref CInvalidHouse) "__init__" = some (some (.ref fIInvalidHouse)))
    (xitInvalidHouse : PySem.W.typeIn K (.ref fIInvalidHouse) = some (.type "function"))
    (xilInvalidHouse : K.lookup fIInvalidHouse = some ⟨ocIInvalidHouse, odIInvalidHouse, .func (PySem.W.ksFn "__init__" "InvalidHouse.__init__" (defArgs sIH) (defBody sIH) (defScope sIH) .none kVIInvalidHouse dcIInvalidHouse pmIInvalidHouse anIInvalidHouse (.ref cdaInvalidHouse) ctIInvalidHouse ccInvalidHouse), slIInvalidHouse⟩)
    (xicInvalidHouse : PySem.W.codeIn K (.ref cdaInvalidHouse) "InvalidHouse.__init__" = true)
    (xclInvalidHouse : K.lookup cdaInvalidHouse = some ⟨cclInvalidHouse, cddInvalidHouse, .fields vsCInvalidHouse, ccsInvalidHouse⟩)
    (xcfInvalidHouse : vsCInvalidHouse[2]? = some (.str filInvalidHouse tfInvalidHouse))
    (xffInvalidHouse : ((l.prog.main.file : Str) == filInvalidHouse) = true)
    (xccInvalidHouse : K.lookup ccInvalidHouse = some ⟨clInvalidHouse, cldInvalidHouse, .cell (some (.ref CInvalidHouse)), cslInvalidHouse⟩)
    (eexUnknownHand : PySem.W.excIn K CUnknownHand [.type "ValueError", .type "Exception", .type "BaseException", .type "object"] "ValueError.__new__" = true)
    (ekpUnknownHand : PySem.W.keepIn K (.ref CUnknownHand) = true)
    (esbUnknownHand : PySem.W.subIn K (.ref CUnknownHand) (.type "BaseException") = some true)
    (etyUnknownHand : PySem.W.typeIn K (.ref CUnknownHand) = some (.type "type"))
    (eexUnknownBox : PySem.W.excIn K CUnknownBox [.type "ValueError", .type "Exception", .type "BaseException", .type "object"] "ValueError.__new__" = true)
    (ekpUnknownBox : PySem.W.keepIn K (.ref CUnknownBox) = true)
    (esbUnknownBox : PySem.W.subIn K (.ref CUnknownBox) (.type "BaseException") = some true)
    (etyUnknownBox : PySem.W.typeIn K (.ref CUnknownBox) = some (.type "type"))
    (zisinstance : PySem.W.nsIn K mainGlobals "isinstance" = some none)
    (zint : PySem.W.nsIn K mainGlobals "int" = some none)
    (zbool : PySem.W.nsIn K mainGlobals "bool" = some none)
    (zlen : PySem.W.nsIn K mainGlobals "len" = some none)
    (zenumerate : PySem.W.nsIn K mainGlobals "enumerate" = some none)
    (ztuple : PySem.W.nsIn K mainGlobals "tuple" = some none)
    (zlist : PySem.W.nsIn K mainGlobals "list" = some none)
    (zrange : PySem.W.nsIn K mainGlobals "range" = some none)
    (zstr : PySem.W.nsIn K mainGlobals "str" = some none)
    (zsuper : PySem.W.nsIn K mainGlobals "super" = some none)
    (zsorted : PySem.W.nsIn K mainGlobals "sorted" = some none)
    (zmax : PySem.W.nsIn K mainGlobals "max" = some none)
    (zdict : PySem.W.nsIn K mainGlobals "dict" = some none)
    (jh : PySem.W.nsIn K mainGlobals "MOST_HANDS" = some (some (.int 4 th)))
    (jb : PySem.W.nsIn K mainGlobals "MOST_BOXES" = some (some (.int 3 tbx)))
    (jt : PySem.W.nsIn K mainGlobals "MOST_THINGS" = some (some (.int 4 tth)))
    (js : PySem.W.nsIn K mainGlobals "MOST_SEALS" = some (some (.int 3 ts)))
    : LamX.LawAtS l w K CX0 12 63 "_law_script" mg fa h := by
  have e := hfa.symm.trans (PySem.W.mg_of X G am28)
  cases e
  have B : Bt mg := ⟨PySem.W.mg_none_of X G zisinstance, PySem.W.mg_none_of X G zint, PySem.W.mg_none_of X G zbool, PySem.W.mg_none_of X G zlen, PySem.W.mg_none_of X G zenumerate, PySem.W.mg_none_of X G ztuple, PySem.W.mg_none_of X G zlist, PySem.W.mg_none_of X G zrange, PySem.W.mg_none_of X G zstr⟩
  have Z : Cs mg := ⟨⟨_, PySem.W.mg_of X G jh⟩, ⟨_, PySem.W.mg_of X G jb⟩, ⟨_, PySem.W.mg_of X G jt⟩, ⟨_, PySem.W.mg_of X G js⟩⟩
  have cl : Cls K C := ⟨hpg, hhd, hpo, hsa⟩
  have hc : HouseC K C := ⟨cl, nH, nB, nT, nS, nSt⟩
  have wc : WorldC K CW := ⟨⟨vpg, vhd, vpo, vsa⟩, wnH, wnS⟩
  have gC := PySem.W.mg_of X G aC
  have gW := PySem.W.mg_of X G aCW
  have zS := PySem.W.mg_none_of X G zsorted
  have zM := PySem.W.mg_none_of X G zmax
  have zD := PySem.W.mg_none_of X G zdict
  have Fis_number := fun_mk (st := sNum) lm0 cm0 km0
  have bis_number := Fis_number.binds (ps := ["value", "limit"]) fun _ _ _ _ _ _ us hl => match us, hl with | [_, _], _ => rfl
  have gis_number := PySem.W.mg_of X G am0
  have Fhow_many := fun_mk (st := sMany) lm1 cm1 km1
  have bhow_many := Fhow_many.binds (ps := ["house", "word"]) fun _ _ _ _ _ _ us hl => match us, hl with | [_, _], _ => rfl
  have ghow_many := PySem.W.mg_of X G am1
  have Fis_place := fun_mk (st := sIsPl) lm2 cm2 km2
  have bis_place := Fis_place.binds (ps := ["place", "hands", "boxes"]) fun _ _ _ _ _ _ us hl => match us, hl with | [_, _, _], _ => rfl
  have gis_place := PySem.W.mg_of X G am2
  have Fneed_boxes := fun_mk (st := sBoxes) lm3 cm3 km3
  have bneed_boxes := Fneed_boxes.binds (ps := ["hands", "boxes"]) fun _ _ _ _ _ _ us hl => match us, hl with | [_, _], _ => rfl
  have gneed_boxes := PySem.W.mg_of X G am3
  have Fneed_house := fun_mk (st := sNeed) lm4 cm4 km4
  have bneed_house := Fneed_house.binds (ps := ["hands", "boxes", "things", "seals"]) fun _ _ _ _ _ _ us hl => match us, hl with | [_, _, _, _], _ => rfl
  have gneed_house := PySem.W.mg_of X G am4
  have Fneed_hand := fun_mk (st := sNHand) lm5 cm5 km5
  have bneed_hand := Fneed_hand.binds (ps := ["house", "hand"]) fun _ _ _ _ _ _ us hl => match us, hl with | [_, _], _ => rfl
  have gneed_hand := PySem.W.mg_of X G am5
  have Fneed_box := fun_mk (st := sNBox) lm6 cm6 km6
  have bneed_box := Fneed_box.binds (ps := ["house", "box"]) fun _ _ _ _ _ _ us hl => match us, hl with | [_, _], _ => rfl
  have gneed_box := PySem.W.mg_of X G am6
  have Fseal_on := fun_mk (st := sOn) lm7 cm7 km7
  have bseal_on := Fseal_on.binds (ps := ["state", "box"]) fun _ _ _ _ _ _ us hl => match us, hl with | [_, _], _ => rfl
  have gseal_on := PySem.W.mg_of X G am7
  have Floads_at := fun_mk (st := sLoads) lm8 cm8 km8
  have bloads_at := Floads_at.binds (ps := ["state", "place"]) fun _ _ _ _ _ _ us hl => match us, hl with | [_, _], _ => rfl
  have gloads_at := PySem.W.mg_of X G am8
  have Fseals_at := fun_mk (st := sSealsAt) lm9 cm9 km9
  have bseals_at := Fseals_at.binds (ps := ["state", "place"]) fun _ _ _ _ _ _ us hl => match us, hl with | [_, _], _ => rfl
  have gseals_at := PySem.W.mg_of X G am9
  have Fboard := fun_mk (st := sBoard) lm10 cm10 km10
  have bboard := Fboard.binds (ps := ["world"]) fun _ _ _ _ _ _ us hl => match us, hl with | [_], _ => rfl
  have gboard := PySem.W.mg_of X G am10
  have Fline_of := fun_mk (st := sLine) lm11 cm11 km11
  have bline_of := Fline_of.binds (ps := ["world", "hand"]) fun _ _ _ _ _ _ us hl => match us, hl with | [_, _], _ => rfl
  have gline_of := PySem.W.mg_of X G am11
  have Ftext_of_all := fun_mk (st := sAllT) lm12 cm12 km12
  have btext_of_all := Ftext_of_all.binds (ps := ["world", "items"]) fun _ _ _ _ _ _ us hl => match us, hl with | [_, _], _ => rfl
  have gtext_of_all := PySem.W.mg_of X G am12
  have Ftext_of := fun_mk (st := sTxt) lm13 cm13 km13
  have btext_of := Ftext_of.binds (ps := ["world", "item"]) fun _ _ _ _ _ _ us hl => match us, hl with | [_, _], _ => rfl
  have gtext_of := PySem.W.mg_of X G am13
  have F_law_mix := fun_mk (st := sMix) lm14 cm14 km14
  have b_law_mix := F_law_mix.binds (ps := ["_law_script", "_law_seed"]) fun _ _ _ _ _ _ us hl => match us, hl with | [_, _], _ => rfl
  have g_law_mix := PySem.W.mg_of X G am14
  have F_law_next := fun_mk (st := sNx) lm15 cm15 km15
  have b_law_next := F_law_next.binds (ps := ["_law_h", "_law_limit"]) fun _ _ _ _ _ _ us hl => match us, hl with | [_, _], _ => rfl
  have g_law_next := PySem.W.mg_of X G am15
  have F_law_alike := fun_mk (st := sAlk) lm16 cm16 km16
  have b_law_alike := F_law_alike.binds (ps := ["_law_found", "_law_due"]) fun _ _ _ _ _ _ us hl => match us, hl with | [_, _], _ => rfl
  have g_law_alike := PySem.W.mg_of X G am16
  have F_law_place := fun_mk (st := sPlc) lm17 cm17 km17
  have b_law_place := F_law_place.binds (ps := ["_law_state", "_law_item"]) fun _ _ _ _ _ _ us hl => match us, hl with | [_, _], _ => rfl
  have g_law_place := PySem.W.mg_of X G am17
  have F_law_moved := fun_mk (st := sMvd) lm18 cm18 km18
  have b_law_moved := F_law_moved.binds (ps := ["_law_state", "_law_item", "_law_place_here"]) fun _ _ _ _ _ _ us hl => match us, hl with | [_, _, _], _ => rfl
  have g_law_moved := PySem.W.mg_of X G am18
  have F_law_lid := fun_mk (st := sLid) lm19 cm19 km19
  have b_law_lid := F_law_lid.binds (ps := ["_law_state", "_law_box"]) fun _ _ _ _ _ _ us hl => match us, hl with | [_, _], _ => rfl
  have g_law_lid := PySem.W.mg_of X G am19
  have F_law_inside := fun_mk (st := sIns) lm20 cm20 km20
  have b_law_inside := F_law_inside.binds (ps := ["_law_state", "_law_box"]) fun _ _ _ _ _ _ us hl => match us, hl with | [_, _], _ => rfl
  have g_law_inside := PySem.W.mg_of X G am20
  have F_law_items := fun_mk (st := sItm) lm21 cm21 km21
  have b_law_items := F_law_items.binds (ps := ["_law_house_here"]) fun _ _ _ _ _ _ us hl => match us, hl with | [_], _ => rfl
  have g_law_items := PySem.W.mg_of X G am21
  have F_law_drawn := fun_mk (st := sDrn) lm22 cm22 km22
  have b_law_drawn := F_law_drawn.binds (ps := ["_law_h", "_law_most"]) fun _ _ _ _ _ _ us hl => match us, hl with | [_, _], _ => rfl
  have g_law_drawn := PySem.W.mg_of X G am22
  have F_law_house := fun_mk (st := sHsM) lm23 cm23 km23
  have b_law_house := F_law_house.binds (ps := ["_law_drawn_here"]) fun _ _ _ _ _ _ us hl => match us, hl with | [_], _ => rfl
  have g_law_house := PySem.W.mg_of X G am23
  have F_law_may := fun_mk (st := sMay) lm24 cm24 km24
  have b_law_may := F_law_may.binds (ps := ["_law_state", "_law_deed"]) fun _ _ _ _ _ _ us hl => match us, hl with | [_, _], _ => rfl
  have g_law_may := PySem.W.mg_of X G am24
  have F_law_done := fun_mk (st := sDne) lm25 cm25 km25
  have b_law_done := F_law_done.binds (ps := ["_law_state", "_law_deed"]) fun _ _ _ _ _ _ us hl => match us, hl with | [_, _], _ => rfl
  have g_law_done := PySem.W.mg_of X G am25
  have F_law_known := fun_mk (st := sKno) lm26 cm26 km26
  have b_law_known := F_law_known.binds (ps := ["_law_drawn_here", "_law_hands"]) fun _ _ _ _ _ _ us hl => match us, hl with | [_, _], _ => rfl
  have g_law_known := PySem.W.mg_of X G am26
  have F_law_listed := fun_mk (st := sLst) lm27 cm27 km27
  have b_law_listed := F_law_listed.binds (ps := ["_law_state", "_law_items_here"]) fun _ _ _ _ _ _ us hl => match us, hl with | [_, _], _ => rfl
  have g_law_listed := PySem.W.mg_of X G am27
  have Flaw := fun_mk (st := sLawB) lm28 cm28 km28
  have blaw := Flaw.binds (ps := ["_law_script"]) fun _ _ _ _ _ _ us hl => match us, hl with | [_], _ => rfl
  have glaw := PySem.W.mg_of X G am28
  have Ft0 := fun_mk (st := sInit) lt0 ct0 kt0
  have bt0 := Ft0.binds (ps := ["self", "hands", "boxes", "things", "seals"]) fun _ _ _ _ _ _ us hl => match us, hl with | [_, _, _, _, _], _ => rfl
  have Ft1 := fun_mk (st := sWInit) lt1 ct1 kt1
  have bt1 := Ft1.binds (ps := ["self", "house"]) fun _ _ _ _ _ _ us hl => match us, hl with | [_, _], _ => rfl
  have Ft2 := fun_mk (st := sWCh) lt2 ct2 kt2
  have bt2 := Ft2.binds (ps := ["self", "state"]) fun _ _ _ _ _ _ us hl => match us, hl with | [_, _], _ => rfl
  have Ft3 := fun_mk (st := sWIn) lt3 ct3 kt3
  have bt3 := Ft3.binds (ps := ["self", "box"]) fun _ _ _ _ _ _ us hl => match us, hl with | [_, _], _ => rfl
  have Ft4 := fun_mk (st := sWSeal) lt4 ct4 kt4
  have bt4 := Ft4.binds (ps := ["self", "box"]) fun _ _ _ _ _ _ us hl => match us, hl with | [_, _], _ => rfl
  have Ft5 := fun_mk (st := sWHeld) lt5 ct5 kt5
  have bt5 := Ft5.binds (ps := ["self", "hand"]) fun _ _ _ _ _ _ us hl => match us, hl with | [_, _], _ => rfl
  have M : Mk K C ft0 := ⟨hmk, at0, i0, hkc⟩
  have MW : Mk K CW ft1 := ⟨vmk, at1, i1, vkc⟩
  have oexInvalidHouse : OexC K CInvalidHouse := ⟨⟨nmInvalidHouse, qInvalidHouse, NInvalidHouse, bsInvalidHouse, bmInvalidHouse, snInvalidHouse, subInvalidHouse, abInvalidHouse, colInvalidHouse, ddInvalidHouse, g0InvalidHouse, g1InvalidHouse, g2InvalidHouse, g3InvalidHouse, g5InvalidHouse, xLInvalidHouse, xvInvalidHouse⟩, xsaInvalidHouse, xexInvalidHouse, xtyInvalidHouse, xkcInvalidHouse⟩
  have supInvalidHouse : SupC l.prog K mg CInvalidHouse := ⟨oexInvalidHouse, ⟨nmInvalidHouse, qInvalidHouse, NInvalidHouse, bsInvalidHouse, bmInvalidHouse, snInvalidHouse, subInvalidHouse, abInvalidHouse, colInvalidHouse, ddInvalidHouse, g0InvalidHouse, g1InvalidHouse, g2InvalidHouse, g3InvalidHouse, g5InvalidHouse, xLInvalidHouse, xvInvalidHouse, xaInvalidHouse⟩, xtp, PySem.W.mg_none_of X G zsuper, xveInvalidHouse, xseInvalidHouse, xtop⟩
  have bIInvalidHouse : Binds K (PySem.W.ksFn "__init__" "InvalidHouse.__init__" (defArgs sIH) (defBody sIH) (defScope sIH) .none kVIInvalidHouse dcIInvalidHouse pmIInvalidHouse anIInvalidHouse (.ref cdaInvalidHouse) ctIInvalidHouse ccInvalidHouse) (["self", "part", "index"] : List Str) [] := Binds.all fun us hl => match us, hl with | [_, _, _], _ => rfl
  have TInvalidHouse : ExcI l.prog K mg "InvalidHouse" "InvalidHouse.__init__" sIH CInvalidHouse fIInvalidHouse (PySem.W.ksFn "__init__" "InvalidHouse.__init__" (defArgs sIH) (defBody sIH) (defScope sIH) .none kVIInvalidHouse dcIInvalidHouse pmIInvalidHouse anIInvalidHouse (.ref cdaInvalidHouse) ctIInvalidHouse ccInvalidHouse) :=
    ⟨supInvalidHouse, xiInvalidHouse, xitInvalidHouse, PySem.W.mg_of X G nInvalidHouse, ⟨ocIInvalidHouse, odIInvalidHouse, kVIInvalidHouse, dcIInvalidHouse, pmIInvalidHouse, anIInvalidHouse, ctIInvalidHouse, slIInvalidHouse, ccInvalidHouse, cdaInvalidHouse, rfl, xilInvalidHouse, xicInvalidHouse, ⟨cclInvalidHouse, cddInvalidHouse, vsCInvalidHouse, ccsInvalidHouse, filInvalidHouse, tfInvalidHouse, xclInvalidHouse, xcfInvalidHouse, xffInvalidHouse⟩, ⟨_, cldInvalidHouse, cslInvalidHouse, xccInvalidHouse⟩⟩, bIInvalidHouse⟩
  have PUnknownHand : PErr K mg "UnknownHand" CUnknownHand := ⟨eexUnknownHand, PySem.W.mg_of X G nUnknownHand, ekpUnknownHand, esbUnknownHand, etyUnknownHand⟩
  have PUnknownBox : PErr K mg "UnknownBox" CUnknownBox := ⟨eexUnknownBox, PySem.W.mg_of X G nUnknownBox, ekpUnknownBox, esbUnknownBox, etyUnknownBox⟩
  refine ⟨(PySem.W.fnOf "law" "law" (defArgs sLawB) (defBody sLawB) (defScope sLawB) .none kVm28 dcm28 pmm28 anm28 cdm28 ctm28), [], spLawB K, fun p hp => (nomatch hp), fun p hp => (nomatch hp), fun p hp => (nomatch hp), fun s v => .of_eq rfl, fun H a ns hl _ _ hS => ⟨a, ns, rfl, hS, hl, fun _ => rfl⟩, fun base hb hg _ => ?_⟩
  have GN : FnOk l.prog w K mg base CX0 1 fm0 (PySem.W.fnOf "is_number" "is_number" (defArgs sNum) (defBody sNum) (defScope sNum) .none kVm0 dcm0 pmm0 anm0 cdm0 ctm0) ["value", "limit"] (spNum) := ok_num Fis_number B
  have GM : FnOk l.prog w K mg base CX0 1 fm1 (PySem.W.fnOf "how_many" "how_many" (defArgs sMany) (defBody sMany) (defScope sMany) .none kVm1 dcm1 pmm1 anm1 cdm1 ctm1) ["house", "word"] (spMany K C) := ok_many Fhow_many B hc
  have GP : FnOk l.prog w K mg base CX0 2 fm2 (PySem.W.fnOf "is_place" "is_place" (defArgs sIsPl) (defBody sIsPl) (defScope sIsPl) .none kVm2 dcm2 pmm2 anm2 cdm2 ctm2) ["place", "hands", "boxes"] (spIsPl K) := ok_ispl Fis_place Fis_number B gis_number bis_number
  have GI0 : FnOk l.prog w K mg base CX0 1 fIInvalidHouse _ ["self", "part", "index"] (spIH CInvalidHouse) := ok_ih TInvalidHouse xnPInvalidHouse xnIInvalidHouse
  have GB := ok_boxes (P := l.prog) (w := w) (base := base) Fneed_boxes B Z GP gis_place Fis_place.kp bis_place TInvalidHouse GI0
  have GNH := ok_need (P := l.prog) (w := w) (base := base) Fneed_house B Z GP gis_place Fis_place.kp bis_place GN gis_number Fis_number.kp bis_number GB gneed_boxes Fneed_boxes.kp bneed_boxes TInvalidHouse GI0
  have GH := ok_house (P := l.prog) (w := w) (base := base) Ft0 B hc GNH gneed_house Fneed_house.kp bneed_house
  have NF : NumF l.prog w K mg base fm0 _ := ⟨GN, gis_number, Fis_number.kp, bis_number⟩
  have G1 := ok_nhand (P := l.prog) (w := w) (base := base) Fneed_hand hc NF PUnknownHand
  have G4z := ok_nboxZ (P := l.prog) (w := w) (base := base) Fneed_box B hc NF PUnknownBox
  have Q1 : NHandF l.prog w K mg base C CUnknownHand fm5 _ := ⟨G1, gneed_hand, Fneed_hand.kp, bneed_hand⟩
  have O4z : OnceX l.prog w K mg base "need_box" 2 ["house", "box"] (spNBoxZ K C CUnknownBox) fm6 _ := ⟨G4z, gneed_box, Fneed_box.kp, bneed_box⟩
  have G8 : FnOk l.prog w K mg base CX0 1 fm7 (PySem.W.fnOf "seal_on" "seal_on" (defArgs sOn) (defBody sOn) (defScope sOn) .none kVm7 dcm7 pmm7 anm7 cdm7 ctm7) ["state", "box"] (spOn K) := ok_on Fseal_on B
  have Q8 : OnF l.prog w K mg base fm7 _ := ⟨G8, gseal_on, Fseal_on.kp, bseal_on⟩
  have GLd : FnOk l.prog w K mg base CX0 1 fm8 (PySem.W.fnOf "loads_at" "loads_at" (defArgs sLoads) (defBody sLoads) (defScope sLoads) .none kVm8 dcm8 pmm8 anm8 cdm8 ctm8) ["state", "place"] (spLoads K) := ok_loads Floads_at B
  have OLd : OnceF l.prog w K mg base "loads_at" 1 ["state", "place"] (spLoads K) fm8 _ := ⟨GLd, gloads_at, Floads_at.kp, bloads_at⟩
  have GSl : FnOk l.prog w K mg base CX0 1 fm9 (PySem.W.fnOf "seals_at" "seals_at" (defArgs sSealsAt) (defBody sSealsAt) (defScope sSealsAt) .none kVm9 dcm9 pmm9 anm9 cdm9 ctm9) ["state", "place"] (spSealsAt K) := ok_sealsat Fseals_at B
  have OSl : OnceF l.prog w K mg base "seals_at" 1 ["state", "place"] (spSealsAt K) fm9 _ := ⟨GSl, gseals_at, Fseals_at.kp, bseals_at⟩
  have GW0 : FnOk l.prog w K mg base CX0 1 ft1 _ ["self", "house"] (spWInit K C CW) := ok_winit Ft1 hc wc
  have WM : WMk l.prog w K mg base C CW ft1 _ := ⟨MW, GW0, gW, bt1⟩
  have GCh := ok_wch (P := l.prog) (w := w) (base := base) Ft2 wc WM
  have GW7 := ok_win (P := l.prog) (w := w) (base := base) Ft3 wc O4z OLd
  have GW8 := ok_wseal (P := l.prog) (w := w) (base := base) Ft4 wc O4z Q8
  have GW9 := ok_wheld (P := l.prog) (w := w) (base := base) Ft5 zS wc Q1 OLd OSl
  have WI : WMt l.prog w K mg base CW "inside" 3 ["self", "box"] (spWIn K C CW CUnknownBox) ft3 _ := ⟨GW7, ⟨at3, i3, kt3⟩, bt3⟩
  have WS : WMt l.prog w K mg base CW "seal" 3 ["self", "box"] (spWSeal K C CW CUnknownBox) ft4 _ := ⟨GW8, ⟨at4, i4, kt4⟩, bt4⟩
  have WH : WMt l.prog w K mg base CW "held" 3 ["self", "hand"] (spWHeld K C CW CUnknownHand) ft5 _ := ⟨GW9, ⟨at5, i5, kt5⟩, bt5⟩
  have GT0 : FnOk l.prog w K mg base CX0 4 fm13 (PySem.W.fnOf "text_of" "text_of" (defArgs sTxt) (defBody sTxt) (defScope sTxt) .none kVm13 dcm13 pmm13 anm13 cdm13 ctm13) ["world", "item"] (spTxt K C CW 0) := ok_txt0 Ftext_of
  have OT0 : OnceF l.prog w K mg base "text_of" (4 + 2 * 0) ["world", "item"] (spTxt K C CW 0) fm13 _ := ⟨GT0, gtext_of, Ftext_of.kp, btext_of⟩
  have GA0 := ok_allt (P := l.prog) (w := w) (base := base) Ftext_of_all OT0 (by decide)
  have OA0 : OnceF l.prog w K mg base "text_of_all" (5 + 2 * 0) ["world", "items"] (spAllT K C CW 0) fm12 _ := ⟨GA0, gtext_of_all, Ftext_of_all.kp, btext_of_all⟩
  have GT1 := ok_txtS (P := l.prog) (w := w) (base := base) Ftext_of wc OA0 WS WI (by decide)
  have OT1 : OnceF l.prog w K mg base "text_of" (4 + 2 * (0 + 1)) ["world", "item"] (spTxt K C CW 1) fm13 _ := ⟨GT1, gtext_of, Ftext_of.kp, btext_of⟩
  have GA1 := ok_allt (P := l.prog) (w := w) (base := base) (n := 1) Ftext_of_all OT1 (by decide)
  have OA1 : OnceF l.prog w K mg base "text_of_all" (5 + 2 * 1) ["world", "items"] (spAllT K C CW 1) fm12 _ := ⟨GA1, gtext_of_all, Ftext_of_all.kp, btext_of_all⟩
  have GT2 := ok_txtS (P := l.prog) (w := w) (base := base) Ftext_of wc OA1 WS WI (by decide)
  have OT2 : OnceF l.prog w K mg base "text_of" (4 + 2 * 2) ["world", "item"] (spTxt K C CW 2) fm13 _ := ⟨GT2, gtext_of, Ftext_of.kp, btext_of⟩
  have GA2 := ok_allt (P := l.prog) (w := w) (base := base) (n := 2) Ftext_of_all OT2 (by decide)
  have OA2 : OnceF l.prog w K mg base "text_of_all" 9 ["world", "items"] (spAllT K C CW 2) fm12 _ := ⟨GA2, gtext_of_all, Ftext_of_all.kp, btext_of_all⟩
  have GLn := ok_line (P := l.prog) (w := w) (base := base) Fline_of wc OA2 WH
  have OLn : OnceF l.prog w K mg base "line_of" 10 ["world", "hand"] (spLine K C CW) fm11 _ := ⟨GLn, gline_of, Fline_of.kp, bline_of⟩
  have GBo := ok_board (P := l.prog) (w := w) (base := base) Fboard B hc wc OLn
  have OBo : OnceF l.prog w K mg base "board" 11 ["world"] (spBoard K C CW) fm10 _ := ⟨GBo, gboard, Fboard.kp, bboard⟩
  have GMi : FnOk l.prog w K mg base CX0 1 fm14 (PySem.W.fnOf "_law_mix" "_law_mix" (defArgs sMix) (defBody sMix) (defScope sMix) .none kVm14 dcm14 pmm14 anm14 cdm14 ctm14) ["_law_script", "_law_seed"] (spMix K) := ok_mix F_law_mix B
  have OMi : OnceF l.prog w K mg base "_law_mix" 1 ["_law_script", "_law_seed"] (spMix K) fm14 _ := ⟨GMi, g_law_mix, F_law_mix.kp, b_law_mix⟩
  have GNx : FnOk l.prog w K mg base CX0 1 fm15 (PySem.W.fnOf "_law_next" "_law_next" (defArgs sNx) (defBody sNx) (defScope sNx) .none kVm15 dcm15 pmm15 anm15 cdm15 ctm15) ["_law_h", "_law_limit"] (spNx) := ok_nx F_law_next B zM
  have ONx : OnceF l.prog w K mg base "_law_next" 1 ["_law_h", "_law_limit"] (spNx) fm15 _ := ⟨GNx, g_law_next, F_law_next.kp, b_law_next⟩
  have GDn := ok_drn (P := l.prog) (w := w) (base := base) F_law_drawn B ONx
  have ODn : OnceF l.prog w K mg base "_law_drawn" 2 ["_law_h", "_law_most"] (spDrn K) fm22 _ := ⟨GDn, g_law_drawn, F_law_drawn.kp, b_law_drawn⟩
  have GHm := ok_hsm (P := l.prog) (w := w) (base := base) F_law_house M GH gC bt0
  have OHm : OnceF l.prog w K mg base "_law_house" 7 ["_law_drawn_here"] (spHsM K C) fm23 _ := ⟨GHm, g_law_house, F_law_house.kp, b_law_house⟩
  have GIt : FnOk l.prog w K mg base CX0 1 fm21 (PySem.W.fnOf "_law_items" "_law_items" (defArgs sItm) (defBody sItm) (defScope sItm) .none kVm21 dcm21 pmm21 anm21 cdm21 ctm21) ["_law_house_here"] (spItm K) := ok_itm F_law_items B
  have OIt : OnceF l.prog w K mg base "_law_items" 1 ["_law_house_here"] (spItm K) fm21 _ := ⟨GIt, g_law_items, F_law_items.kp, b_law_items⟩
  have GPl : FnOk l.prog w K mg base CX0 1 fm17 (PySem.W.fnOf "_law_place" "_law_place" (defArgs sPlc) (defBody sPlc) (defScope sPlc) .none kVm17 dcm17 pmm17 anm17 cdm17 ctm17) ["_law_state", "_law_item"] (spWhere K) := ok_plc F_law_place B
  have OPl : OnceF l.prog w K mg base "_law_place" 1 ["_law_state", "_law_item"] (spWhere K) fm17 _ := ⟨GPl, g_law_place, F_law_place.kp, b_law_place⟩
  have GMv : FnOk l.prog w K mg base CX0 1 fm18 (PySem.W.fnOf "_law_moved" "_law_moved" (defArgs sMvd) (defBody sMvd) (defScope sMvd) .none kVm18 dcm18 pmm18 anm18 cdm18 ctm18) ["_law_state", "_law_item", "_law_place_here"] (spSet K) := ok_mvd F_law_moved B
  have OMv : OnceF l.prog w K mg base "_law_moved" 1 ["_law_state", "_law_item", "_law_place_here"] (spSet K) fm18 _ := ⟨GMv, g_law_moved, F_law_moved.kp, b_law_moved⟩
  have GLi : FnOk l.prog w K mg base CX0 1 fm19 (PySem.W.fnOf "_law_lid" "_law_lid" (defArgs sLid) (defBody sLid) (defScope sLid) .none kVm19 dcm19 pmm19 anm19 cdm19 ctm19) ["_law_state", "_law_box"] (spLd K) := ok_lid F_law_lid B
  have OLi : OnceF l.prog w K mg base "_law_lid" 1 ["_law_state", "_law_box"] (spLd K) fm19 _ := ⟨GLi, g_law_lid, F_law_lid.kp, b_law_lid⟩
  have GIn : FnOk l.prog w K mg base CX0 1 fm20 (PySem.W.fnOf "_law_inside" "_law_inside" (defArgs sIns) (defBody sIns) (defScope sIns) .none kVm20 dcm20 pmm20 anm20 cdm20 ctm20) ["_law_state", "_law_box"] (spInside K) := ok_ins F_law_inside B
  have OIn : OnceF l.prog w K mg base "_law_inside" 1 ["_law_state", "_law_box"] (spInside K) fm20 _ := ⟨GIn, g_law_inside, F_law_inside.kp, b_law_inside⟩
  have GMa := ok_may (P := l.prog) (w := w) (base := base) F_law_may B OPl OLi
  have OMa : OnceF l.prog w K mg base "_law_may" 2 ["_law_state", "_law_deed"] (spMay K) fm24 _ := ⟨GMa, g_law_may, F_law_may.kp, b_law_may⟩
  have GDo := ok_dne (P := l.prog) (w := w) (base := base) F_law_done B OMv OLi
  have ODo : OnceF l.prog w K mg base "_law_done" 2 ["_law_state", "_law_deed"] (spDne K) fm25 _ := ⟨GDo, g_law_done, F_law_done.kp, b_law_done⟩
  have GKn := ok_kno (P := l.prog) (w := w) (base := base) F_law_known B zS OIt
  have OKn : OnceF l.prog w K mg base "_law_known" 2 ["_law_drawn_here", "_law_hands"] (spKno K) fm26 _ := ⟨GKn, g_law_known, F_law_known.kp, b_law_known⟩
  have GL0 : FnOk l.prog w K mg base CX0 2 fm27 (PySem.W.fnOf "_law_listed" "_law_listed" (defArgs sLst) (defBody sLst) (defScope sLst) .none kVm27 dcm27 pmm27 anm27 cdm27 ctm27) ["_law_state", "_law_items_here"] (spLstT K 0) := ok_lstT0 F_law_listed B
  have OL0 : OnceF l.prog w K mg base "_law_listed" (2 + 0) ["_law_state", "_law_items_here"] (spLstT K 0) fm27 _ := ⟨GL0, g_law_listed, F_law_listed.kp, b_law_listed⟩
  have GL1 := ok_lstTS (P := l.prog) (w := w) (base := base) (n := 0) F_law_listed B OL0 OIn OLi (by decide)
  have OL1 : OnceF l.prog w K mg base "_law_listed" (2 + 1) ["_law_state", "_law_items_here"] (spLstT K 1) fm27 _ := ⟨GL1, g_law_listed, F_law_listed.kp, b_law_listed⟩
  have GL2 := ok_lstLS (P := l.prog) (w := w) (base := base) (n := 1) F_law_listed B OL1 OIn OLi (by decide)
  have OL2 : OnceF l.prog w K mg base "_law_listed" 4 ["_law_state", "_law_items_here"] (spLstL K 2) fm27 _ := ⟨GL2, g_law_listed, F_law_listed.kp, b_law_listed⟩
  have GAl : FnOk l.prog w K mg base CX0 1 fm16 (PySem.W.fnOf "_law_alike" "_law_alike" (defArgs sAlk) (defBody sAlk) (defScope sAlk) .none kVm16 dcm16 pmm16 anm16 cdm16 ctm16) ["_law_found", "_law_due"] (spAlS) := ok_alS F_law_alike B zD
  have OAl : OnceF l.prog w K mg base "_law_alike" 1 ["_law_found", "_law_due"] (spAlS) fm16 _ := ⟨GAl, g_law_alike, F_law_alike.kp, b_law_alike⟩
  have LB : LawB l.prog w K mg base C CW :=
    { MI := ⟨_, _, OMi⟩, NX := ⟨_, _, ONx⟩, DN := ⟨_, _, ODn⟩, HM := ⟨_, _, OHm⟩, IT := ⟨_, _, OIt⟩, PL := ⟨_, _, OPl⟩, LS := ⟨_, _, OL2⟩, AL := ⟨_, _, OAl⟩, KN := ⟨_, _, OKn⟩, MA := ⟨_, _, OMa⟩, DO := ⟨_, _, ODo⟩, BO := ⟨_, _, OBo⟩, WM := ⟨_, _, WM⟩, CH := ⟨_, _, GCh, ⟨at2, i2, kt2⟩, bt2⟩, WC := wc }
  exact ok_lawB Flaw LB B
end Kw

set_option Elab.async false
set_option linter.all false
open PySem PySem.W PyProof.Rows
set_option maxRecDepth 100000 in
set_option maxHeartbeats 0 in
theorem PySem.Challenge.cw_sealwatch_k49_whole_boards_holds : PySem.Challenge.rw_sealwatch_k49_whole_boards.Holds := by
  w_on; o_law; k_head; (case hw => w_witness2)
  k_fill
  refine LamX.walk_ofTs (l := PySem.Challenge.rw_sealwatch_k49_whole_boards) (n := 63) (k := 12) (CX := fun _ => L2.CX0) (x := "_law_script") rfl (by decide) rfl ⟨rfl, by decide, by decide⟩ (fun w h Y => PySem.W.kIn_of Y) ?F (fun _ _ _ _ _ z => z)
  case F =>
    intro w mg fa h Y KX G hmg
    refine' Kw.all_mk KX G hmg ?aC ?aCW ?nUnknownHand ?nUnknownBox ?nInvalidHouse ?am0 ?lm0 ?cm0 ?km0 ?am1 ?lm1 ?cm1 ?km1 ?am2 ?lm2 ?cm2 ?km2 ?am3 ?lm3 ?cm3 ?km3 ?am4 ?lm4 ?cm4 ?km4 ?am5 ?lm5 ?cm5 ?km5 ?am6 ?lm6 ?cm6 ?km6 ?am7 ?lm7 ?cm7 ?km7 ?am8 ?lm8 ?cm8 ?km8 ?am9 ?lm9 ?cm9 ?km9 ?am10 ?lm10 ?cm10 ?km10 ?am11 ?lm11 ?cm11 ?km11 ?am12 ?lm12 ?cm12 ?km12 ?am13 ?lm13 ?cm13 ?km13 ?am14 ?lm14 ?cm14 ?km14 ?am15 ?lm15 ?cm15 ?km15 ?am16 ?lm16 ?cm16 ?km16 ?am17 ?lm17 ?cm17 ?km17 ?am18 ?lm18 ?cm18 ?km18 ?am19 ?lm19 ?cm19 ?km19 ?am20 ?lm20 ?cm20 ?km20 ?am21 ?lm21 ?cm21 ?km21 ?am22 ?lm22 ?cm22 ?km22 ?am23 ?lm23 ?cm23 ?km23 ?am24 ?lm24 ?cm24 ?km24 ?am25 ?lm25 ?cm25 ?km25 ?am26 ?lm26 ?cm26 ?km26 ?am27 ?lm27 ?cm27 ?km27 ?am28 ?lm28 ?cm28 ?km28 ?at0 ?lt0 ?ct0 ?kt0 ?i0 ?at1 ?lt1 ?ct1 ?kt1 ?i1 ?at2 ?lt2 ?ct2 ?kt2 ?i2 ?at3 ?lt3 ?ct3 ?kt3 ?i3 ?at4 ?lt4 ?ct4 ?kt4 ?i4 ?at5 ?lt5 ?ct5 ?kt5 ?i5 ?hpg ?hhd ?hpo ?hsa ?hmk ?hkc ?vpg ?vhd ?vpo ?vsa ?vmk ?vkc ?nH ?nB ?nT ?nS ?nSt ?wnH ?wnS ?xtp ?xtop ?xLInvalidHouse ?xvInvalidHouse ?xaInvalidHouse ?xsaInvalidHouse ?xexInvalidHouse ?xtyInvalidHouse ?xkcInvalidHouse ?xveInvalidHouse ?xseInvalidHouse ?xnPInvalidHouse ?xnIInvalidHouse ?xiInvalidHouse ?xitInvalidHouse ?xilInvalidHouse ?xicInvalidHouse ?xclInvalidHouse ?xcfInvalidHouse ?xffInvalidHouse ?xccInvalidHouse ?eexUnknownHand ?ekpUnknownHand ?esbUnknownHand ?etyUnknownHand ?eexUnknownBox ?ekpUnknownBox ?esbUnknownBox ?etyUnknownBox ?zisinstance ?zint ?zbool ?zlen ?zenumerate ?ztuple ?zlist ?zrange ?zstr ?zsuper ?zsorted ?zmax ?zdict ?jh ?jb ?jt ?js
    (case aC => k_is)
    (case aCW => k_is)
    (case nUnknownHand => k_is)
    (case nUnknownBox => k_is)
    (case nInvalidHouse => k_is)
    (case am0 => k_is)
    (case lm0 => k_is)
    (case cm0 => k_is)
    (case km0 => k_is)
    (case am1 => k_is)
    (case lm1 => k_is)
    (case cm1 => k_is)
    (case km1 => k_is)
    (case am2 => k_is)
    (case lm2 => k_is)
    (case cm2 => k_is)
    (case km2 => k_is)
    (case am3 => k_is)
    (case lm3 => k_is)
    (case cm3 => k_is)
    (case km3 => k_is)
    (case am4 => k_is)
    (case lm4 => k_is)
    (case cm4 => k_is)
    (case km4 => k_is)
    (case am5 => k_is)
    (case lm5 => k_is)
    (case cm5 => k_is)
    (case km5 => k_is)
    (case am6 => k_is)
    (case lm6 => k_is)
    (case cm6 => k_is)
    (case km6 => k_is)
    (case am7 => k_is)
    (case lm7 => k_is)
    (case cm7 => k_is)
    (case km7 => k_is)
    (case am8 => k_is)
    (case lm8 => k_is)
    (case cm8 => k_is)
    (case km8 => k_is)
    (case am9 => k_is)
    (case lm9 => k_is)
    (case cm9 => k_is)
    (case km9 => k_is)
    (case am10 => k_is)
    (case lm10 => k_is)
    (case cm10 => k_is)
    (case km10 => k_is)
    (case am11 => k_is)
    (case lm11 => k_is)
    (case cm11 => k_is)
    (case km11 => k_is)
    (case am12 => k_is)
    (case lm12 => k_is)
    (case cm12 => k_is)
    (case km12 => k_is)
    (case am13 => k_is)
    (case lm13 => k_is)
    (case cm13 => k_is)
    (case km13 => k_is)
    (case am14 => k_is)
    (case lm14 => k_is)
    (case cm14 => k_is)
    (case km14 => k_is)
    (case am15 => k_is)
    (case lm15 => k_is)
    (case cm15 => k_is)
    (case km15 => k_is)
    (case am16 => k_is)
    (case lm16 => k_is)
    (case cm16 => k_is)
    (case km16 => k_is)
    (case am17 => k_is)
    (case lm17 => k_is)
    (case cm17 => k_is)
    (case km17 => k_is)
    (case am18 => k_is)
    (case lm18 => k_is)
    (case cm18 => k_is)
    (case km18 => k_is)
    (case am19 => k_is)
    (case lm19 => k_is)
    (case cm19 => k_is)
    (case km19 => k_is)
    (case am20 => k_is)
    (case lm20 => k_is)
    (case cm20 => k_is)
    (case km20 => k_is)
    (case am21 => k_is)
    (case lm21 => k_is)
    (case cm21 => k_is)
    (case km21 => k_is)
    (case am22 => k_is)
    (case lm22 => k_is)
    (case cm22 => k_is)
    (case km22 => k_is)
    (case am23 => k_is)
    (case lm23 => k_is)
    (case cm23 => k_is)
    (case km23 => k_is)
    (case am24 => k_is)
    (case lm24 => k_is)
    (case cm24 => k_is)
    (case km24 => k_is)
    (case am25 => k_is)
    (case lm25 => k_is)
    (case cm25 => k_is)
    (case km25 => k_is)
    (case am26 => k_is)
    (case lm26 => k_is)
    (case cm26 => k_is)
    (case km26 => k_is)
    (case am27 => k_is)
    (case lm27 => k_is)
    (case cm27 => k_is)
    (case km27 => k_is)
    (case am28 => k_is)
    (case lm28 => k_is)
    (case cm28 => k_is)
    (case km28 => k_is)
    (case at0 => k_is)
    (case lt0 => k_is)
    (case ct0 => k_is)
    (case kt0 => k_is)
    (case i0 => k_is)
    (case at1 => k_is)
    (case lt1 => k_is)
    (case ct1 => k_is)
    (case kt1 => k_is)
    (case i1 => k_is)
    (case at2 => k_is)
    (case lt2 => k_is)
    (case ct2 => k_is)
    (case kt2 => k_is)
    (case i2 => k_is)
    (case at3 => k_is)
    (case lt3 => k_is)
    (case ct3 => k_is)
    (case kt3 => k_is)
    (case i3 => k_is)
    (case at4 => k_is)
    (case lt4 => k_is)
    (case ct4 => k_is)
    (case kt4 => k_is)
    (case i4 => k_is)
    (case at5 => k_is)
    (case lt5 => k_is)
    (case ct5 => k_is)
    (case kt5 => k_is)
    (case i5 => k_is)
    (case hpg => k_is)
    (case hhd => k_is)
    (case hpo => k_is)
    (case hsa => k_is)
    (case hmk => k_is)
    (case hkc => k_is)
    (case vpg => k_is)
    (case vhd => k_is)
    (case vpo => k_is)
    (case vsa => k_is)
    (case vmk => k_is)
    (case vkc => k_is)
    (case nH => k_is)
    (case nB => k_is)
    (case nT => k_is)
    (case nS => k_is)
    (case nSt => k_is)
    (case wnH => k_is)
    (case wnS => k_is)
    (case xtp => k_is)
    (case xtop => first | rfl | kernel_rfl | decide +kernel)
    (case xLInvalidHouse => k_is)
    (case xvInvalidHouse => first | rfl | kernel_rfl | decide +kernel)
    (case xaInvalidHouse => first | rfl | kernel_rfl | decide +kernel)
    (case xsaInvalidHouse => k_is)
    (case xexInvalidHouse => k_is)
    (case xtyInvalidHouse => k_is)
    (case xkcInvalidHouse => k_is)
    (case xveInvalidHouse => k_is)
    (case xseInvalidHouse => k_is)
    (case xnPInvalidHouse => k_is)
    (case xnIInvalidHouse => k_is)
    (case xiInvalidHouse => k_is)
    (case xitInvalidHouse => k_is)
    (case xilInvalidHouse => k_is)
    (case xicInvalidHouse => k_is)
    (case xclInvalidHouse => k_is)
    (case xcfInvalidHouse => first | rfl | kernel_rfl | decide +kernel)
    (case xffInvalidHouse => first | rfl | kernel_rfl | decide +kernel)
    (case xccInvalidHouse => k_is)
    (case eexUnknownHand => first | rfl | kernel_rfl | decide +kernel)
    (case ekpUnknownHand => k_is)
    (case esbUnknownHand => k_is)
    (case etyUnknownHand => k_is)
    (case eexUnknownBox => first | rfl | kernel_rfl | decide +kernel)
    (case ekpUnknownBox => k_is)
    (case esbUnknownBox => k_is)
    (case etyUnknownBox => k_is)
    (case zisinstance => k_is)
    (case zint => k_is)
    (case zbool => k_is)
    (case zlen => k_is)
    (case zenumerate => k_is)
    (case ztuple => k_is)
    (case zlist => k_is)
    (case zrange => k_is)
    (case zstr => k_is)
    (case zsuper => k_is)
    (case zsorted => k_is)
    (case zmax => k_is)
    (case zdict => k_is)
    (case jh => k_is)
    (case jb => k_is)
    (case jt => k_is)
    (case js => k_is)
#print axioms PySem.Challenge.cw_sealwatch_k49_whole_boards_holds
