import PyProof.Rows.All
import Wide.All
import OpenK.AllK
import Wide.FinOn
import KE.KExcSuper
import KE.KExcIs
import HandS.ForMost
import HandS.ExcInit
import HandS.ExcValue
import HandS.ExcField
import HandS.Nested
import HandS.IsInst
import PySem.Challenge.RW_goalsmith_k17_refusals
set_option Elab.async false
set_option maxRecDepth 100000
set_option maxHeartbeats 8000000
namespace E17
open PySem PySem.Spec PyProof.Rows L2
/-! ### exceptions that stand as values -/
/-- at a stands an exception of the class C, with or without a dict of its own -/
def IsEx (H : Hp) (a C : Addr) : Prop :=
  H a = some (ExO (.ref C) a) ∨ H a = some (exo a C none) ∨ ∃ dx fs, H a = some (exo a C (some dx)) ∧ H dx = some (exd dx fs)
section
variable {X : Cx} {pins : List (Addr × Obj)} {σ : L2.St} {H : Hp} {s : Shared} {a C : Addr}
theorem IsEx.inst (I : Inv X pins σ H s) (h : IsEx H a C) : ∃ oe od, PySem.W.InstAt s.heap a oe C od := by
  rcases h with h | h | ⟨dx, fs, h, h2⟩
  · obtain ⟨⟨oe, vs, e1, ⟨z1, z2⟩, e2, _⟩, _⟩ := I.hok a _ h
    refine ⟨oe, none, e1, z1, ?_, ?_⟩
    · unfold PySem.W.notCls
      rw [e2]
    · rw [z2]
      trivial
  · obtain ⟨t1, e⟩ := exo_at I.hok h
    exact ⟨_, none, e, rfl, rfl, trivial⟩
  · obtain ⟨t1, e⟩ := exo_at I.hok h
    obtain ⟨mA, ⟨od, es, ep, ho, _⟩, _⟩ := exd_at I.hok h2
    exact ⟨_, some od, e, rfl, rfl, ho⟩
end
/-- what isinstance and the reading of a field ask of the class -/
structure ClsE (K : PySem.W.Frag) (C : Addr) : Prop where
  cl : (PySem.W.clsIn K C).isSome = true
  ga : PySem.W.findIn K (.ref C) "__getattribute__" = some (some (.builtin "BaseException.__getattribute__"))
  gg : PySem.W.findIn K (.ref C) "__getattr__" = some none
  sb : PySem.W.subIn K (.ref C) (.type "BaseException") = some true
  cc : PySem.W.findIn K (.ref C) "__class__" = some (some (.builtin "object.__class__"))
  so : PySem.W.specialIn K (.builtin "object.__class__") "__get__" = some (some (.builtin "getset_descriptor.__get__"))
  tk : PySem.W.takesIn K (.builtin "object.__class__") = some true
  mo : PySem.W.mroIn K C (.type "object") = some true
  hd : PySem.W.hasDictIn K C = true
/-- isinstance(e, c), e such an exception -/
def rIsEx (K : PySem.W.Frag) : List V → Hp → VK → Prop := fun xs H Q =>
  ∃ (a D : Addr) (c : V) (cv : Value) (b : Bool), xs = [.ref a, c] ∧ IsEx H a D ∧ ClsE K D ∧ (∀ u, RelV c u → u = cv) ∧ PySem.W.kitOne K (.ref D) cv = some b ∧ Q (.bl b) H
theorem call_isEx {X : Cx} : CallR X (.builtin "isinstance") (rIsEx X.K) := by
  intro pins s σ H xs us Q I r h
  obtain ⟨a, D, c, cv, b, rfl, hx, T, hcv, e, q⟩ := h
  match us, r with
  | [u1, u2], .cons r1 (.cons r2 .nil) =>
    obtain rfl : u1 = Value.ref a := r1
    have e2 := hcv u2 r2
    subst e2
    obtain ⟨oe, od, J⟩ := hx.inst I
    exact PySem.W.kia_one (PySem.W.kitx_exc T.cl T.ga T.gg T.sb T.cc T.so T.tk T.mo) I.kIn J e (fun z => nomatch z) fun tk => ⟨.bl b, H, I.kept (t' := tk) fun _ _ z => z, rfl, q⟩
/-- e.f, e such an exception with a dict -/
def tXat (K : PySem.W.Frag) (n : Str) (te : TE) : TE := fun σ H Q => te σ H fun x H1 =>
  ∃ (a C dx : Addr) (fs : List (Str × V)) (v : V), x = .ref a ∧ H1 a = some (exo a C (some dx)) ∧ H1 dx = some (exd dx fs) ∧ ClsE K C ∧ PySem.W.findIn K (.ref C) n = some none ∧ fs.lookup n = some v ∧ Q v H1
theorem pe_xat {X : Cx} {e : Expr} {te : TE} {pos : Pos} {n : Str} (he : PE X e te) (hb : attributeBase e n X.env (eval e X.env) = eval e X.env := by rfl) : PE X (.Attribute e n pos) (tXat X.K n te) := by
  refine ⟨fun pins s σ H Q I h => ?_⟩
  refine attr_of hb (thn (he.run pins s σ H _ I h) fun u s1 hh => ?_)
  obtain ⟨x, H1, I1, rx, a, C, dx, fs, v, ex, ha, hd, T, hno, hl, q⟩ := hh
  subst ex
  obtain rfl : u = Value.ref a := rx
  obtain ⟨t1, ho⟩ := exo_at I1.hok ha
  obtain ⟨mA, hns, hr⟩ := exd_at I1.hok hd
  obtain ⟨od, hod, hlook⟩ := lookIn_ns hns
  obtain ⟨u, hu, ru⟩ := RelO.some_of (v := v) (o := mA n) (by rw [← hl]; exact hr n)
  have J : PySem.W.InstAt s1.heap a _ C (some od) := ⟨ho, rfl, rfl, hod⟩
  exact HandSPX.exc_get I1.kIn J T.ga T.gg T.sb (PySem.W.findObj_own T.hd hno rfl (by rw [hlook, hu])) (handed_of ru) ⟨v, H1, I1.tok _, ru, q⟩
/-! ### C(e, ..) as a value, C's own __init__ keeping sp -/
def tMkV (C : Addr) (sp : Sp) (ta : TA) : TE := fun σ H Q => ta σ H fun vs H1 => vs.length ≤ 1000 ∧ ∀ a, H1 a = none →
  sp (.ref a :: vs) (upd H1 a (exo a C none)) (fun v H2 => v = .non ∧ Q (.ref a) H2) (fun _ _ _ => False)
theorem pe_mkv {X : Cx} {CX : CXT} {x : Str} {C fI : Addr} {k : Nat} {fd : FuncData} {ps : List Str} {sp : Sp} {e : Expr} {es : List Expr} {ta : TA} {p pos : Pos} (T : OexC X.K C)
    (iC : PySem.W.findIn X.K (.ref C) "__init__" = some (some (.ref fI))) (tI : PySem.W.typeIn X.K (.ref fI) = some (.type "function"))
    (G : FnOk X.prog X.w X.K X.mg X.base CX k fI fd ps sp) (hr : Room (k + 1) X.A) (hb : Binds X.K fd ps []) (hx : Passes CX X (fun _ _ _ => False)) (hg : Gl X x) (hm : X.mg x = some (.ref C)) (ha : PA X (e :: es) ta)
    (hdb : (x == ("__debug__" : Str)) = false := by decide) (he : starEach (e :: es) X.env = (false, eval e X.env) :: starEach es X.env := by rfl) (hpl : (backTo pos (starEach es X.env)).any (·.1) = false := by rfl) :
    PE X (.Call (.Name x p) (e :: es) [] pos) (tMkV C sp ta) := by
  refine ⟨fun pins s σ H Q I h => ?_⟩
  obtain ⟨nm, qn, N, bs, bm, sn, sub, ab, col, dd, k0, k1, k2, k3, k5, hC, hbm⟩ := T.cls
  refine wpAny_Call_Name_kw (ld_glob I hg hm ?_ hdb)
  refine PySem.W.callWith_K (h₀ := X.base) I.ok.mod.kin T.kC (thn (ha.run pos pins s σ H _ I h) fun us s1 h1 => ?_) he hpl
  obtain ⟨vs, H1, I1, r1, hz, q1⟩ := h1
  refine ⟨I1.kIn, ?_⟩
  show wpAny _ _ (call (.ref C) us) _ _ _
  obtain ⟨hp, g, dr, tk, os⟩ := s1
  let a := hp.objs.size + 1
  let hp2 := (hp.push (PySem.W.kdv_tup us)).push (PySem.HandSPX.excO C hp.objs.size)
  have na : H1 a = none := I1.hok.fresh (Nat.le_succ _)
  have kk : ∀ b o, hp.get? b = some o → hp2.get? b = some o := fun b o z => Heap.get?_push_of_some _ (Heap.get?_push_of_some _ z)
  have hget : hp2.get? a = some (PySem.HandSPX.excO C hp.objs.size) := by
    show ((hp.push (PySem.W.kdv_tup us)).push (PySem.HandSPX.excO C hp.objs.size)).get? (hp.objs.size + 1) = _
    heap_get
  have I2 : Inv X pins σ (upd H1 a (exo a C none)) ⟨hp2, g, dr, tk, os⟩ := I1.laid (t' := tk) kk (Nat.le_succ _) (exo_ok hget)
  have r2 : Vals (V.ref a :: vs) (Value.ref a :: us) := .cons rfl r1
  have hq := q1 a na
  have hlen : (Value.ref a :: us ++ []).length = ps.length := by
    rw [List.append_nil, ← r2.length]
    exact G.len _ _ _ _ hq
  have hus : us.length ≤ sizeLine := by
    rw [← r1.length, sizeLine_eq]
    omega
  have hb2 := hb ⟨hp2, g, dr, tk, os⟩ (Value.ref a :: us) I2.kIn hlen
  rw [List.append_nil] at hb2
  refine wpAny_call (PySem.HandSPX.call_own F.excBase_ValueError (fun Y => PySem.HandSPX.refsVE_contains Y bm hbm) (I1.kIn _ _ hC) (PySem.W.looks_findIn I1.kIn iC) (fun self => PySem.W.bind_fn I1.kIn self tI) hus
    (codeAny_mono (G.run _ X.stack _ _ ⟨Value.ref a :: us, []⟩ (Value.ref a :: us) _ _ (fun _ _ _ => False) (hr.make C us []) (I2.env0.make C us []) hb2 r2 hq) fun r s' hq' => ?_))
  cases r with
  | error er => exact hx pins σ _ _ er s' I2 hq'
  | ok fl =>
    cases fl with
    | ret u =>
      obtain ⟨v, H2, os2, bare2, un2, hok2, rv, ev, q2⟩ := hq'
      subst ev
      refine ⟨rv, ?_⟩
      exact ⟨.ref a, H2, I2.call' (ch := []) os2 un2 hok2 bare2 (fun b z => absurd z (by simp)), rfl, q2⟩
    | next => exact False.elim hq'
    | brk => exact False.elim hq'
    | cont => exact False.elim hq'
end E17
namespace E17
open PySem PySem.Spec PyProof.Rows L2 NdefX
/-! ### an __init__ whose first statement is super().__init__(text) -/
/-- where such a def stands: its cell «__class__» holds the class C, its code tells the program's file -/
structure SupF (P : Program) (K : PySem.W.Frag) (C f cc : Addr) (F : NF) (fd : FuncData) : Prop where
  eq : ∃ kV doc pm an ct, fd = PySem.W.fnX F.name F.qual F.params F.body F.scope F.cl .none kV doc pm an (.ref F.c) ct
  lk : ∃ oc od osl, K.lookup f = some ⟨oc, od, .func fd, osl⟩
  cl : F.cl = [(("__class__" : Str), cc)]
  cell : ∃ c d sl, K.lookup cc = some ⟨c, d, .cell (some (.ref C)), sl⟩
  code : PySem.W.codeIn K (.ref F.c) F.qual = true
  file : ∃ c d sl vs t fl, K.lookup F.c = some ⟨c, d, .fields vs, sl⟩ ∧ vs[2]? = some (.str fl t) ∧ ((P.main.file : Str) == fl) = true
  top : (P.main.scope.names.lookup ("super" : Str)).isSome = false
  par : (F.params.posonlyargs ++ F.params.args).head?.map (·.arg) = some ("self" : Str)
/-- what the class says: where super() from C goes on -/
structure SupC (K : PySem.W.Frag) (C : Addr) : Prop where
  oex : OexC K C
  nx : PySem.W.ks_superIn K C C "__init__" = some (some (.builtin "ValueError.__init__"))
  sb : PySem.W.subIn K (.ref C) (.type "ValueError") = some true
  self : PySem.W.mroIn K C (.ref C) = some true
  op : PySem.W.nsIn K cStatics "thirdparty.any" = some none
abbrev supCall (p0 p1 p2 p3 p4 p5 : Pos) (txt : Str) (i : Nat) : Stmt :=
  .Expr (.Call (.Attribute (.Call (.Name "super" p0) [] [] p1) "__init__" p2) [.Constant (.str txt) i p3] [] p4) p5
/-- the bound built-in __init__ called: the exception's args are laid anew -/
theorem call_mw {prog : Program} {w : World} {A : Around} {E : Value → Shared → Prop} {Q : Value → Shared → Prop} {s : Shared} {u x t C N : Addr} {rest : List Value} {nm q : Str} {bs bm : List Value} {hdct : Bool} {sn : List Str} {sub : List Value} {ab : Bool} {col : Option Bool} {dd : Option Addr}
    {k0 k1 k2 k3 k5 : Option Value} (hu : s.heap.get? u = some (PySem.W.kxs_mw "ValueError.__init__" x)) (hC : s.heap.get? C = some (excClassObj nm q C N bs bm hdct sn sub ab col dd k0 k1 k2 k3 k5 "ValueError.__new__"))
    (he : s.heap.get? x = some ({ cls := .ref C, dict := none, data := .fields #[.ref t, .none, .none, .none, .bool false, .none] } : Obj)) (hz : rest.length ≤ sizeLine)
    (h : ∀ h' t', (∀ b o, b ≠ x → s.heap.get? b = some o → h'.get? b = some o) → h'.get? x = some ({ cls := .ref C, dict := none, data := .fields #[.ref t', .none, .none, .none, .bool false, .none] } : Obj) → Q .none { s with heap := h' }) :
    wpAny (model prog w) A (call (.ref u) rest) Q E s := by
  have FB := F.excBase_ValueError
  obtain ⟨hh, g, d, tk, os⟩ := s
  refine wpAny_call (codeAny_of_tree (show wpAny _ A.in1 (callAny (.ref u) ⟨rest, []⟩) _ _ _ from ?_))
  unfold callAny
  refine wpAny_bind (wpAny_load hu (PySem.W.KFB.if_so (by rfl) ?_))
  refine wpAny_bind (PySem.W.check_bound_init FB.toExcCallFacts hC he rfl (wpAny_bind (wpAny_pure (wpAny_pure ⟨plainId_quiet FB.init.plain _, codeAny_builtin FB.initEntry ?_⟩))))
  exact PySem.W.exc_init_tree (c2 := .none) (c3 := .none) (b4 := .bool false) he hz fun h' k e _ => h h' _ k e
section
variable {P : Program} {w : World} {K : PySem.W.Frag} {mg : Str → Option Value} {base : Heap} {C f cc : Addr} {F : NF} {fd : FuncData} {k : Nat} {sp : Sp} {N ps : List Str}
  {p0 p1 p2 p3 p4 p5 : Pos} {txt : Str} {i : Nat} {rest : List Stmt} {pl : Env → Sem Bool}
theorem fn_super (L : SupF P K C f cc F fd) (T : SupC K C) (hm : mg "super" = none) (hF : F.body = supCall p0 p1 p2 p3 p4 p5 txt i :: rest) (S : NScope N ps ["__class__"] F.scope)
    (hs0 : F.scope.names.lookup ("super" : Str) = some .globalImplicit) (hsl : F.scope.names.lookup ("self" : Str) = some .local) (hps : ps[0]? = some ("self" : Str))
    (hev : ∀ env : Env, eval (.Call (.Attribute (.Call (.Name "super" p0) [] [] p1) "__init__" p2) [.Constant (.str txt) i p3] [] p4) env = (do
      let ov ← attributeBase (.Call (.Name "super" p0) [] [] p1) "__init__" env (eval (.Call (.Name "super" p0) [] [] p1) env)
      standAt p2.atName
      let (g, first) ← holding [ov] (getMethod ov "__init__" (pl env))
      callWith p4 g first (backTo p4 (starEach [.Constant (.str txt) i p3] env)) []))
    (len : ∀ vs H Q E, sp vs H Q E → vs.length = ps.length)
    (hbody : ∀ (A : Around) (outer : List Env) (s : Shared) (H : Hp) (vs : List V) (Q : VK) (E : XK), Room k (A.deeper (envF F f s.heap.objs.size)) → sp vs H Q E →
      ∃ a, vs[0]? = some (.ref a) ∧ H a = some (exo a C none) ∧ ∃ t, PSs (ncx CX0 P w K mg base N F f A outer s H E) rest t ∧ t { nx := fun _ H' => Q .non H', rt := Q } (startF N vs [none]) H) :
    FnOk P w K mg base CX0 (k + 1) f fd ps sp := by
  refine ⟨len, fun A outer s H args us vs Q E hr e0 hb r hsp => ?_⟩
  obtain ⟨kV, doc, pm, an, ct, rfl⟩ := L.eq
  obtain ⟨oc, od, osl, lk⟩ := L.lk
  obtain ⟨cc1, cc2, cc3, hcell⟩ := L.cell
  obtain ⟨ck1, ck2, ck3, cvs, ctk, cfl, hcode, hcvs, hfile⟩ := L.file
  have hl := len _ _ _ _ hsp
  have KX : K.In s.heap := e0.mod.kin.keeps fun b o e => (e0.bs b o e).1
  have lim : s.heap.NoLimit := e0.mod.nolimit.keeps fun b o e => (e0.bs b o e).1
  have ncc : H cc = none := (e0.bs cc _ (e0.mod.kin _ _ hcell)).2
  have CA : CellsAt F.cl ["__class__"] [none] s.heap H := by
    rw [L.cl]
    have one : ∀ y c, List.lookup y [(("__class__" : Str), cc)] = some c → y = "__class__" ∧ c = cc := fun y c e => by
      by_cases hy : y = ("__class__" : Str)
      · subst hy
        simp at e
        exact ⟨rfl, e.symm⟩
      · have z : (y == ("__class__" : Str)) = false := by simpa using hy
        simp [List.lookup, z] at e
    refine ⟨rfl, fun y c e => ?_, fun x y c e1 e2 => ?_, fun j y e => ?_⟩
    · obtain ⟨_, rfl⟩ := one y c e
      exact ⟨ncc, _, _, KX _ _ hcell, rfl⟩
    · rw [(one x c e1).1, (one y c e2).1]
    · match j, e with
      | 0, e =>
        have e : ("__class__" : Str) = y := Option.some.inj e
        subst e
        refine ⟨cc, by simp, fun v e => ?_⟩
        cases e
  refine PySem.ks_codeAny_call_defAt (body := F.body) (binds := ps.zip us) hr.depth (KX _ _ lk) rfl lim (PySem.W.codeRec_of KX L.code) rfl hb S.nocell (fun y hy => S.par y.1 (List.of_mem_zip hy).1) (fun h₁ hns hk => ?_) S.co S.gen S.kind
  obtain ⟨a, hv0, ha, t, ht, hq⟩ := hbody A outer s H vs Q E (hr.deeper _) hsp
  have I : Inv (ncx CX0 P w K mg base N F f A outer s H E) [] (startF N vs [none]) H { s with heap := h₁, toks := s.toks + (ps.zip us).length } := inv_startN S hr.hd e0 hl r CA hns hk
  have K1 : K.In h₁ := I.kIn
  obtain ⟨ar, har, hself⟩ : ∃ ar, (F.params.posonlyargs ++ F.params.args).head? = some ar ∧ ar.arg = ("self" : Str) := Option.map_eq_some_iff.mp L.par
  obtain ⟨nm, qn, NS, bs, bm, sn, sub, ab, col, dd, k0, k1, k2, k3, k5, hC, hbm⟩ := T.oex.cls
  obtain ⟨t1, hx1⟩ := exo_at I.hok ha
  have hkc : (envF F f s.heap.objs.size).kindOf "__class__" = some .free := S.frk _ (List.mem_singleton.mpr rfl)
  -- the state behind super().__init__(text)
  have after : ∀ (s5 : Shared), Inv (ncx CX0 P w K mg base N F f A outer s H E) [] (startF N vs [none]) H s5 →
      PySem.wpAt (model P w) (A.deeper (envF F f s.heap.objs.size)) (.func F.body (envF F f s.heap.objs.size)) (execs rest (envF F f s.heap.objs.size))
        (fun fl s' => CR CX0 outer P w H s Q E (.ok (.ret (match fl with | .ret v => v | _ => .none))) s')
        (fun e s' => wpAny (model P w) (A.deeper (envF F f s.heap.objs.size)) (leaving (envF F f s.heap.objs.size) e) (fun _ s'' => CR CX0 outer P w H s Q E (.error e) s'') (fun e' s'' => CR CX0 outer P w H s Q E (.error e') s'') s') s5 := by
    intro s5 I5
    refine PySem.wpAt_of_wpAny (wpAny_mono (ht.run [] s5 (startF N vs [none]) H _ I5 hq) (fun fl s' hs => ?_) fun e s' hs => hs)
    cases fl with
    | ret u =>
      obtain ⟨v, σ', H', J, rv, q⟩ := hs
      exact ⟨v, H', J.os, J.bare, J.base, J.hok, rv, q⟩
    | next =>
      obtain ⟨σ', H', J, q⟩ := hs
      exact ⟨V.non, H', J.os, J.bare, J.base, J.hok, rfl, q⟩
    | brk =>
      obtain ⟨_, _, _, q⟩ := hs
      exact False.elim q
    | cont =>
      obtain ⟨_, _, _, q⟩ := hs
      exact False.elim q
  show PySem.wpAt (model P w) (A.deeper (envF F f s.heap.objs.size)) (.func F.body (envF F f s.heap.objs.size)) (execs F.body (envF F f s.heap.objs.size)) _ _ _
  have go : PySem.wpAt (model P w) (A.deeper (envF F f s.heap.objs.size)) (.func F.body (envF F f s.heap.objs.size)) (execs (supCall p0 p1 p2 p3 p4 p5 txt i :: rest) (envF F f s.heap.objs.size))
        (fun fl s' => CR CX0 outer P w H s Q E (.ok (.ret (match fl with | .ret v => v | _ => .none))) s')
        (fun e s' => wpAny (model P w) (A.deeper (envF F f s.heap.objs.size)) (leaving (envF F f s.heap.objs.size) e) (fun _ s'' => CR CX0 outer P w H s Q E (.error e) s'') (fun e' s'' => CR CX0 outer P w H s Q E (.error e') s'') s')
        { s with heap := h₁, toks := s.toks + (ps.zip us).length } := by
    refine PySem.ks_wpAt_execs_cons (PySem.ks_wpAt_Expr_any (PySem.ks_wpAt_MethodCall ?_ (hev _)) (by simp [interactive, S.kind]))
    refine PySem.ks_wpAt_super_base hs0 hkc (by decide) rfl (K1 _ _ lk) rfl har rfl (K1 _ _ hcode) rfl hcvs hfile L.top ?_
    obtain ⟨mb, hb1, hb2⟩ := I.mod.blt
    refine PySem.W.ks_loadName_global S.kind hs0 (Calls.loadGlobal_builtin (env := envF F f s.heap.objs.size) (I.mod.glob.keeps I.bk) hm (hb1.keeps I.bk) ((hb2 "super" (by decide)).trans (by decide +kernel)) ⟨rfl, ?_⟩)
    refine wpAny_loadName_free S.kind hkc (show F.cl.lookup _ = some cc by rw [L.cl]; simp) ⟨_, K1 _ _ hcell, rfl⟩ ?_
    rw [hself]
    obtain ⟨m, hn, hloc⟩ := I.loc
    have hN0 : N[0]? = some ("self" : Str) := by
      have z : (ps ++ [("__class__" : Str)])[0]? = some ("self" : Str) := by
        rw [List.getElem?_append_left (by obtain ⟨q, _⟩ := List.getElem?_eq_some_iff.mp hps; exact q)]
        exact hps
      rw [← S.pre, List.getElem?_take_of_lt (by simp)] at z
      exact z
    have hσ0 : (startF N vs [none])[0]? = some (some (V.ref a)) := by
      unfold startF
      have q := (List.getElem?_eq_some_iff.mp hv0).1
      rw [List.getElem?_append_left (by rw [List.length_map]; exact q), List.getElem?_map, hv0]
      rfl
    obtain ⟨u, ru, lu⟩ := hloc 0 _ _ hN0 hσ0 (.inl hsl)
    obtain rfl : u = Value.ref a := ru
    have hmv : m "self" = some (.ref a) := by
      rcases lu with ⟨_, z⟩ | ⟨z, _⟩
      · exact z
      · have z : F.scope.names.lookup ("self" : Str) = some .cell ∨ F.scope.names.lookup ("self" : Str) = some .free := z
        rw [hsl] at z
        rcases z with z | z <;> cases z
    refine wpAny_loadName_local S.kind hsl hn hmv ?_
    refine PySem.ks_wpAny_isType_cls (K1 _ _ hC) rfl ⟨rfl, ?_⟩
    refine PySem.ks_wpAny_call_super (K1 _ _ hC) rfl hx1 rfl (fun c e => nomatch e) (PySem.W.looks_mroIn K1 T.self) (fun h2 e2 k2 => ?_)
    have I2 : Inv (ncx CX0 P w K mg base N F f A outer s H E) [] (startF N vs [none]) H { s with heap := h2, toks := s.toks + (ps.zip us).length } := I.kept (t' := s.toks + (ps.zip us).length) k2
    have K2 : K.In h2 := I2.kIn
    have hcl : PySem.W.clsIn K C = some { name := nm, bases := bs, mro := .ref C :: bm, ns := NS, qualname := qn, hasDict := true, slotNames := sn, subclasses := sub, abstract := ab, collection := col, hasDel := false } := by
      unfold PySem.W.clsIn
      rw [hC]
    have hnx := T.nx
    unfold PySem.W.ks_superIn at hnx
    rw [hcl] at hnx
    have J2 : PySem.W.InstAt h2 a _ C none := ⟨k2 _ _ hx1, rfl, rfl, trivial⟩
    refine PySem.W.kxs_getMethod PySem.W.kxs_ValueError e2 (PySem.W.looks_opaque K2 T.op) (l₀ := .ref C :: bm) (fun A Q E s k q => wpAny_bind ((PySem.W.looks_clsIn K2 hcl) A _ E s k (wpAny_pure q))) rfl K2 hnx
      (J2.type.andThen (PySem.W.looks_subIn K2 T.sb)) (PySem.W.ks_ne K2 J2 hcl) (by decide) ?_
    refine PySem.W.kxs_callWith (i := "ValueError.__init__") (x := a) (u := h2.objs.size) (by rfl) (Calls.evalArgs_plain ?_)
    show wpAny _ _ (spliced ((false, eval (.Constant (.str txt) i p3) (envF F f s.heap.objs.size)) :: backTo p4 (starEach [] (envF F f s.heap.objs.size)))) _ _ _
    refine Calls.spliced_cons (Calls.Constant_str (Calls.spliced_nil ⟨Heap.get?_push_size _ rfl, ?_⟩))
    have k3 : ∀ b o, h2.get? b = some o → (h2.push (PySem.W.kxs_mw "ValueError.__init__" a)).get? b = some o := fun b o z => Heap.get?_push_of_some _ z
    refine call_mw (C := C) (Heap.get?_push_size _ rfl) (k3 _ _ (K2 _ _ hC)) (k3 _ _ (k2 _ _ hx1)) (by show 1 ≤ sizeLine; decide) fun h' t' kk ee => ?_
    have I3 : Inv (ncx CX0 P w K mg base N F f A outer s H E) [] (startF N vs [none]) H { s with heap := h2.push (PySem.W.kxs_mw "ValueError.__init__" a), toks := s.toks + (ps.zip us).length + 1 + 1 } := I2.kept (t' := s.toks + (ps.zip us).length + 1 + 1) k3
    have J := I3.write (t' := s.toks + (ps.zip us).length + 1 + 1) (x := a) (e := a) (o := exo a C none) (h' := h') (by rw [ha]; trivial) (.inl rfl) kk ⟨_, ee⟩ (exo_ok ee)
    have eu : upd H a (exo a C none) = H := by
      funext b
      by_cases hb : b = a
      · rw [hb, upd_same, ha]
      · rw [upd_ne hb]
    rw [eu] at J
    exact after _ J
  rw [← hF] at go
  exact go
end
end E17
namespace E17
open PySem PySem.Spec PyProof.Rows L2 NdefX
def top (i : Nat) : Stmt := PySem.Challenge.pw_goalsmith_k17_refusals.main.body.getD i (.Pass ⟨0, 0, 0, 0⟩)
/-- the classes by number: 0 to 15 the sixteen refusals, 16 SmithError -/
structure Txt (K : PySem.W.Frag) (mg : Str → Option Value) (C : Nat → Addr) : Prop where
  ce : ∀ i, i ≤ 16 → ClsE K (C i)
  kk : ∀ i j, i ≤ 16 → j ≤ 15 → PySem.W.kitOne K (.ref (C i)) (.ref (C j)) = some (decide (i = j))
  kS : ∀ i, i ≤ 15 → PySem.W.kitOne K (.ref (C i)) (.ref (C 16)) = some true
  kV : ∀ i, i ≤ 15 → PySem.W.kitOne K (.ref (C i)) (.type "ValueError") = some true
  ex : ∀ i, (i ≤ 9 ∨ i = 16) → PySem.W.excIn K (C i) [.type "ValueError", .type "Exception", .type "BaseException", .type "object"] "ValueError.__new__" = true
  kp : ∀ i, i ≤ 16 → PySem.W.keepIn K (.ref (C i)) = true
  m0 : mg "NoGround" = some (.ref (C 0))
  m1 : mg "NoText" = some (.ref (C 1))
  m2 : mg "NoData" = some (.ref (C 2))
  m3 : mg "TooMany" = some (.ref (C 3))
  m4 : mg "TooFar" = some (.ref (C 4))
  m5 : mg "NoRule" = some (.ref (C 5))
  m6 : mg "NoGoal" = some (.ref (C 6))
  m7 : mg "Fails" = some (.ref (C 7))
  m8 : mg "NotFalling" = some (.ref (C 8))
  m9 : mg "NoRewrite" = some (.ref (C 9))
  m10 : mg "NoRow" = some (.ref (C 10))
  m11 : mg "BadText" = some (.ref (C 11))
  m12 : mg "Taken" = some (.ref (C 12))
  m13 : mg "NoName" = some (.ref (C 13))
  m14 : mg "Unfit" = some (.ref (C 14))
  m15 : mg "Left" = some (.ref (C 15))
  m16 : mg "SmithError" = some (.ref (C 16))
  isi : mg "isinstance" = none
  lst : mg "list" = none
  sum : mg "sum" = none
  rng : mg "range" = none
  ve : mg "ValueError" = none
  bol : mg "bool" = none
  sup : mg "super" = none
theorem boot_isi : bootBuiltins "isinstance" = some (.builtin "isinstance") := by decide +kernel
theorem same_new {H : Hp} {p : Addr} (h : H p = none) (o : HO) : Same H (upd H p o) := fun b u q => by rw [upd_ne (ne_of_none q h)]; exact q
theorem IsEx.same {H H' : Hp} {a C : Addr} (e : Same H H') (h : IsEx H a C) : IsEx H' a C := by
  rcases h with h | h | ⟨dx, fs, h, h2⟩
  · exact .inl (e _ _ h)
  · exact .inr (.inl (e _ _ h))
  · exact .inr (.inr ⟨dx, fs, e _ _ h, e _ _ h2⟩)
/-! ### _law_sorts -/
abbrev sSorts : Stmt := top 19
theorem scSorts : FnScope ["_law_e", "_law_some"] ["_law_e"] (defScope sSorts) := ⟨rfl, rfl, rfl, by decide +kernel, rfl, by decide +kernel, by decide +kernel⟩
def sortsOf (i : Nat) : List V := (List.range 16).map fun j => V.bl (decide (i = j))
def spSorts (C : Nat → Addr) : Sp := fun vs H Q _ => ∃ (a : Addr) (i : Nat), vs = [.ref a] ∧ i ≤ 16 ∧ IsEx H a (C i) ∧ ∀ r H', Same H H' → H r = none → H' r = some (.lst (sortsOf i)) → Q (.ref r) H'
section
variable {P : Program} {w : World} {K : PySem.W.Frag} {mg : Str → Option Value} {base : Heap} {f : Addr} {fd : FuncData} {C : Nat → Addr}
theorem isi_step {T : Txt K mg C} {H : Hp} {Q : VK} {a : Addr} {i j : Nat} (hi : i ≤ 16) (hj : j ≤ 15) (hx : IsEx H a (C i)) (q : Q (.bl (decide (i = j))) H) : rIsEx K [.ref a, .ref (C j)] H Q :=
  ⟨a, C i, .ref (C j), .ref (C j), _, rfl, hx, T.ce i hi, fun _ h => h, T.kk i j hi hj, q⟩
theorem ok_sorts (F : Fun K "_law_sorts" "_law_sorts" sSorts f fd) (T : Txt K mg C) : FnOk P w K mg base CX0 1 f fd ["_law_e"] (spSorts C) := by
  refine F.ok scSorts (fun vs H Q E h => ?_) (fun cdv A outer s H vs Q E hr h => ?_)
  · obtain ⟨a, i, rfl, _⟩ := h
    rfl
  obtain ⟨a, i, rfl, hi, hx, k⟩ := h
  have isi : ∀ {X : Cx} (hK : X.K = K), CallR X (.builtin "isinstance") (rIsEx K) := fun {X} hK => by subst hK; exact call_isEx
  refine ⟨_, pss_cons (ps_set (i := 1) scSorts.nd rfl (Or.inl rfl) (pe_lst
      (pa_cons (pe_callB (isi rfl) (by rfl) T.isi boot_isi (pa_cons (pv 0) (pa_cons (pe_glob (v := .ref (C 0)) rfl T.m0 rfl) pa_nil)))
      (pa_cons (pe_callB (isi rfl) (by rfl) T.isi boot_isi (pa_cons (pv 0) (pa_cons (pe_glob (v := .ref (C 1)) rfl T.m1 rfl) pa_nil)))
      (pa_cons (pe_callB (isi rfl) (by rfl) T.isi boot_isi (pa_cons (pv 0) (pa_cons (pe_glob (v := .ref (C 2)) rfl T.m2 rfl) pa_nil)))
      (pa_cons (pe_callB (isi rfl) (by rfl) T.isi boot_isi (pa_cons (pv 0) (pa_cons (pe_glob (v := .ref (C 3)) rfl T.m3 rfl) pa_nil))) pa_nil))))))
    (pss_cons (ps_set (i := 1) scSorts.nd rfl (Or.inl rfl) (pe_op op_cat (pv 1) (pe_lst
      (pa_cons (pe_callB (isi rfl) (by rfl) T.isi boot_isi (pa_cons (pv 0) (pa_cons (pe_glob (v := .ref (C 4)) rfl T.m4 rfl) pa_nil)))
      (pa_cons (pe_callB (isi rfl) (by rfl) T.isi boot_isi (pa_cons (pv 0) (pa_cons (pe_glob (v := .ref (C 5)) rfl T.m5 rfl) pa_nil)))
      (pa_cons (pe_callB (isi rfl) (by rfl) T.isi boot_isi (pa_cons (pv 0) (pa_cons (pe_glob (v := .ref (C 6)) rfl T.m6 rfl) pa_nil)))
      (pa_cons (pe_callB (isi rfl) (by rfl) T.isi boot_isi (pa_cons (pv 0) (pa_cons (pe_glob (v := .ref (C 7)) rfl T.m7 rfl) pa_nil))) pa_nil)))))))
    (pss_cons (ps_set (i := 1) scSorts.nd rfl (Or.inl rfl) (pe_op op_cat (pv 1) (pe_lst
      (pa_cons (pe_callB (isi rfl) (by rfl) T.isi boot_isi (pa_cons (pv 0) (pa_cons (pe_glob (v := .ref (C 8)) rfl T.m8 rfl) pa_nil)))
      (pa_cons (pe_callB (isi rfl) (by rfl) T.isi boot_isi (pa_cons (pv 0) (pa_cons (pe_glob (v := .ref (C 9)) rfl T.m9 rfl) pa_nil)))
      (pa_cons (pe_callB (isi rfl) (by rfl) T.isi boot_isi (pa_cons (pv 0) (pa_cons (pe_glob (v := .ref (C 10)) rfl T.m10 rfl) pa_nil)))
      (pa_cons (pe_callB (isi rfl) (by rfl) T.isi boot_isi (pa_cons (pv 0) (pa_cons (pe_glob (v := .ref (C 11)) rfl T.m11 rfl) pa_nil))) pa_nil)))))))
    (pss_cons (ps_set (i := 1) scSorts.nd rfl (Or.inl rfl) (pe_op op_cat (pv 1) (pe_lst
      (pa_cons (pe_callB (isi rfl) (by rfl) T.isi boot_isi (pa_cons (pv 0) (pa_cons (pe_glob (v := .ref (C 12)) rfl T.m12 rfl) pa_nil)))
      (pa_cons (pe_callB (isi rfl) (by rfl) T.isi boot_isi (pa_cons (pv 0) (pa_cons (pe_glob (v := .ref (C 13)) rfl T.m13 rfl) pa_nil)))
      (pa_cons (pe_callB (isi rfl) (by rfl) T.isi boot_isi (pa_cons (pv 0) (pa_cons (pe_glob (v := .ref (C 14)) rfl T.m14 rfl) pa_nil)))
      (pa_cons (pe_callB (isi rfl) (by rfl) T.isi boot_isi (pa_cons (pv 0) (pa_cons (pe_glob (v := .ref (C 15)) rfl T.m15 rfl) pa_nil))) pa_nil)))))))
    (pss_one (ps_ret (pv 1)))))), ?_⟩
  have z4 : (4 : Nat) ≤ sizeLine := by decide
  refine ⟨_, rfl, a, C i, .ref (C 0), .ref (C 0), _, rfl, hx, T.ce i hi, fun _ h => h, T.kk i 0 hi (by decide), _, rfl, a, C i, .ref (C 1), .ref (C 1), _, rfl, hx, T.ce i hi, fun _ h => h, T.kk i 1 hi (by decide), _, rfl, a, C i, .ref (C 2), .ref (C 2), _, rfl, hx, T.ce i hi, fun _ h => h, T.kk i 2 hi (by decide), _, rfl, a, C i, .ref (C 3), .ref (C 3), _, rfl, hx, T.ce i hi, fun _ h => h, T.kk i 3 hi (by decide), z4, fun r1 n1 => ?_⟩
  have S1 : Same H _ := same_new n1 (.lst [.bl (decide (i = 0)), .bl (decide (i = 1)), .bl (decide (i = 2)), .bl (decide (i = 3))])
  have x1 := hx.same S1
  refine ⟨_, rfl, _, rfl, a, C i, .ref (C 4), .ref (C 4), _, rfl, x1, T.ce i hi, fun _ h => h, T.kk i 4 hi (by decide), _, rfl, a, C i, .ref (C 5), .ref (C 5), _, rfl, x1, T.ce i hi, fun _ h => h, T.kk i 5 hi (by decide), _, rfl, a, C i, .ref (C 6), .ref (C 6), _, rfl, x1, T.ce i hi, fun _ h => h, T.kk i 6 hi (by decide), _, rfl, a, C i, .ref (C 7), .ref (C 7), _, rfl, x1, T.ce i hi, fun _ h => h, T.kk i 7 hi (by decide), z4, fun q0 m0 => ?_⟩
  have A0 := same_new m0 (.lst [.bl (decide (i = 4)), .bl (decide (i = 5)), .bl (decide (i = 6)), .bl (decide (i = 7))])
  refine ⟨r1, q0, _, _, rfl, rfl, A0 _ _ upd_same, upd_same, (by show 8 ≤ sizeLine; decide), fun r2 n2 => ?_⟩
  have S2 : Same H _ := S1.trans (A0.trans (same_new n2 (.lst [.bl (decide (i = 0)), .bl (decide (i = 1)), .bl (decide (i = 2)), .bl (decide (i = 3)), .bl (decide (i = 4)), .bl (decide (i = 5)), .bl (decide (i = 6)), .bl (decide (i = 7))])))
  have x2 := hx.same S2
  refine ⟨_, rfl, _, rfl, a, C i, .ref (C 8), .ref (C 8), _, rfl, x2, T.ce i hi, fun _ h => h, T.kk i 8 hi (by decide), _, rfl, a, C i, .ref (C 9), .ref (C 9), _, rfl, x2, T.ce i hi, fun _ h => h, T.kk i 9 hi (by decide), _, rfl, a, C i, .ref (C 10), .ref (C 10), _, rfl, x2, T.ce i hi, fun _ h => h, T.kk i 10 hi (by decide), _, rfl, a, C i, .ref (C 11), .ref (C 11), _, rfl, x2, T.ce i hi, fun _ h => h, T.kk i 11 hi (by decide), z4, fun q1 m1 => ?_⟩
  have A1 := same_new m1 (.lst [.bl (decide (i = 8)), .bl (decide (i = 9)), .bl (decide (i = 10)), .bl (decide (i = 11))])
  refine ⟨r2, q1, _, _, rfl, rfl, A1 _ _ upd_same, upd_same, (by show 12 ≤ sizeLine; decide), fun r3 n3 => ?_⟩
  have S3 : Same H _ := S2.trans (A1.trans (same_new n3 (.lst [.bl (decide (i = 0)), .bl (decide (i = 1)), .bl (decide (i = 2)), .bl (decide (i = 3)), .bl (decide (i = 4)), .bl (decide (i = 5)), .bl (decide (i = 6)), .bl (decide (i = 7)), .bl (decide (i = 8)), .bl (decide (i = 9)), .bl (decide (i = 10)), .bl (decide (i = 11))])))
  have x3 := hx.same S3
  refine ⟨_, rfl, _, rfl, a, C i, .ref (C 12), .ref (C 12), _, rfl, x3, T.ce i hi, fun _ h => h, T.kk i 12 hi (by decide), _, rfl, a, C i, .ref (C 13), .ref (C 13), _, rfl, x3, T.ce i hi, fun _ h => h, T.kk i 13 hi (by decide), _, rfl, a, C i, .ref (C 14), .ref (C 14), _, rfl, x3, T.ce i hi, fun _ h => h, T.kk i 14 hi (by decide), _, rfl, a, C i, .ref (C 15), .ref (C 15), _, rfl, x3, T.ce i hi, fun _ h => h, T.kk i 15 hi (by decide), z4, fun q2 m2 => ?_⟩
  have A2 := same_new m2 (.lst [.bl (decide (i = 12)), .bl (decide (i = 13)), .bl (decide (i = 14)), .bl (decide (i = 15))])
  refine ⟨r3, q2, _, _, rfl, rfl, A2 _ _ upd_same, upd_same, (by show 16 ≤ sizeLine; decide), fun r4 n4 => ?_⟩
  have S4 : Same H _ := S3.trans (A2.trans (same_new n4 (.lst [.bl (decide (i = 0)), .bl (decide (i = 1)), .bl (decide (i = 2)), .bl (decide (i = 3)), .bl (decide (i = 4)), .bl (decide (i = 5)), .bl (decide (i = 6)), .bl (decide (i = 7)), .bl (decide (i = 8)), .bl (decide (i = 9)), .bl (decide (i = 10)), .bl (decide (i = 11)), .bl (decide (i = 12)), .bl (decide (i = 13)), .bl (decide (i = 14)), .bl (decide (i = 15))])))
  have x4 := hx.same S4
  exact ⟨_, rfl, k r4 _ S4 (S3.free ((A2).free n4)) upd_same⟩
end
end E17
namespace E17
open PySem PySem.Spec PyProof.Rows L2 NdefX
/-! ### the six __init__ -/
def nf (st : Stmt) (qual : Str) (cc cda : Addr) : NF := ⟨"__init__", qual, defArgs st, defBody st, defScope st, [(("__class__" : Str), cc)], cda⟩
/-- C's own __init__ stands there -/
structure Ini (P : Program) (K : PySem.W.Frag) (st : Stmt) (qual : Str) (ps : List Str) (C f cc cda : Addr) (fd : FuncData) : Prop where
  sf : SupF P K C f cc (nf st qual cc cda) fd
  sc : SupC K C
  iC : PySem.W.findIn K (.ref C) "__init__" = some (some (.ref f))
  tI : PySem.W.typeIn K (.ref f) = some (.type "function")
  no : PySem.W.findIn K (.ref C) "at" = some none
  no2 : PySem.W.findIn K (.ref C) "goals" = some none
  bI : Binds K fd ps []
def spInit1 (C : Addr) : Sp := fun vs H Q _ => ∃ (a : Addr) (v : V), vs = [.ref a, v] ∧ H a = some (exo a C none) ∧
  ∀ dx, H dx = none → dx ≠ a → Q .non (upd (upd H dx (exd dx [(("at" : Str), v)])) a (exo a C (some dx)))
abbrev sI10 : Stmt := inClass (top 12) 0
abbrev sI11 : Stmt := inClass (top 13) 0
abbrev sI12 : Stmt := inClass (top 14) 0
abbrev sI13 : Stmt := inClass (top 15) 0
abbrev sI14 : Stmt := inClass (top 16) 0
abbrev sI15 : Stmt := inClass (top 17) 0
section
variable {P : Program} {w : World} {K : PySem.W.Frag} {mg : Str → Option Value} {base : Heap} {C f cc cda : Addr} {fd : FuncData}
theorem ok_i10 (I : Ini P K sI10 "NoRow.__init__" ["self", "at"] C f cc cda fd) (hm : mg "super" = none) : FnOk P w K mg base CX0 1 f fd ["self", "at"] (spInit1 C) := by
  refine fn_super (k := 0) (N := ["self", "at", "__class__"]) (pl := fun _ => _) I.sf I.sc hm rfl (nscope_by (show nscB ["self", "at", "__class__"] ["self", "at"] ["__class__"] (defScope sI10) = true by decide +kernel))
    (show (defScope sI10).names.lookup ("super" : Str) = some .globalImplicit by decide +kernel) (show (defScope sI10).names.lookup ("self" : Str) = some .local by decide +kernel) rfl (fun env => by rfl) (fun vs H Q E h => ?_) (fun A outer s H vs Q E hr h => ?_)
  · obtain ⟨a, v, rfl, _⟩ := h
    rfl
  · obtain ⟨a, v, rfl, ha, k⟩ := h
    exact ⟨a, rfl, ha, _, pss_one (ps_ost (pv 0) (pv 1)), _, rfl, _, rfl, a, C, rfl, I.sc.oex, I.no, .inl ⟨ha, fun dx h1 h2 => k dx h1 h2⟩⟩
theorem ok_i11 (I : Ini P K sI11 "BadText.__init__" ["self", "at"] C f cc cda fd) (hm : mg "super" = none) : FnOk P w K mg base CX0 1 f fd ["self", "at"] (spInit1 C) := by
  refine fn_super (k := 0) (N := ["self", "at", "__class__"]) (pl := fun _ => _) I.sf I.sc hm rfl (nscope_by (show nscB ["self", "at", "__class__"] ["self", "at"] ["__class__"] (defScope sI11) = true by decide +kernel))
    (show (defScope sI11).names.lookup ("super" : Str) = some .globalImplicit by decide +kernel) (show (defScope sI11).names.lookup ("self" : Str) = some .local by decide +kernel) rfl (fun env => by rfl) (fun vs H Q E h => ?_) (fun A outer s H vs Q E hr h => ?_)
  · obtain ⟨a, v, rfl, _⟩ := h
    rfl
  · obtain ⟨a, v, rfl, ha, k⟩ := h
    exact ⟨a, rfl, ha, _, pss_one (ps_ost (pv 0) (pv 1)), _, rfl, _, rfl, a, C, rfl, I.sc.oex, I.no, .inl ⟨ha, fun dx h1 h2 => k dx h1 h2⟩⟩
theorem ok_i12 (I : Ini P K sI12 "Taken.__init__" ["self", "at"] C f cc cda fd) (hm : mg "super" = none) : FnOk P w K mg base CX0 1 f fd ["self", "at"] (spInit1 C) := by
  refine fn_super (k := 0) (N := ["self", "at", "__class__"]) (pl := fun _ => _) I.sf I.sc hm rfl (nscope_by (show nscB ["self", "at", "__class__"] ["self", "at"] ["__class__"] (defScope sI12) = true by decide +kernel))
    (show (defScope sI12).names.lookup ("super" : Str) = some .globalImplicit by decide +kernel) (show (defScope sI12).names.lookup ("self" : Str) = some .local by decide +kernel) rfl (fun env => by rfl) (fun vs H Q E h => ?_) (fun A outer s H vs Q E hr h => ?_)
  · obtain ⟨a, v, rfl, _⟩ := h
    rfl
  · obtain ⟨a, v, rfl, ha, k⟩ := h
    exact ⟨a, rfl, ha, _, pss_one (ps_ost (pv 0) (pv 1)), _, rfl, _, rfl, a, C, rfl, I.sc.oex, I.no, .inl ⟨ha, fun dx h1 h2 => k dx h1 h2⟩⟩
theorem ok_i13 (I : Ini P K sI13 "NoName.__init__" ["self", "at"] C f cc cda fd) (hm : mg "super" = none) : FnOk P w K mg base CX0 1 f fd ["self", "at"] (spInit1 C) := by
  refine fn_super (k := 0) (N := ["self", "at", "__class__"]) (pl := fun _ => _) I.sf I.sc hm rfl (nscope_by (show nscB ["self", "at", "__class__"] ["self", "at"] ["__class__"] (defScope sI13) = true by decide +kernel))
    (show (defScope sI13).names.lookup ("super" : Str) = some .globalImplicit by decide +kernel) (show (defScope sI13).names.lookup ("self" : Str) = some .local by decide +kernel) rfl (fun env => by rfl) (fun vs H Q E h => ?_) (fun A outer s H vs Q E hr h => ?_)
  · obtain ⟨a, v, rfl, _⟩ := h
    rfl
  · obtain ⟨a, v, rfl, ha, k⟩ := h
    exact ⟨a, rfl, ha, _, pss_one (ps_ost (pv 0) (pv 1)), _, rfl, _, rfl, a, C, rfl, I.sc.oex, I.no, .inl ⟨ha, fun dx h1 h2 => k dx h1 h2⟩⟩
theorem ok_i14 (I : Ini P K sI14 "Unfit.__init__" ["self", "at"] C f cc cda fd) (hm : mg "super" = none) : FnOk P w K mg base CX0 1 f fd ["self", "at"] (spInit1 C) := by
  refine fn_super (k := 0) (N := ["self", "at", "__class__"]) (pl := fun _ => _) I.sf I.sc hm rfl (nscope_by (show nscB ["self", "at", "__class__"] ["self", "at"] ["__class__"] (defScope sI14) = true by decide +kernel))
    (show (defScope sI14).names.lookup ("super" : Str) = some .globalImplicit by decide +kernel) (show (defScope sI14).names.lookup ("self" : Str) = some .local by decide +kernel) rfl (fun env => by rfl) (fun vs H Q E h => ?_) (fun A outer s H vs Q E hr h => ?_)
  · obtain ⟨a, v, rfl, _⟩ := h
    rfl
  · obtain ⟨a, v, rfl, ha, k⟩ := h
    exact ⟨a, rfl, ha, _, pss_one (ps_ost (pv 0) (pv 1)), _, rfl, _, rfl, a, C, rfl, I.sc.oex, I.no, .inl ⟨ha, fun dx h1 h2 => k dx h1 h2⟩⟩
def spInit2 (C : Addr) : Sp := fun vs H Q _ => ∃ (a g : Addr) (v : V) (xs : List V), vs = [.ref a, v, .ref g] ∧ H a = some (exo a C none) ∧ H g = some (.lst xs) ∧
  ∀ dx r H', (∀ b o, H b = some o → b ≠ a → H' b = some o) → H' a = some (exo a C (some dx)) → H' dx = some (exd dx [(("goals" : Str), .ref r), (("at" : Str), v)]) → H' r = some (.lst xs) → Q .non H'
theorem ok_i15 (I : Ini P K sI15 "Left.__init__" ["self", "at", "goals"] C f cc cda fd) (hm : mg "super" = none) (hi : mg "isinstance" = none) (hl : mg "list" = none) : FnOk P w K mg base CX0 1 f fd ["self", "at", "goals"] (spInit2 C) := by
  refine fn_super (k := 0) (N := ["self", "at", "goals", "__class__"]) (pl := fun _ => _) I.sf I.sc hm rfl (nscope_by (show nscB ["self", "at", "goals", "__class__"] ["self", "at", "goals"] ["__class__"] (defScope sI15) = true by decide +kernel))
    (show (defScope sI15).names.lookup ("super" : Str) = some .globalImplicit by decide +kernel) (show (defScope sI15).names.lookup ("self" : Str) = some .local by decide +kernel) rfl (fun env => by rfl) (fun vs H Q E h => ?_) (fun A outer s H vs Q E hr h => ?_)
  · obtain ⟨a, g, v, xs, rfl, _⟩ := h
    rfl
  · obtain ⟨a, g, v, xs, rfl, ha, hg, k⟩ := h
    refine ⟨a, rfl, ha, _, pss_cons (ps_ost (pv 0) (pv 1)) (pss_one (ps_ost (pv 0) (pe_ifExp (pt_val (pe_callB call_isi (by rfl) hi boot_isi (pa_cons (pv 2) (pa_cons (pe_bltn (v := .ty "list") rfl hl (by decide +kernel) rfl) pa_nil))))
      (pe_callTy call_list_of (by rfl) hl (by decide +kernel) (pa_cons (pv 2) pa_nil)) (pv 2)))), ?_⟩
    have nag : g ≠ a := fun z => by
      rw [z, ha] at hg
      cases hg
    refine ⟨_, rfl, _, rfl, a, C, rfl, I.sc.oex, I.no, .inl ⟨ha, fun dx h1 h2 => ?_⟩⟩
    have ndg : g ≠ dx := ne_of_none hg h1
    have eg : (upd (upd H dx (exd dx [(("at" : Str), v)])) a (exo a C (some dx))) g = some (.lst xs) := by rw [upd_ne nag, upd_ne ndg]; exact hg
    have ed : (upd (upd H dx (exd dx [(("at" : Str), v)])) a (exo a C (some dx))) dx = some (exd dx [(("at" : Str), v)]) := by rw [upd_ne h2, upd_same]
    refine ⟨_, rfl, _, .ty "list", .type "list", .type "list", true, rfl, .ty "list", .base (.lst eg), kit_ty (by decide +kernel), true, rfl, iteT ?_⟩
    refine ⟨_, rfl, g, xs, rfl, .inl (SqL.of eg), fun r nr => ?_⟩
    have nra : a ≠ r := fun z => by rw [← z, upd_same] at nr; cases nr
    have nrd : dx ≠ r := ne_of_none ed nr
    refine ⟨_, rfl, a, C, rfl, I.sc.oex, I.no2, .inr ⟨dx, _, by rw [upd_ne nra, upd_same], by rw [upd_ne nrd]; exact ed, by show 1 ≤ 900; decide, ?_⟩⟩
    refine k dx r _ (fun b o e nb => ?_) (by rw [upd_ne (Ne.symm h2), upd_ne nra, upd_same]) upd_same (by rw [upd_ne (Ne.symm nrd), upd_same])
    have nbd : b ≠ dx := ne_of_none e h1
    have eb : (upd (upd H dx (exd dx [(("at" : Str), v)])) a (exo a C (some dx))) b = some o := by rw [upd_ne nb, upd_ne nbd]; exact e
    rw [upd_ne nbd, upd_ne (ne_of_none eb nr)]
    exact eb
end
end E17
namespace E17
open PySem PySem.Spec PyProof.Rows L2 NdefX
/-! ### _law_made -/
structure Inis (P : Program) (K : PySem.W.Frag) (C : Nat → Addr) : Prop where
  i10 : ∃ f cc cda fd, Ini P K sI10 "NoRow.__init__" ["self", "at"] (C 10) f cc cda fd
  i11 : ∃ f cc cda fd, Ini P K sI11 "BadText.__init__" ["self", "at"] (C 11) f cc cda fd
  i12 : ∃ f cc cda fd, Ini P K sI12 "Taken.__init__" ["self", "at"] (C 12) f cc cda fd
  i13 : ∃ f cc cda fd, Ini P K sI13 "NoName.__init__" ["self", "at"] (C 13) f cc cda fd
  i14 : ∃ f cc cda fd, Ini P K sI14 "Unfit.__init__" ["self", "at"] (C 14) f cc cda fd
  i15 : ∃ f cc cda fd, Ini P K sI15 "Left.__init__" ["self", "at", "goals"] (C 15) f cc cda fd
/-- what stands at the place i of the made list -/
def GoodE (C : Nat → Addr) (n : Int) (xs : List V) (H : Hp) (i : Nat) (v : V) : Prop := ∃ a, v = .ref a ∧
  ((i < 10 ∧ IsEx H a (C i)) ∨ (10 ≤ i ∧ i < 15 ∧ ∃ dx, H a = some (exo a (C i) (some dx)) ∧ H dx = some (exd dx [(("at" : Str), .int n)])) ∨
    (i = 15 ∧ ∃ dx r, H a = some (exo a (C i) (some dx)) ∧ H dx = some (exd dx [(("goals" : Str), .ref r), (("at" : Str), .int n)]) ∧ H r = some (.lst xs)))
theorem GoodE.same {C : Nat → Addr} {n : Int} {xs : List V} {H H' : Hp} {i : Nat} {v : V} (e : Same H H') (h : GoodE C n xs H i v) : GoodE C n xs H' i v := by
  obtain ⟨a, rfl, h⟩ := h
  refine ⟨a, rfl, ?_⟩
  rcases h with ⟨h1, h2⟩ | ⟨h1, h2, dx, h3, h4⟩ | ⟨h1, dx, r, h2, h3, h4⟩
  · exact .inl ⟨h1, h2.same e⟩
  · exact .inr (.inl ⟨h1, h2, dx, e _ _ h3, e _ _ h4⟩)
  · exact .inr (.inr ⟨h1, dx, r, e _ _ h2, e _ _ h3, e _ _ h4⟩)
theorem good0 {C : Nat → Addr} {n : Int} {xs : List V} {H : Hp} {i : Nat} {a : Addr} (hi : i < 10) (na : H a = none) : Same H (upd H a (ExO (.ref (C i)) a)) ∧ GoodE C n xs (upd H a (ExO (.ref (C i)) a)) i (.ref a) :=
  ⟨same_new na _, a, rfl, .inl ⟨hi, .inl upd_same⟩⟩
theorem good1 {C : Nat → Addr} {n : Int} {xs : List V} {H : Hp} {i : Nat} {a dx : Addr} (hi : 10 ≤ i) (hj : i < 15) (na : H a = none) (nd : (upd H a (exo a (C i) none)) dx = none) (ne : dx ≠ a) :
    Same H (upd (upd (upd H a (exo a (C i) none)) dx (exd dx [(("at" : Str), .int n)])) a (exo a (C i) (some dx))) ∧
      GoodE C n xs (upd (upd (upd H a (exo a (C i) none)) dx (exd dx [(("at" : Str), .int n)])) a (exo a (C i) (some dx))) i (.ref a) := by
  refine ⟨fun b o e => ?_, a, rfl, .inr (.inl ⟨hi, hj, dx, upd_same, by rw [upd_ne ne, upd_same]⟩)⟩
  have h1 : b ≠ a := ne_of_none e na
  have h2 : (upd H a (exo a (C i) none)) b = some o := by rw [upd_ne h1]; exact e
  rw [upd_ne h1, upd_ne (ne_of_none h2 nd)]
  exact h2
def spMade (C : Nat → Addr) : Sp := fun vs H Q _ => ∃ (n : Int) (g : Addr) (xs : List V), vs = [.int n, .ref g] ∧ H g = some (.lst xs) ∧
  ∀ p H' es, Same H H' → H' p = some (.lst es) → es.length = 16 → (∀ i v, es[i]? = some v → GoodE C n xs H' i v) → Q (.ref p) H'
abbrev sMade : Stmt := top 20
theorem scMade : FnScope ["_law_number", "_law_goals", "_law_some"] ["_law_number", "_law_goals"] (defScope sMade) := ⟨rfl, rfl, rfl, by decide +kernel, rfl, by decide +kernel, by decide +kernel⟩
def GoodL (C : Nat → Addr) (n : Int) (xs : List V) (H : Hp) (off : Nat) (es : List V) : Prop := ∀ i v, es[i]? = some v → GoodE C n xs H (off + i) v
theorem gl_nil {C : Nat → Addr} {n : Int} {xs : List V} {H : Hp} {off : Nat} : GoodL C n xs H off [] := fun i v e => by simp at e
theorem gl_cons {C : Nat → Addr} {n : Int} {xs : List V} {H : Hp} {off : Nat} {v : V} {es : List V} (h : GoodE C n xs H off v) (t : GoodL C n xs H (off + 1) es) : GoodL C n xs H off (v :: es) := fun i u e => by
  match i, e with
  | 0, e => obtain rfl := Option.some.inj e; exact h
  | i + 1, e => rw [show off + (i + 1) = off + 1 + i by omega]; exact t i u e
theorem GoodL.same {C : Nat → Addr} {n : Int} {xs : List V} {H H' : Hp} {off : Nat} {es : List V} (h : GoodL C n xs H off es) (e : Same H H') : GoodL C n xs H' off es := fun i v q => (h i v q).same e
theorem GoodL.at0 {C : Nat → Addr} {n : Int} {xs : List V} {H : Hp} {es : List V} (h : GoodL C n xs H 0 es) : ∀ i v, es[i]? = some v → GoodE C n xs H i v := fun i v e => by
  have q := h i v e
  rw [Nat.zero_add] at q
  exact q
theorem good_app {C : Nat → Addr} {n : Int} {xs : List V} {H : Hp} {off : Nat} {es fs : List V} (h1 : GoodL C n xs H off es) (h2 : GoodL C n xs H (off + es.length) fs) : GoodL C n xs H off (es ++ fs) := fun i v e => by
  by_cases hi : i < es.length
  · rw [List.getElem?_append_left hi] at e
    exact h1 i v e
  · rw [List.getElem?_append_right (by omega)] at e
    have q := h2 _ v e
    rw [show off + es.length + (i - es.length) = off + i by omega] at q
    exact q
section
variable {P : Program} {w : World} {K : PySem.W.Frag} {mg : Str → Option Value} {base : Heap} {f : Addr} {fd : FuncData} {C : Nat → Addr}
theorem ok_made (F : Fun K "_law_made" "_law_made" sMade f fd) (T : Txt K mg C) (J : Inis P K C) : FnOk P w K mg base CX0 3 f fd ["_law_number", "_law_goals"] (spMade C) := by
  obtain ⟨f10, cc10, cd10, fd10, I10⟩ := J.i10
  obtain ⟨f11, cc11, cd11, fd11, I11⟩ := J.i11
  obtain ⟨f12, cc12, cd12, fd12, I12⟩ := J.i12
  obtain ⟨f13, cc13, cd13, fd13, I13⟩ := J.i13
  obtain ⟨f14, cc14, cd14, fd14, I14⟩ := J.i14
  obtain ⟨f15, cc15, cd15, fd15, I15⟩ := J.i15
  have G10 : FnOk P w K mg base CX0 1 f10 fd10 ["self", "at"] (spInit1 (C 10)) := ok_i10 I10 T.sup
  have G11 : FnOk P w K mg base CX0 1 f11 fd11 ["self", "at"] (spInit1 (C 11)) := ok_i11 I11 T.sup
  have G12 : FnOk P w K mg base CX0 1 f12 fd12 ["self", "at"] (spInit1 (C 12)) := ok_i12 I12 T.sup
  have G13 : FnOk P w K mg base CX0 1 f13 fd13 ["self", "at"] (spInit1 (C 13)) := ok_i13 I13 T.sup
  have G14 : FnOk P w K mg base CX0 1 f14 fd14 ["self", "at"] (spInit1 (C 14)) := ok_i14 I14 T.sup
  have G15 : FnOk P w K mg base CX0 1 f15 fd15 ["self", "at", "goals"] (spInit2 (C 15)) := ok_i15 I15 T.sup T.isi T.lst
  refine F.ok scMade (fun vs H Q E h => ?_) (fun cdv A outer s H vs Q E hr h => ?_)
  · obtain ⟨n, g, xs, rfl, _⟩ := h
    rfl
  obtain ⟨n, g, xs, rfl, hg, k⟩ := h
  refine ⟨_, pss_cons (ps_set (i := 2) scMade.nd rfl (Or.inl rfl) (pe_lst (pa_cons (pe_exc1 _root_.PySem.F.excBase_ValueError (T.ex 0 (by decide)) T.m0 (T.kp 0 (by decide)) (by rfl) pe_str) (pa_cons (pe_exc1 _root_.PySem.F.excBase_ValueError (T.ex 1 (by decide)) T.m1 (T.kp 1 (by decide)) (by rfl) pe_str) (pa_cons (pe_exc1 _root_.PySem.F.excBase_ValueError (T.ex 2 (by decide)) T.m2 (T.kp 2 (by decide)) (by rfl) pe_str) (pa_cons (pe_exc1 _root_.PySem.F.excBase_ValueError (T.ex 3 (by decide)) T.m3 (T.kp 3 (by decide)) (by rfl) pe_str) (pa_cons (pe_exc1 _root_.PySem.F.excBase_ValueError (T.ex 4 (by decide)) T.m4 (T.kp 4 (by decide)) (by rfl) pe_str) (pa_cons (pe_exc1 _root_.PySem.F.excBase_ValueError (T.ex 5 (by decide)) T.m5 (T.kp 5 (by decide)) (by rfl) pe_str) (pa_cons (pe_exc1 _root_.PySem.F.excBase_ValueError (T.ex 6 (by decide)) T.m6 (T.kp 6 (by decide)) (by rfl) pe_str) (pa_cons (pe_exc1 _root_.PySem.F.excBase_ValueError (T.ex 7 (by decide)) T.m7 (T.kp 7 (by decide)) (by rfl) pe_str) pa_nil))))))))))
    (pss_cons (ps_set (i := 2) scMade.nd rfl (Or.inl rfl) (pe_op op_cat (pv 2) (pe_lst (pa_cons (pe_exc1 _root_.PySem.F.excBase_ValueError (T.ex 8 (by decide)) T.m8 (T.kp 8 (by decide)) (by rfl) pe_str) (pa_cons (pe_exc1 _root_.PySem.F.excBase_ValueError (T.ex 9 (by decide)) T.m9 (T.kp 9 (by decide)) (by rfl) pe_str) (pa_cons (pe_mkv I10.sc.oex I10.iC I10.tI G10 hr I10.bI pass0 (by rfl) T.m10 (pa_cons (pv 0) pa_nil)) (pa_cons (pe_mkv I11.sc.oex I11.iC I11.tI G11 hr I11.bI pass0 (by rfl) T.m11 (pa_cons (pv 0) pa_nil)) (pa_cons (pe_mkv I12.sc.oex I12.iC I12.tI G12 hr I12.bI pass0 (by rfl) T.m12 (pa_cons (pv 0) pa_nil)) (pa_cons (pe_mkv I13.sc.oex I13.iC I13.tI G13 hr I13.bI pass0 (by rfl) T.m13 (pa_cons (pv 0) pa_nil)) pa_nil)))))))))
    (pss_one (ps_ret (pe_op op_cat (pv 2) (pe_lst (pa_cons (pe_mkv I14.sc.oex I14.iC I14.tI G14 hr I14.bI pass0 (by rfl) T.m14 (pa_cons (pv 0) pa_nil)) (pa_cons (pe_mkv I15.sc.oex I15.iC I15.tI G15 hr I15.bI pass0 (by rfl) T.m15 (pa_cons (pv 0) (pa_cons (pv 1) pa_nil))) pa_nil))))))), ?_⟩
  refine fun a0 n0 a1 n1 a2 n2 a3 n3 a4 n4 a5 n5 a6 n6 a7 n7 => ⟨by show 8 ≤ sizeLine; decide, fun r1 m1 => ?_⟩
  obtain ⟨S0, g0⟩ := good0 (C := C) (n := n) (xs := xs) (i := 0) (by decide) n0
  obtain ⟨S1, g1⟩ := good0 (C := C) (n := n) (xs := xs) (i := 1) (by decide) n1
  obtain ⟨S2, g2⟩ := good0 (C := C) (n := n) (xs := xs) (i := 2) (by decide) n2
  obtain ⟨S3, g3⟩ := good0 (C := C) (n := n) (xs := xs) (i := 3) (by decide) n3
  obtain ⟨S4, g4⟩ := good0 (C := C) (n := n) (xs := xs) (i := 4) (by decide) n4
  obtain ⟨S5, g5⟩ := good0 (C := C) (n := n) (xs := xs) (i := 5) (by decide) n5
  obtain ⟨S6, g6⟩ := good0 (C := C) (n := n) (xs := xs) (i := 6) (by decide) n6
  obtain ⟨S7, g7⟩ := good0 (C := C) (n := n) (xs := xs) (i := 7) (by decide) n7
  have R1 := same_new m1 (.lst [.ref a0, .ref a1, .ref a2, .ref a3, .ref a4, .ref a5, .ref a6, .ref a7])
  have L1 := (gl_cons (off := 0) (g0.same (S1.trans (S2.trans (S3.trans (S4.trans (S5.trans (S6.trans (S7.trans R1)))))))) (gl_cons (off := 1) (g1.same (S2.trans (S3.trans (S4.trans (S5.trans (S6.trans (S7.trans R1))))))) (gl_cons (off := 2) (g2.same (S3.trans (S4.trans (S5.trans (S6.trans (S7.trans R1)))))) (gl_cons (off := 3) (g3.same (S4.trans (S5.trans (S6.trans (S7.trans R1))))) (gl_cons (off := 4) (g4.same (S5.trans (S6.trans (S7.trans R1)))) (gl_cons (off := 5) (g5.same (S6.trans (S7.trans R1))) (gl_cons (off := 6) (g6.same (S7.trans R1)) (gl_cons (off := 7) (g7.same R1) gl_nil))))))))
  have T1 : Same H _ := (S0.trans (S1.trans (S2.trans (S3.trans (S4.trans (S5.trans (S6.trans (S7.trans R1))))))))
  refine ⟨_, rfl, fun a8 n8 a9 n9 => ?_⟩
  obtain ⟨S8, g8⟩ := good0 (C := C) (n := n) (xs := xs) (i := 8) (by decide) n8
  obtain ⟨S9, g9⟩ := good0 (C := C) (n := n) (xs := xs) (i := 9) (by decide) n9
  refine ⟨_, rfl, (by show 1 ≤ 1000; decide), fun a10 n10 => ⟨a10, .int n, rfl, upd_same, fun d10 p10 q10 => ⟨rfl, ?_⟩⟩⟩
  obtain ⟨S10, g10⟩ := good1 (C := C) (n := n) (xs := xs) (i := 10) (by decide) (by decide) n10 p10 q10
  refine ⟨_, rfl, (by show 1 ≤ 1000; decide), fun a11 n11 => ⟨a11, .int n, rfl, upd_same, fun d11 p11 q11 => ⟨rfl, ?_⟩⟩⟩
  obtain ⟨S11, g11⟩ := good1 (C := C) (n := n) (xs := xs) (i := 11) (by decide) (by decide) n11 p11 q11
  refine ⟨_, rfl, (by show 1 ≤ 1000; decide), fun a12 n12 => ⟨a12, .int n, rfl, upd_same, fun d12 p12 q12 => ⟨rfl, ?_⟩⟩⟩
  obtain ⟨S12, g12⟩ := good1 (C := C) (n := n) (xs := xs) (i := 12) (by decide) (by decide) n12 p12 q12
  refine ⟨_, rfl, (by show 1 ≤ 1000; decide), fun a13 n13 => ⟨a13, .int n, rfl, upd_same, fun d13 p13 q13 => ⟨rfl, ?_⟩⟩⟩
  obtain ⟨S13, g13⟩ := good1 (C := C) (n := n) (xs := xs) (i := 13) (by decide) (by decide) n13 p13 q13
  refine ⟨by show 6 ≤ sizeLine; decide, fun u2 w2 => ?_⟩
  have U2 := same_new w2 (.lst [.ref a8, .ref a9, .ref a10, .ref a11, .ref a12, .ref a13])
  have M2 := (S8.trans (S9.trans (S10.trans (S11.trans (S12.trans (S13.trans U2))))))
  refine ⟨r1, u2, _, _, rfl, rfl, M2 _ _ upd_same, upd_same, by show 14 ≤ sizeLine; decide, fun r2 m2 => ?_⟩
  have R2 := same_new m2 (.lst [.ref a0, .ref a1, .ref a2, .ref a3, .ref a4, .ref a5, .ref a6, .ref a7, .ref a8, .ref a9, .ref a10, .ref a11, .ref a12, .ref a13])
  have L2 := (gl_cons (off := 8) (g8.same (S9.trans (S10.trans (S11.trans (S12.trans (S13.trans (U2.trans R2))))))) (gl_cons (off := 9) (g9.same (S10.trans (S11.trans (S12.trans (S13.trans (U2.trans R2)))))) (gl_cons (off := 10) (g10.same (S11.trans (S12.trans (S13.trans (U2.trans R2))))) (gl_cons (off := 11) (g11.same (S12.trans (S13.trans (U2.trans R2)))) (gl_cons (off := 12) (g12.same (S13.trans (U2.trans R2))) (gl_cons (off := 13) (g13.same (U2.trans R2)) gl_nil))))))
  have L12 := good_app (L1.same (M2.trans R2)) L2
  have T2 := T1.trans (M2.trans R2)
  refine ⟨_, rfl, _, rfl, (by show 1 ≤ 1000; decide), fun a14 n14 => ⟨a14, .int n, rfl, upd_same, fun d14 p14 q14 => ⟨rfl, ?_⟩⟩⟩
  obtain ⟨S14, g14⟩ := good1 (C := C) (n := n) (xs := xs) (i := 14) (by decide) (by decide) n14 p14 q14
  refine ⟨_, rfl, _, rfl, (by show 2 ≤ 1000; decide), fun a15 n15 => ?_⟩
  have hg15 := (T2.trans S14) _ _ hg
  refine ⟨a15, g, .int n, xs, rfl, upd_same, by rw [upd_ne (ne_of_none hg15 n15)]; exact hg15, fun d15 g15' H15 k1 k2 k3 k4 => ⟨rfl, ?_⟩⟩
  have S15 : Same _ H15 := fun b o e => k1 b o (by rw [upd_ne (ne_of_none e n15)]; exact e) (ne_of_none e n15)
  have g15 : GoodE C n xs H15 15 (.ref a15) := ⟨a15, rfl, .inr (.inr ⟨rfl, d15, g15', k2, k3, k4⟩)⟩
  refine ⟨by show 2 ≤ sizeLine; decide, fun u3 w3 => ?_⟩
  have U3 := same_new w3 (.lst [.ref a14, .ref a15])
  refine ⟨r2, u3, _, _, rfl, rfl, (S14.trans (S15.trans U3)) _ _ upd_same, upd_same, by show 16 ≤ sizeLine; decide, fun r3 m3 => ?_⟩
  have R3 := same_new m3 (.lst [.ref a0, .ref a1, .ref a2, .ref a3, .ref a4, .ref a5, .ref a6, .ref a7, .ref a8, .ref a9, .ref a10, .ref a11, .ref a12, .ref a13, .ref a14, .ref a15])
  have L3 := (gl_cons (off := 14) (g14.same (S15.trans (U3.trans R3))) (gl_cons (off := 15) (g15.same (U3.trans R3)) gl_nil))
  exact k r3 _ _ (T2.trans (S14.trans (S15.trans (U3.trans R3)))) upd_same rfl ((good_app (L12.same (S14.trans (S15.trans (U3.trans R3)))) L3).at0)
end
end E17
namespace E17
open PySem PySem.Spec PyProof.Rows L2 NdefX
/-! ### the law -/
abbrev sLaw : Stmt := top 21
abbrev nLaw : List Str := ["_law_script", "_law_cell", "_law_number", "_law_goals", "_law_some", "_law_k", "_law_e", "_law_j"]
theorem scLaw : FnScope nLaw ["_law_script"] (defScope sLaw) := ⟨rfl, rfl, rfl, by decide +kernel, rfl, by decide +kernel, by decide +kernel⟩
def spLaw (K : PySem.W.Frag) : Sp := fun vs H Q _ => ∃ (a : Addr) (ns : List Int), vs = [.ref a] ∧ SqL K H a (ns.map V.int) ∧ ns.length ≤ 63 ∧ ∀ H', Q (.bl true) H'
theorem cut_map (ns : List Int) (lo hi : Option Int) : ∃ ms : List Int, cutV (ns.map V.int) lo hi = ms.map V.int := by
  unfold cutV
  rw [← List.map_drop, ← List.map_take]
  exact ⟨_, rfl⟩
theorem cut_take (xs : List V) (i : Int) : ∃ m, cutV xs none (some i) = xs.take m := ⟨_, rfl⟩
def srt (i : Nat) : PyData := .list ((List.range 16).map fun j => .bool (decide (i = j)))
theorem srt_ok : ∀ i, i < 16 → SeqAt.shaped (srt i) = true ∧ PyData.eqv (srt i) (srt i) = true := by decide +kernel
theorem dpAll_bls (K : PySem.W.Frag) (H : Hp) (g : Nat → Bool) : ∀ l : List Nat, DpAll K H (l.map fun j => V.bl (g j)) (l.map fun j => PyData.bool (g j))
  | [] => .nil
  | _ :: l => .cons (.bl _) (dpAll_bls K H g l)
theorem GoodE.fld {C : Nat → Addr} {n : Int} {xs : List V} {H : Hp} {i : Nat} {v : V} (h : GoodE C n xs H i v) (hi : 10 ≤ i) : ∃ a dx fs, v = .ref a ∧ H a = some (exo a (C i) (some dx)) ∧ H dx = some (exd dx fs) ∧ fs.lookup ("at" : Str) = some (.int n) := by
  obtain ⟨a, rfl, h⟩ := h
  rcases h with ⟨h1, _⟩ | ⟨_, _, dx, h3, h4⟩ | ⟨_, dx, r, h2, h3, _⟩
  · omega
  · exact ⟨a, dx, _, rfl, h3, h4, by simp [List.lookup]⟩
  · refine ⟨a, dx, _, rfl, h2, h3, ?_⟩
    rw [lookup_put, if_neg (by decide +kernel), lookup_put, if_pos rfl]
theorem Inis.noAt {P : Program} {K : PySem.W.Frag} {C : Nat → Addr} (J : Inis P K C) : ∀ m, 10 ≤ m → m ≤ 15 → PySem.W.findIn K (.ref (C m)) "at" = some none := fun m h1 h2 => by
  obtain ⟨_, _, _, _, a⟩ := J.i10
  obtain ⟨_, _, _, _, b⟩ := J.i11
  obtain ⟨_, _, _, _, c⟩ := J.i12
  obtain ⟨_, _, _, _, d⟩ := J.i13
  obtain ⟨_, _, _, _, e⟩ := J.i14
  obtain ⟨_, _, _, _, f⟩ := J.i15
  rcases (show m = 10 ∨ m = 11 ∨ m = 12 ∨ m = 13 ∨ m = 14 ∨ m = 15 by omega) with rfl | rfl | rfl | rfl | rfl | rfl
  · exact a.no
  · exact b.no
  · exact c.no
  · exact d.no
  · exact e.no
  · exact f.no
theorem no_true : inV (.bl true) (sortsOf 16) = false := by decide +kernel
section
variable {P : Program} {w : World} {K : PySem.W.Frag} {mg : Str → Option Value} {base : Heap} {f fM fS : Addr} {fd fdM fdS : FuncData} {C : Nat → Addr}
theorem ok_law (F : Fun K "law" "law" sLaw f fd) (T : Txt K mg C) (GM : FnOk P w K mg base CX0 3 fM fdM ["_law_number", "_law_goals"] (spMade C)) (bM : Binds K fdM ["_law_number", "_law_goals"] []) (kM : PySem.W.keepIn K (.ref fM) = true) (mM : mg "_law_made" = some (.ref fM))
    (J : Inis P K C) (GS : FnOk P w K mg base CX0 1 fS fdS ["_law_e"] (spSorts C)) (bS : Binds K fdS ["_law_e"] []) (kS : PySem.W.keepIn K (.ref fS) = true) (mS : mg "_law_sorts" = some (.ref fS)) : FnOk P w K mg base CX0 4 f fd ["_law_script"] (spLaw K) := by
  have nd := scLaw.nd
  refine F.ok scLaw (fun vs H Q E h => ?_) (fun cdv A outer s H vs Q E hr h => ?_)
  · obtain ⟨a, ns, rfl, _⟩ := h
    rfl
  obtain ⟨a, ns, rfl, ha, h63, k⟩ := h
  have isi : ∀ {X : Cx} (hK : X.K = K), CallR X (.builtin "isinstance") (rIsEx K) := fun {X} hK => by subst hK; exact call_isEx
  refine ⟨_, pss_cons (ps_set (i := 1) nd rfl (Or.inl rfl) (pe_callB (cr_sum rfl) (by rfl) T.sum (by decide +kernel) (pa_cons (pe_slice sl_list (pv 0) po_none (po_some pe_int)) pa_nil)))
    (pss_cons (ps_set (i := 2) nd rfl (Or.inl rfl) (pe_op op_modN (pe_op op_fdivN (pv 1) pe_int) pe_int))
    (pss_cons (ps_if (pt_cmpR op_eq (pe_op op_modN (pv 1) pe_int) pe_int (nomark _)) (pss_one (ps_set (i := 2) nd rfl (Or.inl rfl) (pe_op op_modN (pe_op op_fdivN (pv 1) pe_int) (pe_op op_pow pe_int pe_int)))) pss_nil)
    (pss_cons (ps_set (i := 3) nd rfl (Or.inl rfl) (pe_slice sl_list (pe_lst
        (pa_cons (pe_tup (pa_cons (pe_tup pa_nil) (pa_cons (pe_tup (pa_cons pe_str pa_nil)) pa_nil)))
        (pa_cons (pe_tup (pa_cons (pe_tup (pa_cons (pe_tup (pa_cons pe_str pa_nil)) pa_nil)) (pa_cons (pe_tup (pa_cons pe_str (pa_cons (pe_tup (pa_cons pe_str pa_nil)) pa_nil))) pa_nil))) pa_nil)))
        po_none (po_some (pe_op op_modN (pe_op op_fdivN (pv 1) pe_int) pe_int))))
    (pss_cons (ps_set (i := 4) nd rfl (Or.inl rfl) (pe_call GM hr rfl mM kM bM .nil pass0 (pa_cons (pv 2) (pa_cons (pv 3) pa_nil))))
    (pss_cons (ps_for PassesOwn.never rfl (pi_range1 rfl T.rng (pa_cons pe_int pa_nil)) (pg_name (i := 5) nd rfl (Or.inr rfl))
      (pss_cons (ps_if (pt_cmpR (op_neD hr.units) (pe_call GS (hr.mono (by decide)) rfl mS kS bS .nil pass0 (pa_cons (pe_ix ix_list (pv 4) (pv 5) (fun _ _ => rfl)) pa_nil))
          (pe_lc (own := [("_law_j", 7)]) rfl nd (pi_range1 rfl T.rng (pa_cons pe_int pa_nil)) (blkOk_by (N := nLaw) (sc := defScope sLaw) (by decide +kernel)) (fun _ _ _ _ _ => pg_name (i := 7) nd rfl (Or.inl rfl)) (fun _ _ _ _ _ => pts_nil) (fun _ _ _ _ _ => pe_cmp (pc_eqI (pv 5) (pv 7)) rfl)) (nomark _))
        (pss_one (ps_ret pe_bl)) pss_nil)
      (pss_one (ps_if (PW.pt (pw_or (pt_not (pt_val (pe_callB (isi rfl) (by rfl) T.isi boot_isi (pa_cons (pe_ix ix_list (pv 4) (pv 5) (fun _ _ => rfl)) (pa_cons (pe_glob (v := .ref (C 16)) rfl T.m16 rfl) pa_nil)))))
          (pw_or1 (pt_not (pt_val (pe_callB (isi rfl) (by rfl) T.isi boot_isi (pa_cons (pe_ix ix_list (pv 4) (pv 5) (fun _ _ => rfl)) (pa_cons (pe_bltn (v := .ty "ValueError") rfl T.ve (by decide +kernel) rfl) pa_nil))))))))
        (pss_one (ps_ret pe_bl)) pss_nil))))
    (pss_cons (ps_for PassesOwn.never rfl (pi_list (pe_lst (pa_cons (pe_ix ix_list (pv 4) pe_int (fun _ _ => rfl)) (pa_cons (pe_ix ix_list (pv 4) pe_int (fun _ _ => rfl)) (pa_cons (pe_ix ix_list (pv 4) pe_int (fun _ _ => rfl))
        (pa_cons (pe_ix ix_list (pv 4) pe_int (fun _ _ => rfl)) (pa_cons (pe_ix ix_list (pv 4) pe_int (fun _ _ => rfl)) (pa_cons (pe_ix ix_list (pv 4) pe_int (fun _ _ => rfl)) pa_nil)))))))) (pg_name (i := 6) nd rfl (Or.inl rfl))
      (pss_one (ps_if (PW.pt (pw_or (pt_cmpR op_ne (pe_xat (pv 6)) (pv 2) (nomark _)) (pw_or1 (pt_val (pe_callB call_isi (by rfl) T.isi boot_isi (pa_cons (pe_xat (pv 6)) (pa_cons (pe_bltn (v := .ty "bool") rfl T.bol (by decide +kernel) rfl) pa_nil)))))))
        (pss_one (ps_ret pe_bl)) pss_nil)))
    (pss_one (ps_ret (pe_and (pe_cmpR (op_eqD hr.units) (pe_xat (pe_ix ix_list (pv 4) pe_int (fun _ _ => rfl))) (pv 3) (nomark _))
      (pe_one (pe_cmpR op_notIn_seq pe_bl (pe_call GS (hr.mono (by decide)) rfl mS kS bS .nil pass0 (pa_cons (pe_exc1 _root_.PySem.F.excBase_ValueError (T.ex 16 (by decide)) T.m16 (T.kp 16 (by decide)) (by rfl) pe_str) pa_nil)) (by rfl)))))))))))), ?_⟩
  obtain ⟨ms, hms⟩ := cut_map ns none (some 1)
  refine ⟨_, rfl, _, rfl, a, _, rfl, ha, fun r0 n0 => ⟨r0, ms, rfl, SqL.of (by rw [← hms]; exact upd_same), ?_⟩⟩
  refine ⟨_, rfl, _, _, rfl, rfl, ⟨by decide, by decide⟩, _, _, rfl, rfl, (by show (41 : Int) ≠ 0; decide), ?_⟩
  refine ⟨_, rfl, _, _, rfl, rfl, (by show (2 : Int) ≠ 0; decide), rfl, _, rfl, ?_⟩
  refine ite2 (fun c => ?_) (fun c => ?_)
  case' refine_2.refine_1 => refine ⟨_, rfl, _, _, rfl, rfl, ⟨by decide, by decide⟩, _, _, rfl, rfl, ⟨by decide, by decide, by decide⟩, _, _, rfl, rfl, (by show (10 : Int) ^ 60 ≠ 0; decide), ?_⟩
  case' refine_2.refine_1 => obtain ⟨num, hnum⟩ : ∃ num : Int, num = (ms.sum.fdiv 2).fmod (10 ^ Int.toNat 60) := ⟨_, rfl⟩
  case' refine_2.refine_2 => obtain ⟨num, hnum⟩ : ∃ num : Int, num = (ms.sum.fdiv 2).fmod 41 := ⟨_, rfl⟩
  all_goals
    have z0 : (0 : Nat) ≤ sizeLine := by decide
    have z1 : (1 : Nat) ≤ sizeLine := by decide
    have z2 : (2 : Nat) ≤ sizeLine := by decide
    refine ⟨z0, fun e0 m0 => ⟨z1, fun e1 m1 => ⟨z2, fun e2 m2 => ?_⟩⟩⟩
    refine ⟨z1, fun e3 m3 => ⟨z1, fun e4 m4 => ⟨z1, fun e5 m5 => ⟨z2, fun e6 m6 => ⟨z2, fun e7 m7 => ⟨z2, fun e8 m8 => ?_⟩⟩⟩⟩⟩⟩
    have S0 := same_new m0 (.tup [])
    have S1 := same_new m1 (.tup [.str "no"])
    have S2 := same_new m2 (.tup [.ref e0, .ref e1])
    have S3 := same_new m3 (.tup [.str "no"])
    have S4 := same_new m4 (.tup [.ref e3])
    have S5 := same_new m5 (.tup [.str "no"])
    have S6 := same_new m6 (.tup [.str "not", .ref e5])
    have S7 := same_new m7 (.tup [.ref e4, .ref e6])
    have S8 := same_new m8 (.lst [.ref e2, .ref e7])
    refine ⟨_, rfl, _, _, rfl, rfl, ⟨by decide, by decide⟩, _, _, rfl, rfl, (by show (3 : Int) ≠ 0; decide), _, rfl, e8, _, rfl, SqL.of upd_same, fun G mG => ?_⟩
    obtain ⟨cm, hcm⟩ := cut_take [V.ref e2, V.ref e7] ((ms.sum.fdiv 4).fmod 3)
    have SG := same_new mG (.lst (cutV [V.ref e2, V.ref e7] none (some ((ms.sum.fdiv 4).fmod 3))))
    have h0 := (S1.trans (S2.trans (S3.trans (S4.trans (S5.trans (S6.trans (S7.trans (S8.trans SG)))))))) _ _ upd_same
    have h1 := (S2.trans (S3.trans (S4.trans (S5.trans (S6.trans (S7.trans (S8.trans SG))))))) _ _ upd_same
    have h2 := (S3.trans (S4.trans (S5.trans (S6.trans (S7.trans (S8.trans SG)))))) _ _ upd_same
    have h3 := (S4.trans (S5.trans (S6.trans (S7.trans (S8.trans SG))))) _ _ upd_same
    have h4 := (S5.trans (S6.trans (S7.trans (S8.trans SG)))) _ _ upd_same
    have h5 := (S6.trans (S7.trans (S8.trans SG))) _ _ upd_same
    have h6 := (S7.trans (S8.trans SG)) _ _ upd_same
    have h7 := (S8.trans SG) _ _ upd_same
    have dG : ∀ (Hz : Hp), Same _ Hz → ∃ ds, DpAll K Hz (cutV [V.ref e2, V.ref e7] none (some ((ms.sum.fdiv 4).fmod 3))) ds ∧ SeqAt.shaped (.list ds) = true ∧ PyData.eqv (.list ds) (.list ds) = true := fun Hz e => by
      have t0 : Dp K Hz (.ref e0) (.tuple []) := .tup (SqT.of (e _ _ h0)) .nil
      have t1 : Dp K Hz (.ref e1) (.tuple [.str "no"]) := .tup (SqT.of (e _ _ h1)) (.cons (.str _) .nil)
      have t2 : Dp K Hz (.ref e2) (.tuple [.tuple [], .tuple [.str "no"]]) := .tup (SqT.of (e _ _ h2)) (.cons t0 (.cons t1 .nil))
      have t3 : Dp K Hz (.ref e3) (.tuple [.str "no"]) := .tup (SqT.of (e _ _ h3)) (.cons (.str _) .nil)
      have t4 : Dp K Hz (.ref e4) (.tuple [.tuple [.str "no"]]) := .tup (SqT.of (e _ _ h4)) (.cons t3 .nil)
      have t5 : Dp K Hz (.ref e5) (.tuple [.str "no"]) := .tup (SqT.of (e _ _ h5)) (.cons (.str _) .nil)
      have t6 : Dp K Hz (.ref e6) (.tuple [.str "not", .tuple [.str "no"]]) := .tup (SqT.of (e _ _ h6)) (.cons (.str _) (.cons t5 .nil))
      have t7 : Dp K Hz (.ref e7) (.tuple [.tuple [.tuple [.str "no"]], .tuple [.str "not", .tuple [.str "no"]]]) := .tup (SqT.of (e _ _ h7)) (.cons t4 (.cons t6 .nil))
      rw [hcm]
      match cm with
      | 0 => exact ⟨_, .nil, by decide +kernel, by decide +kernel⟩
      | 1 => exact ⟨_, .cons t2 .nil, by decide +kernel, by decide +kernel⟩
      | q + 2 =>
        rw [show List.take (q + 2) [V.ref e2, V.ref e7] = [V.ref e2, V.ref e7] by simp]
        exact ⟨_, .cons t2 (.cons t7 .nil), by decide +kernel, by decide +kernel⟩
    refine ⟨_, rfl, _, rfl, num, G, _, by rw [hnum] <;> rfl, upd_same, fun p Hm es SM hp hes hgood => ?_⟩
    have slots : ∀ (σ : L2.St), σ.length = 8 ∧ σ[2]? = some (some (V.int num)) ∧ σ[3]? = some (some (V.ref G)) ∧ σ[4]? = some (some (V.ref p)) → ∀ (q : Nat) (x : Option V), 5 ≤ q → (σ.set q x).length = 8 ∧ (σ.set q x)[2]? = some (some (V.int num)) ∧ (σ.set q x)[3]? = some (some (V.ref G)) ∧ (σ.set q x)[4]? = some (some (V.ref p)) := fun σ ⟨l, s2, s3, s4⟩ q x hq => by
      refine ⟨by rw [List.length_set]; exact l, ?_, ?_, ?_⟩ <;> rw [List.getElem?_set_ne (by omega)] <;> assumption
    have at5 : ∀ (σ : L2.St), σ.length = 8 → ∀ (q : Nat) (x : V), q < 8 → (σ.set q (some x))[q]? = some (some x) := fun σ l q x hq => by
      rw [List.getElem?_set_self (by omega)]
    refine ⟨16, rfl, by decide, by decide, for_range (n := 16) (fun i σ H => (σ.length = 8 ∧ σ[2]? = some (some (V.int num)) ∧ σ[3]? = some (some (V.ref G)) ∧ σ[4]? = some (some (V.ref p))) ∧ Same Hm H) ?_ ?_ ?_⟩
    · exact ⟨⟨rfl, by rw [hnum] <;> rfl, rfl, rfl⟩, Same.refl _⟩
    · intro i σ H hi hP
      obtain ⟨hsl, SH⟩ := hP
      have sl5 := slots σ hsl 5 (some (.int (0 + (i : Int)))) (by decide)
      have s5 := at5 σ hsl.1 5 (.int (0 + (i : Int))) (by decide)
      have ei : (0 : Int) + (i : Int) = (i : Int) := by omega
      have hev : es[i]? = some (es[i]'(by omega)) := List.getElem?_eq_getElem _
      obtain ⟨x, ex, hx⟩ := hgood i _ hev
      have hex : IsEx H x (C i) := by
        refine IsEx.same SH ?_
        rcases hx with ⟨_, h⟩ | ⟨_, _, dx, h1, h2⟩ | ⟨_, dx, r, h1, h2, _⟩
        · exact h
        · exact .inr (.inr ⟨dx, _, h1, h2⟩)
        · exact .inr (.inr ⟨dx, _, h1, h2⟩)
      have hat : atI es (0 + (i : Int)) = some (.ref x) := by
        rw [ei, ← ex]
        exact atI_nat hev
      refine ⟨_, sl5.2.2.2, _, s5, p, es, _, .ref x, rfl, rfl, SqL.of (SH _ _ hp), hat, x, i, rfl, by omega, hex, fun r H2 S2 nr hr2 => ?_⟩
      refine ⟨16, rfl, by decide, by decide, fun D nD => lc_range (n := 16) (fun j H => Same H2 H ∧ H D = some (.lst ((List.range j).map fun t => V.bl (decide (i = t))))) ⟨same_new nD _, upd_same⟩ ?_ ?_⟩
      · intro j H3 hj hP3
        obtain ⟨S3, hD⟩ := hP3
        have q5 : ((wipe (σ.set 5 (some (.int (0 + (i : Int))))) [7]).set 7 (some (.int (0 + (j : Int)))))[5]? = some (some (V.int (0 + (i : Int)))) := by
          rw [List.getElem?_set_ne (by decide)]
          show ((σ.set 5 (some (.int (0 + (i : Int))))).set 7 none)[5]? = _
          rw [List.getElem?_set_ne (by decide)]
          exact s5
        have q7 : ((wipe (σ.set 5 (some (.int (0 + (i : Int))))) [7]).set 7 (some (.int (0 + (j : Int)))))[7]? = some (some (V.int (0 + (j : Int)))) :=
          at5 _ (by rw [wipe_length]; exact sl5.1) 7 _ (by decide)
        refine ⟨by simp [wipe], ?_⟩
        unfold tYes
        show (if (true : Bool) = true then _ else _)
        rw [if_pos rfl]
        refine ⟨_, q5, _, q7, _, _, rfl, rfl, _, hD, ?_, ?_, ?_⟩
        · rw [List.length_map, List.length_range]
          exact small1000 (by omega)
        · exact fun b o e => by rw [upd_ne (ne_of_none e nD)]; exact S3 _ _ e
        · rw [upd_same, List.range_succ, List.map_append]
          have eb : decide ((0 : Int) + (i : Int) = 0 + (j : Int)) = decide (i = j) := decide_eq_decide.mpr (by omega)
          show some (HO.lst (_ ++ [V.bl (decide ((0 : Int) + (i : Int) = 0 + (j : Int)))])) = _
          rw [eb]
          rfl
      · intro H3 hP3
        obtain ⟨S3, hD⟩ := hP3
        have ok := srt_ok i hi
        have S03 : Same Hm H3 := SH.trans (S2.trans S3)
        have hex3 := hex.same (S2.trans S3)
        refine ⟨srt i, srt i, .lst (SqL.of (S3 _ _ hr2)) (dpAll_bls K H3 (fun j => decide (i = j)) (List.range 16)), .lst (SqL.of hD) (dpAll_bls K H3 (fun j => decide (i = j)) (List.range 16)), ok.1, ok.1, _, rfl, ?_⟩
        rw [ok.2]
        refine iteF ?_
        refine ⟨_, sl5.2.2.2, _, s5, p, es, _, .ref x, rfl, rfl, SqL.of (S03 _ _ hp), hat, x, C i, .ref (C 16), .ref (C 16), true, rfl, hex3, T.ce i (by omega), fun _ h => h, T.kS i (by omega), true, rfl, iteF ?_⟩
        refine ⟨_, sl5.2.2.2, _, s5, p, es, _, .ref x, rfl, rfl, SqL.of (S03 _ _ hp), hat, x, C i, .ty "ValueError", .type "ValueError", true, rfl, hex3, T.ce i (by omega), fun _ h => h, T.kV i (by omega), true, rfl, iteF ?_⟩
        exact ⟨sl5, S03⟩
    · intro σ H hP
      obtain ⟨hsl, SH⟩ := hP
      have atE : ∀ m, m < 16 → atI es ((m : Nat) : Int) = some (es.getD m .non) := fun m hm => atI_nat (by rw [List.getD_eq_getElem?_getD, List.getElem?_eq_getElem (by omega)]; rfl)
      refine ⟨_, hsl.2.2.2, p, es, _, _, rfl, rfl, SqL.of (SH _ _ hp), atE 10 (by decide), _, hsl.2.2.2, p, es, _, _, rfl, rfl, SqL.of (SH _ _ hp), atE 11 (by decide), _, hsl.2.2.2, p, es, _, _, rfl, rfl, SqL.of (SH _ _ hp), atE 12 (by decide), _, hsl.2.2.2, p, es, _, _, rfl, rfl, SqL.of (SH _ _ hp), atE 13 (by decide), _, hsl.2.2.2, p, es, _, _, rfl, rfl, SqL.of (SH _ _ hp), atE 14 (by decide), _, hsl.2.2.2, p, es, _, _, rfl, rfl, SqL.of (SH _ _ hp), atE 15 (by decide), by show 6 ≤ sizeLine; decide, fun Lq nL => ?_⟩
      refine ⟨Lq, rfl, ⟨_, SqL.of upd_same⟩, for_list (K := K) (xs := [es.getD 10 .non, es.getD 11 .non, es.getD 12 .non, es.getD 13 .non, es.getD 14 .non, es.getD 15 .non])
        (fun i σ H2 => (σ.length = 8 ∧ σ[2]? = some (some (V.int num)) ∧ σ[3]? = some (some (V.ref G)) ∧ σ[4]? = some (some (V.ref p))) ∧ Same (upd H Lq (.lst [es.getD 10 .non, es.getD 11 .non, es.getD 12 .non, es.getD 13 .non, es.getD 14 .non, es.getD 15 .non])) H2) ?_ ?_ ?_ ?_⟩
      · exact ⟨hsl, Same.refl _⟩
      · exact fun i σ H2 hi hP => SqL.of (hP.2 _ _ upd_same)
      · intro i v σ2 H2 hv hP
        obtain ⟨hsl2, SH2⟩ := hP
        have SHm : Same Hm H2 := SH.trans ((same_new nL _).trans SH2)
        obtain ⟨m, hm1, hm2, hmv⟩ : ∃ m, 10 ≤ m ∧ m ≤ 15 ∧ es[m]? = some v := by
          have g : ∀ m, m < 16 → es[m]? = some (es.getD m .non) := fun m hm => by rw [List.getD_eq_getElem?_getD, List.getElem?_eq_getElem (by omega)]; rfl
          match i, hv with
          | 0, hv => exact ⟨10, by decide, by decide, (g 10 (by decide)).trans hv⟩
          | 1, hv => exact ⟨11, by decide, by decide, (g 11 (by decide)).trans hv⟩
          | 2, hv => exact ⟨12, by decide, by decide, (g 12 (by decide)).trans hv⟩
          | 3, hv => exact ⟨13, by decide, by decide, (g 13 (by decide)).trans hv⟩
          | 4, hv => exact ⟨14, by decide, by decide, (g 14 (by decide)).trans hv⟩
          | 5, hv => exact ⟨15, by decide, by decide, (g 15 (by decide)).trans hv⟩
          | i + 6, hv => cases hv
        obtain ⟨x, dx, fs, rfl, hx, hdx, hfs⟩ := ((hgood m v hmv).same SHm).fld hm1
        have sl6 := slots σ2 hsl2 6 (some (.ref x)) (by decide)
        have s6 := at5 σ2 hsl2.1 6 (.ref x) (by decide)
        refine ⟨_, s6, x, C m, dx, fs, .int num, rfl, hx, hdx, T.ce m (by omega), J.noAt m hm1 hm2, hfs, _, sl6.2.1, rfl, _, rfl, iteNS rfl ?_⟩
        refine ⟨_, s6, x, C m, dx, fs, .int num, rfl, hx, hdx, T.ce m (by omega), J.noAt m hm1 hm2, hfs, _, .ty "bool", .type "int", .type "bool", false, rfl, .ty "bool", .base (.int num), kit_ty (by decide +kernel), false, rfl, iteF ?_⟩
        exact ⟨sl6, SH2⟩
      · intro σ2 H2 hP
        obtain ⟨hsl2, SH2⟩ := hP
        have SHm : Same Hm H2 := SH.trans ((same_new nL _).trans SH2)
        have e15 : es[15]? = some (es.getD 15 .non) := by rw [List.getD_eq_getElem?_getD, List.getElem?_eq_getElem (by omega)]; rfl
        obtain ⟨x, ex, hx⟩ := (hgood 15 _ e15).same SHm
        rcases hx with ⟨q, _⟩ | ⟨_, q, _⟩ | ⟨_, dx, r, hx, hdx, hr15⟩
        · omega
        · omega
        obtain ⟨_, _, _, _, I15⟩ := J.i15
        obtain ⟨ds, hds, sh, ev⟩ := dG H2 (SM.trans SHm)
        refine ⟨_, hsl2.2.2.2, p, es, _, _, rfl, rfl, SqL.of (SHm _ _ hp), atE 15 (by decide), x, C 15, dx, _, .ref r, ex, hx, hdx, T.ce 15 (by decide), I15.no2, by simp [List.lookup], _, hsl2.2.2.1, .list ds, .list ds, .lst (SqL.of hr15) hds, .lst (SqL.of ((SM.trans SHm) _ _ upd_same)) hds, sh, sh, _, rfl, ?_⟩
        rw [ev]
        refine iteT ?_
        refine fun a16 n16 => ⟨a16, 16, rfl, by decide, .inl upd_same, fun r' H' S' nr' hr' => ?_⟩
        refine ⟨r', sortsOf 16, rfl, .inl (SqL.of hr'), rfl, by decide +kernel, ?_⟩
        rw [no_true]
        exact k H'
end
end E17
namespace E17
open PySem PySem.Spec PyProof.Rows L2 NdefX
/-! ### what the top has written -/
def clsB (K : PySem.W.Frag) (C : Addr) : Bool :=
  (PySem.W.clsIn K C).isSome && decide (PySem.W.findIn K (.ref C) "__getattribute__" = some (some (.builtin "BaseException.__getattribute__"))) && decide (PySem.W.findIn K (.ref C) "__getattr__" = some none) &&
  decide (PySem.W.subIn K (.ref C) (.type "BaseException") = some true) && decide (PySem.W.findIn K (.ref C) "__class__" = some (some (.builtin "object.__class__"))) &&
  decide (PySem.W.specialIn K (.builtin "object.__class__") "__get__" = some (some (.builtin "getset_descriptor.__get__"))) && decide (PySem.W.takesIn K (.builtin "object.__class__") = some true) &&
  decide (PySem.W.mroIn K C (.type "object") = some true) && PySem.W.hasDictIn K C && PySem.W.keepIn K (.ref C)
theorem clsB_ok {K : PySem.W.Frag} {C : Addr} (h : clsB K C = true) : ClsE K C ∧ PySem.W.keepIn K (.ref C) = true := by
  unfold clsB at h
  simp only [Bool.and_eq_true, decide_eq_true_eq] at h
  obtain ⟨⟨⟨⟨⟨⟨⟨⟨⟨h1, h2⟩, h3⟩, h4⟩, h5⟩, h6⟩, h7⟩, h8⟩, h9⟩, h10⟩ := h
  exact ⟨⟨h1, h2, h3, h4, h5, h6, h7, h8, h9⟩, h10⟩
def allB (K : PySem.W.Frag) (cs : List Addr) : Bool :=
  (List.range 17).all fun i => clsB K (cs.getD i 0) &&
    ((List.range 16).all fun j => decide (PySem.W.kitOne K (.ref (cs.getD i 0)) (.ref (cs.getD j 0)) = some (decide (i = j)))) &&
    decide (PySem.W.kitOne K (.ref (cs.getD i 0)) (.ref (cs.getD 16 0)) = some true) && decide (PySem.W.kitOne K (.ref (cs.getD i 0)) (.type "ValueError") = some true) &&
    (decide (10 ≤ i ∧ i ≤ 15) || PySem.W.excIn K (cs.getD i 0) [.type "ValueError", .type "Exception", .type "BaseException", .type "object"] "ValueError.__new__")
theorem allB_ok {K : PySem.W.Frag} {cs : List Addr} (h : allB K cs = true) (i : Nat) (hi : i ≤ 16) : (ClsE K (cs.getD i 0) ∧ PySem.W.keepIn K (.ref (cs.getD i 0)) = true) ∧
    (∀ j, j ≤ 15 → PySem.W.kitOne K (.ref (cs.getD i 0)) (.ref (cs.getD j 0)) = some (decide (i = j))) ∧ PySem.W.kitOne K (.ref (cs.getD i 0)) (.ref (cs.getD 16 0)) = some true ∧ PySem.W.kitOne K (.ref (cs.getD i 0)) (.type "ValueError") = some true ∧
    (¬ (10 ≤ i ∧ i ≤ 15) → PySem.W.excIn K (cs.getD i 0) [.type "ValueError", .type "Exception", .type "BaseException", .type "object"] "ValueError.__new__" = true) := by
  have q := List.all_eq_true.mp h i (List.mem_range.mpr (by omega))
  simp only [Bool.and_eq_true, Bool.or_eq_true, decide_eq_true_eq] at q
  obtain ⟨⟨⟨⟨h1, h2⟩, h3⟩, h4⟩, h5⟩ := q
  refine ⟨clsB_ok h1, fun j hj => ?_, h3, h4, fun n => h5.resolve_left n⟩
  exact of_decide_eq_true (List.all_eq_true.mp h2 j (List.mem_range.mpr (by omega)))
/-- one own __init__, by its facts -/
theorem ini_mk {K : PySem.W.Frag} {st : Stmt} {qual : Str} {ps : List Str} {C f cc cda : Addr} {oc kV doc pm ct : Value} {od an : Option Addr} {osl : Array (Option Value)} {c1 c2 : Value} {d1 d2 : Option Addr} {sl1 sl2 : Array (Option Value)} {vs : Array Value} {t : Tok} {fl : Str}
    {nm q : Str} {N : Addr} {bs bm : List Value} {sn : List Str} {sub : List Value} {ab : Bool} {col : Option Bool} {dd : Option Addr} {k0 k1 k2 k3 k5 : Option Value}
    (iC : PySem.W.findIn K (.ref C) "__init__" = some (some (.ref f)))
    (lk : K.lookup f = some ⟨oc, od, .func (PySem.W.fnX "__init__" qual (defArgs st) (defBody st) (defScope st) [(("__class__" : Str), cc)] .none kV doc pm an (.ref cda) ct), osl⟩)
    (cl : K.lookup cc = some ⟨c1, d1, .cell (some (.ref C)), sl1⟩) (cd : PySem.W.codeIn K (.ref cda) qual = true) (cf : K.lookup cda = some ⟨c2, d2, .fields vs, sl2⟩) (hv : vs[2]? = some (.str fl t))
    (hf : ((PySem.Challenge.rw_goalsmith_k17_refusals.prog.main.file : Str) == fl) = true) (tI : PySem.W.typeIn K (.ref f) = some (.type "function"))
    (lc : K.lookup C = some (excClassObj nm q C N bs bm true sn sub ab col dd k0 k1 k2 k3 k5 "ValueError.__new__")) (vb : PySem.HandSPX.refsVE bm = true)
    (sa : PySem.W.findIn K (.ref C) "__setattr__" = some (some (.builtin "object.__setattr__"))) (xb : PySem.W.subIn K (.ref C) (.type "BaseException") = some true) (ty : PySem.W.typeIn K (.ref C) = some (.type "type")) (kp : PySem.W.keepIn K (.ref C) = true)
    (nx : PySem.W.ks_superIn K C C "__init__" = some (some (.builtin "ValueError.__init__"))) (sv : PySem.W.subIn K (.ref C) (.type "ValueError") = some true) (ms : PySem.W.mroIn K C (.ref C) = some true) (op : PySem.W.nsIn K cStatics "thirdparty.any" = some none)
    (n1 : PySem.W.findIn K (.ref C) "at" = some none) (n2 : PySem.W.findIn K (.ref C) "goals" = some none) (par : ((defArgs st).posonlyargs ++ (defArgs st).args).head?.map (·.arg) = some ("self" : Str))
    (hb : ∀ us : List Value, us.length = ps.length → bindArgs (PySem.W.fnX "__init__" qual (defArgs st) (defBody st) (defScope st) [(("__class__" : Str), cc)] .none kV doc pm an (.ref cda) ct) ⟨us, []⟩ = pure (ps.zip us)) :
    ∃ f cc cda fd, Ini PySem.Challenge.rw_goalsmith_k17_refusals.prog K st qual ps C f cc cda fd :=
  ⟨f, cc, cda, _, ⟨⟨kV, doc, pm, an, ct, rfl⟩, ⟨oc, od, osl, lk⟩, rfl, ⟨c1, d1, sl1, cl⟩, cd, ⟨c2, d2, sl2, vs, t, fl, cf, hv, hf⟩, by decide +kernel, par⟩, ⟨⟨⟨nm, q, N, bs, bm, sn, sub, ab, col, dd, k0, k1, k2, k3, k5, lc, vb⟩, sa, xb, ty, kp⟩, nx, sv, ms, op⟩, iC, tI, n1, n2, .all hb⟩
theorem all_mk {w : World} {K : PySem.W.Frag} {h : Heap} {mg : Str → Option Value} {fa f1 f2 f3 c0 c1 c2 c3 c4 c5 c6 c7 c8 c9 c10 c11 c12 c13 c14 c15 c16 : Addr} (X : K.In h) (G : h.Ns mainGlobals mg) (hfa : mg "law" = some (.ref fa))
    {od1 an1 od2 an2 od3 an3 : Option Addr} {sl1 sl2 sl3 : Array (Option Value)} {oc1 kV1 dc1 pm1 cd1 ct1 oc2 kV2 dc2 pm2 cd2 ct2 oc3 kV3 dc3 pm3 cd3 ct3 : Value}
    (a1 : PySem.W.nsIn K mainGlobals "_law_sorts" = some (some (.ref f1))) (l1 : K.lookup f1 = some ⟨oc1, od1, .func (PySem.W.fnOf "_law_sorts" "_law_sorts" (defArgs sSorts) (defBody sSorts) (defScope sSorts) .none kV1 dc1 pm1 an1 cd1 ct1), sl1⟩) (d1 : PySem.W.codeIn K cd1 "_law_sorts" = true) (k1 : PySem.W.keepIn K (.ref f1) = true)
    (a2 : PySem.W.nsIn K mainGlobals "_law_made" = some (some (.ref f2))) (l2 : K.lookup f2 = some ⟨oc2, od2, .func (PySem.W.fnOf "_law_made" "_law_made" (defArgs sMade) (defBody sMade) (defScope sMade) .none kV2 dc2 pm2 an2 cd2 ct2), sl2⟩) (d2 : PySem.W.codeIn K cd2 "_law_made" = true) (k2 : PySem.W.keepIn K (.ref f2) = true)
    (a3 : PySem.W.nsIn K mainGlobals "law" = some (some (.ref f3))) (l3 : K.lookup f3 = some ⟨oc3, od3, .func (PySem.W.fnOf "law" "law" (defArgs sLaw) (defBody sLaw) (defScope sLaw) .none kV3 dc3 pm3 an3 cd3 ct3), sl3⟩) (d3 : PySem.W.codeIn K cd3 "law" = true) (k3 : PySem.W.keepIn K (.ref f3) = true)
    (g0 : PySem.W.nsIn K mainGlobals "NoGround" = some (some (.ref c0)))
    (g1 : PySem.W.nsIn K mainGlobals "NoText" = some (some (.ref c1)))
    (g2 : PySem.W.nsIn K mainGlobals "NoData" = some (some (.ref c2)))
    (g3 : PySem.W.nsIn K mainGlobals "TooMany" = some (some (.ref c3)))
    (g4 : PySem.W.nsIn K mainGlobals "TooFar" = some (some (.ref c4)))
    (g5 : PySem.W.nsIn K mainGlobals "NoRule" = some (some (.ref c5)))
    (g6 : PySem.W.nsIn K mainGlobals "NoGoal" = some (some (.ref c6)))
    (g7 : PySem.W.nsIn K mainGlobals "Fails" = some (some (.ref c7)))
    (g8 : PySem.W.nsIn K mainGlobals "NotFalling" = some (some (.ref c8)))
    (g9 : PySem.W.nsIn K mainGlobals "NoRewrite" = some (some (.ref c9)))
    (g10 : PySem.W.nsIn K mainGlobals "NoRow" = some (some (.ref c10)))
    (g11 : PySem.W.nsIn K mainGlobals "BadText" = some (some (.ref c11)))
    (g12 : PySem.W.nsIn K mainGlobals "Taken" = some (some (.ref c12)))
    (g13 : PySem.W.nsIn K mainGlobals "NoName" = some (some (.ref c13)))
    (g14 : PySem.W.nsIn K mainGlobals "Unfit" = some (some (.ref c14)))
    (g15 : PySem.W.nsIn K mainGlobals "Left" = some (some (.ref c15)))
    (g16 : PySem.W.nsIn K mainGlobals "SmithError" = some (some (.ref c16)))
    (z_isinstance : PySem.W.nsIn K mainGlobals "isinstance" = some none)
    (z_list : PySem.W.nsIn K mainGlobals "list" = some none)
    (z_sum : PySem.W.nsIn K mainGlobals "sum" = some none)
    (z_range : PySem.W.nsIn K mainGlobals "range" = some none)
    (z_ValueError : PySem.W.nsIn K mainGlobals "ValueError" = some none)
    (z_bool : PySem.W.nsIn K mainGlobals "bool" = some none)
    (z_super : PySem.W.nsIn K mainGlobals "super" = some none)
    (big : allB K [c0, c1, c2, c3, c4, c5, c6, c7, c8, c9, c10, c11, c12, c13, c14, c15, c16] = true) (J : Inis PySem.Challenge.rw_goalsmith_k17_refusals.prog K fun i => [c0, c1, c2, c3, c4, c5, c6, c7, c8, c9, c10, c11, c12, c13, c14, c15, c16].getD i 0) :
    ∃ fd : FuncData, (∀ (s : Shared) (v : Value), BindsTo s fd ⟨[v], []⟩ [("_law_script", v)]) ∧ ∀ base : Heap, K.In base → base.Ns mainGlobals mg → FnOk PySem.Challenge.rw_goalsmith_k17_refusals.prog w K mg base CX0 4 fa fd ["_law_script"] (spLaw K) := by
  have e := hfa.symm.trans (PySem.W.mg_of X G a3)
  cases e
  have A := allB_ok big
  have T : Txt K mg fun i => [c0, c1, c2, c3, c4, c5, c6, c7, c8, c9, c10, c11, c12, c13, c14, c15, c16].getD i 0 := {
    ce := fun i hi => (A i hi).1.1
    kk := fun i j hi hj => (A i hi).2.1 j hj
    kS := fun i hi => (A i (by omega)).2.2.1
    kV := fun i hi => (A i (by omega)).2.2.2.1
    ex := fun i hi => (A i (by omega)).2.2.2.2 (by omega)
    kp := fun i hi => (A i hi).1.2
    m0 := PySem.W.mg_of X G g0
    m1 := PySem.W.mg_of X G g1
    m2 := PySem.W.mg_of X G g2
    m3 := PySem.W.mg_of X G g3
    m4 := PySem.W.mg_of X G g4
    m5 := PySem.W.mg_of X G g5
    m6 := PySem.W.mg_of X G g6
    m7 := PySem.W.mg_of X G g7
    m8 := PySem.W.mg_of X G g8
    m9 := PySem.W.mg_of X G g9
    m10 := PySem.W.mg_of X G g10
    m11 := PySem.W.mg_of X G g11
    m12 := PySem.W.mg_of X G g12
    m13 := PySem.W.mg_of X G g13
    m14 := PySem.W.mg_of X G g14
    m15 := PySem.W.mg_of X G g15
    m16 := PySem.W.mg_of X G g16
    isi := PySem.W.mg_none_of X G z_isinstance
    lst := PySem.W.mg_none_of X G z_list
    sum := PySem.W.mg_none_of X G z_sum
    rng := PySem.W.mg_none_of X G z_range
    ve := PySem.W.mg_none_of X G z_ValueError
    bol := PySem.W.mg_none_of X G z_bool
    sup := PySem.W.mg_none_of X G z_super }
  have F1 := fun_mk (st := sSorts) l1 d1 k1
  have F2 := fun_mk (st := sMade) l2 d2 k2
  have F3 := fun_mk (st := sLaw) l3 d3 k3
  have b1 := F1.binds (ps := ["_law_e"]) fun _ _ _ _ _ _ us hl => match us, hl with | [_], _ => rfl
  have b2 := F2.binds (ps := ["_law_number", "_law_goals"]) fun _ _ _ _ _ _ us hl => match us, hl with | [_, _], _ => rfl
  exact ⟨PySem.W.fnOf "law" "law" (defArgs sLaw) (defBody sLaw) (defScope sLaw) .none kV3 dc3 pm3 an3 cd3 ct3, fun s v => .of_eq rfl, fun base _ _ =>
    ok_law F3 T (ok_made F2 T J) b2 k2 (PySem.W.mg_of X G a2) J (ok_sorts F1 T) b1 k1 (PySem.W.mg_of X G a1)⟩
theorem walk {q : Program} {loose : List Str} {XP : (Str → Option Value) → Heap → Prop} {YP : World → Heap → Prop} {d : DefRec} {K : Params → PySem.W.Frag} (hdf : d.params.defaults = [])
    (hY : ∀ (w : World) (h : Heap), YP w h → (K w.params).In h)
    (F : ∀ (w : World) (mg : Str → Option Value) (fa : Addr) (h : Heap), (K w.params).In h → h.Ns mainGlobals mg → mg d.name = some (.ref fa) →
      ∃ fd : FuncData, (∀ (s : Shared) (u : Value), BindsTo s fd ⟨[u], []⟩ [("_law_script", u)]) ∧ ∀ base : Heap, (K w.params).In base → base.Ns mainGlobals mg → FnOk PySem.Challenge.rw_goalsmith_k17_refusals.prog w (K w.params) mg base CX0 4 fa fd ["_law_script"] (spLaw (K w.params))) :
    PySem.W.WalkO q loose XP YP PySem.Challenge.rw_goalsmith_k17_refusals.row.toRowW d [] (fun f vs => PySem.call f vs) :=
  L2.walk_of (l := PySem.Challenge.rw_goalsmith_k17_refusals) (n := 63) (k := 4) (x := "_law_script") (CX := fun _ => CX0) (sp := fun w => spLaw (K w.params)) rfl (by decide) hdf ⟨rfl, by decide, by decide⟩ hY F (fun _ _ a ns hl _ hS => ⟨a, ns, rfl, hS, hl, fun _ => rfl⟩) fun _ _ _ _ _ z => z
end E17
open PySem PySem.W PyProof.Rows
set_option maxRecDepth 100000 in
set_option maxHeartbeats 0 in
theorem PySem.Challenge.cw_goalsmith_k17_refusals_holds : PySem.Challenge.rw_goalsmith_k17_refusals.Holds := by
  w_on; o_law; k_head; (case hw => w_witness2)
  k_fill
  refine E17.walk rfl (fun w h Y => PySem.W.kIn_of Y) ?F
  case F =>
    intro w mg fa h KX G hmg
    refine' E17.all_mk KX G hmg ?a1 ?l1 ?d1 ?k1 ?a2 ?l2 ?d2 ?k2 ?a3 ?l3 ?d3 ?k3 ?nm0 ?nm1 ?nm2 ?nm3 ?nm4 ?nm5 ?nm6 ?nm7 ?nm8 ?nm9 ?nm10 ?nm11 ?nm12 ?nm13 ?nm14 ?nm15 ?nm16 ?bn1 ?bn2 ?bn3 ?bn4 ?bn5 ?bn6 ?bn7 ?big ?J
    (case a1 => k_is); (case l1 => k_is); (case d1 => k_is); (case k1 => k_is)
    (case a2 => k_is); (case l2 => k_is); (case d2 => k_is); (case k2 => k_is)
    (case a3 => k_is); (case l3 => k_is); (case d3 => k_is); (case k3 => k_is)
    (case nm0 => k_is); (case nm1 => k_is); (case nm2 => k_is); (case nm3 => k_is); (case nm4 => k_is); (case nm5 => k_is); (case nm6 => k_is); (case nm7 => k_is); (case nm8 => k_is); (case nm9 => k_is); (case nm10 => k_is); (case nm11 => k_is); (case nm12 => k_is); (case nm13 => k_is); (case nm14 => k_is); (case nm15 => k_is); (case nm16 => k_is)
    (case bn1 => k_is); (case bn2 => k_is); (case bn3 => k_is); (case bn4 => k_is); (case bn5 => k_is); (case bn6 => k_is); (case bn7 => k_is)
    (case big => kernel_rfl)
    case J =>
      refine' ⟨?i10, ?i11, ?i12, ?i13, ?i14, ?i15⟩
      case i10 =>
        refine' E17.ini_mk ?iC ?lk ?cl ?cd ?cf ?hv ?hf ?tI ?lc ?vb ?sa ?xb ?ty ?kp ?nx ?sv ?ms ?op ?n1 ?n2 ?par ?hb
        (case iC => k_is); (case lk => k_is); (case cl => k_is); (case cd => k_is); (case cf => k_is); (case hv => rfl); (case hf => kernel_rfl); (case tI => k_is); (case lc => k_is); (case vb => kernel_rfl); (case sa => k_is); (case xb => k_is); (case ty => k_is); (case kp => k_is)
        (case nx => kernel_rfl); (case sv => k_is); (case ms => kernel_rfl); (case op => k_is); (case n1 => k_is); (case n2 => k_is); (case par => rfl); (case hb => exact fun us hl => match us, hl with | [_, _], _ => rfl)
      case i11 =>
        refine' E17.ini_mk ?iC ?lk ?cl ?cd ?cf ?hv ?hf ?tI ?lc ?vb ?sa ?xb ?ty ?kp ?nx ?sv ?ms ?op ?n1 ?n2 ?par ?hb
        (case iC => k_is); (case lk => k_is); (case cl => k_is); (case cd => k_is); (case cf => k_is); (case hv => rfl); (case hf => kernel_rfl); (case tI => k_is); (case lc => k_is); (case vb => kernel_rfl); (case sa => k_is); (case xb => k_is); (case ty => k_is); (case kp => k_is)
        (case nx => kernel_rfl); (case sv => k_is); (case ms => kernel_rfl); (case op => k_is); (case n1 => k_is); (case n2 => k_is); (case par => rfl); (case hb => exact fun us hl => match us, hl with | [_, _], _ => rfl)
      case i12 =>
        refine' E17.ini_mk ?iC ?lk ?cl ?cd ?cf ?hv ?hf ?tI ?lc ?vb ?sa ?xb ?ty ?kp ?nx ?sv ?ms ?op ?n1 ?n2 ?par ?hb
        (case iC => k_is); (case lk => k_is); (case cl => k_is); (case cd => k_is); (case cf => k_is); (case hv => rfl); (case hf => kernel_rfl); (case tI => k_is); (case lc => k_is); (case vb => kernel_rfl); (case sa => k_is); (case xb => k_is); (case ty => k_is); (case kp => k_is)
        (case nx => kernel_rfl); (case sv => k_is); (case ms => kernel_rfl); (case op => k_is); (case n1 => k_is); (case n2 => k_is); (case par => rfl); (case hb => exact fun us hl => match us, hl with | [_, _], _ => rfl)
      case i13 =>
        refine' E17.ini_mk ?iC ?lk ?cl ?cd ?cf ?hv ?hf ?tI ?lc ?vb ?sa ?xb ?ty ?kp ?nx ?sv ?ms ?op ?n1 ?n2 ?par ?hb
        (case iC => k_is); (case lk => k_is); (case cl => k_is); (case cd => k_is); (case cf => k_is); (case hv => rfl); (case hf => kernel_rfl); (case tI => k_is); (case lc => k_is); (case vb => kernel_rfl); (case sa => k_is); (case xb => k_is); (case ty => k_is); (case kp => k_is)
        (case nx => kernel_rfl); (case sv => k_is); (case ms => kernel_rfl); (case op => k_is); (case n1 => k_is); (case n2 => k_is); (case par => rfl); (case hb => exact fun us hl => match us, hl with | [_, _], _ => rfl)
      case i14 =>
        refine' E17.ini_mk ?iC ?lk ?cl ?cd ?cf ?hv ?hf ?tI ?lc ?vb ?sa ?xb ?ty ?kp ?nx ?sv ?ms ?op ?n1 ?n2 ?par ?hb
        (case iC => k_is); (case lk => k_is); (case cl => k_is); (case cd => k_is); (case cf => k_is); (case hv => rfl); (case hf => kernel_rfl); (case tI => k_is); (case lc => k_is); (case vb => kernel_rfl); (case sa => k_is); (case xb => k_is); (case ty => k_is); (case kp => k_is)
        (case nx => kernel_rfl); (case sv => k_is); (case ms => kernel_rfl); (case op => k_is); (case n1 => k_is); (case n2 => k_is); (case par => rfl); (case hb => exact fun us hl => match us, hl with | [_, _], _ => rfl)
      case i15 =>
        refine' E17.ini_mk ?iC ?lk ?cl ?cd ?cf ?hv ?hf ?tI ?lc ?vb ?sa ?xb ?ty ?kp ?nx ?sv ?ms ?op ?n1 ?n2 ?par ?hb
        (case iC => k_is); (case lk => k_is); (case cl => k_is); (case cd => k_is); (case cf => k_is); (case hv => rfl); (case hf => kernel_rfl); (case tI => k_is); (case lc => k_is); (case vb => kernel_rfl); (case sa => k_is); (case xb => k_is); (case ty => k_is); (case kp => k_is)
        (case nx => kernel_rfl); (case sv => k_is); (case ms => kernel_rfl); (case op => k_is); (case n1 => k_is); (case n2 => k_is); (case par => rfl); (case hb => exact fun us hl => match us, hl with | [_, _, _], _ => rfl)
#print axioms PySem.Challenge.cw_goalsmith_k17_refusals_holds
