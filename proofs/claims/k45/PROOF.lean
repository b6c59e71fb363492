import PyProof.Rows.All
import Wide.All
import OpenK.AllK
import Wide.FinOn
import HandS.ForMost
import HandS.ForExc
import HandS.ExcInit
import HandS.ExcValue
import HandS.ExcIs
import HandS.IsInst
import HandS.FStr
import KE.KExcSuper
import KE.KExcIs
import HandS.Flow
import HandS.CallSlots
import HandS.Comp
import KE.RegKSuper
import PySem.Challenge.RW_toldbyrest_k45_errors
set_option Elab.async false
set_option linter.all false
set_option maxRecDepth 100000
set_option maxHeartbeats 4000000
/-! Own exceptions over ValueError: super().__init__(..) in an own __init__; isinstance and fields of one held as a value. -/
namespace PySem
open PySem.W PySem.Calls PyProof.Rows
section
variable {prog : Program} {w : World} {A : Around} {E : Value → Shared → Prop} {h : Heap} {g : Array GenState} {d : Drawn} {t : Nat} {os : OsState}
variable {nm q : Str} {C N : Addr} {bs bm : List Value} {hdct : Bool} {sn : List Str} {sub : List Value} {ab : Bool} {col : Option Bool} {dd : Option Addr} {k0 k1 k2 k3 k5 : Option Value}
/-- the bound ValueError.__init__, called -/
theorem call_bwV {u e t0 : Addr} {rest : List Value} {Q : Value → Shared → Prop}
    (hC : h.get? C = some (excClassObj nm q C N bs bm hdct sn sub ab col dd k0 k1 k2 k3 k5 "ValueError.__new__")) (he : h.get? e = some (HandSPX.excO C t0)) (hu : h.get? u = some (W.kxs_mw "ValueError.__init__" e)) (hrest : rest.length ≤ sizeLine)
    (hq : ∀ h' t1, (∀ b o, b ≠ e → h.get? b = some o → h'.get? b = some o) → h'.get? e = some (HandSPX.excO C t1) → Q .none ⟨h', g, d, t, os⟩) :
    wpAny (model prog w) A (call (.ref u) rest) Q E ⟨h, g, d, t, os⟩ := by
  refine wpAny_call (codeAny_of_tree ?_)
  show wpAny _ A.in1 (callAny (.ref u) ⟨rest, []⟩) _ _ _
  simp only [callAny]
  refine wpAny_bind (wpAny_load hu ?_)
  simp only [W.kxs_mw, show (Value.type "method-wrapper" == Value.type "method" || Value.type "method-wrapper" == Value.type "builtin_function_or_method" || Value.type "method-wrapper" == Value.type "method-wrapper") = true by decide, if_true]
  refine W.KFB.if_so (by decide) ?_
  refine wpAny_bind (W.check_bound_init F.excBase_ValueError.toExcCallFacts hC he rfl ?_)
  refine wpAny_bind (wpAny_pure (wpAny_pure ?_))
  refine ⟨Code.quiet_builtin _ (by decide +kernel), codeAny_builtin F.excBase_ValueError.initEntry ?_⟩
  rw [Around.under_plainId F.excBase_ValueError.init.plain _]
  wp_walk
  refine hq _ h.objs.size (fun b o hb ho => ?_) ?_
  · rw [Heap.get?_update_other _ _ (Ne.symm hb)]
    exact Heap.get?_push_of_some _ ho
  · rw [Heap.get?_update_self _ (Heap.get?_push_of_some _ he) rfl]
    rfl
end
end PySem
namespace L2
open PySem PySem.Spec PyProof.Rows
/-- an exception of the class C stands at a: without a dict, or with one -/
def EAt (H : Hp) (a C : Addr) : Prop := H a = some (ExO (.ref C) a) ∨ ∃ (d : Addr) (fs : List (Str × V)), H a = some (exo a C (some d)) ∧ H d = some (exd d fs)
/-- what stands in the heap for it -/
theorem EAt.inst {X : Cx} {pins : List (Addr × Obj)} {σ : St} {H : Hp} {s : Shared} {a C : Addr} (I : Inv X pins σ H s) (h : EAt H a C) : ∃ (ox : Obj) (od : Option Obj), PySem.W.InstAt s.heap a ox C od := by
  rcases h with e | ⟨d, fs, e, ed⟩
  · obtain ⟨⟨oe, vs, ho, hz, hd, _⟩, _, _⟩ := I.hok a _ e
    refine ⟨oe, none, ?_⟩
    obtain ⟨oc, odd, oda, osl⟩ := oe
    obtain ⟨h1, h2⟩ := hz
    dsimp only at h1 h2 hd
    subst h1 h2 hd
    exact ⟨ho, rfl, rfl, trivial⟩
  · obtain ⟨t1, ho⟩ := exo_at I.hok e
    obtain ⟨mA, ⟨oD, es, ep, hoD, _⟩, _⟩ := exd_at I.hok ed
    exact ⟨_, some oD, ho, rfl, rfl, hoD⟩
/-- isinstance(e, c), e such an exception -/
def rIsO (K : PySem.W.Frag) : List V → Hp → VK → Prop := fun xs H Q => ∃ (a C : Addr) (c : V) (cv : Value) (b : Bool), xs = [.ref a, c] ∧ EAt H a C ∧ ExcC K C ∧ ClsV c cv ∧ PySem.W.kitOne K (.ref C) cv = some b ∧ Q (.bl b) H
theorem call_isO {X : Cx} : CallR X (.builtin "isinstance") (rIsO X.K) := by
  intro pins s σ H xs us Q I r h
  obtain ⟨a, C, c, cv, b, rfl, ea, T, k, e, q⟩ := h
  obtain ⟨u1, u2, rfl, r1, r2⟩ := vals2 r
  have e2 := k.eq r2
  subst e2
  obtain rfl : u1 = Value.ref a := r1
  obtain ⟨ox, od, J⟩ := ea.inst I
  have hcl : (PySem.W.clsIn X.K C).isSome = true := by
    obtain ⟨cd, hc, _⟩ := PySem.W.any_some T.hd
    rw [hc] <;> rfl
  exact PySem.W.kia_one (PySem.W.kitx_exc hcl T.hg T.hk T.hs T.ha T.hn T.ht T.hm) I.kIn J e (fun z => nomatch z) fun tk => ⟨.bl b, H, I.tok tk, rfl, q⟩
/-- e.f, e such an exception with a dict -/
def tOfld (K : PySem.W.Frag) (f : Str) (te : TE) : TE := fun σ H Q => te σ H fun x H1 => ∃ (a C d : Addr) (fs : List (Str × V)) (v : V), x = .ref a ∧ H1 a = some (exo a C (some d)) ∧ H1 d = some (exd d fs) ∧ ExcC K C ∧ PySem.W.findIn K (.ref C) f = some none ∧ fs.lookup f = some v ∧ Q v H1
theorem pe_ofld {X : Cx} {e : Expr} {te : TE} {pos : Pos} {n : Str} (he : PE X e te) (hb : attributeBase e n X.env (eval e X.env) = eval e X.env := by rfl) : PE X (.Attribute e n pos) (tOfld X.K n te) := by
  refine ⟨fun pins s σ H Q I h => ?_⟩
  refine attr_of hb (thn (he.run pins s σ H _ I h) fun u s1 hh => ?_)
  obtain ⟨x, H1, I1, rx, a, C, d, fs, v, ex, ea, ed, T, hno, l, q⟩ := hh
  subst ex
  obtain rfl : u = Value.ref a := rx
  obtain ⟨t1, ho⟩ := exo_at I1.hok ea
  obtain ⟨mA, hns, hr⟩ := exd_at I1.hok ed
  obtain ⟨od, hod, hl⟩ := lookIn_ns hns
  obtain ⟨u, hu, ru⟩ := RelO.some_of (v := v) (o := mA n) (by rw [← l]; exact hr n)
  have J : PySem.W.InstAt s1.heap a { cls := .ref C, dict := some d, data := .fields #[.ref t1, .none, .none, .none, .bool false, .none] } C (some od) := ⟨ho, rfl, rfl, hod⟩
  exact HandSPX.exc_get I1.kIn J T.hg T.hk T.hs (PySem.W.findObj_own T.hd hno rfl (by rw [hl, hu])) (handed_of ru) ⟨v, H1, I1.tok _, ru, q⟩
/-- C(e, ..), C's own __init__ keeping sp: the exception, held as a value -/
def tMkV (C : Addr) (sp : Sp) (ta : TA) : TE := fun σ H Q => ta σ H fun vs H1 => vs.length ≤ 1000 ∧ ∀ a, H1 a = none → sp (.ref a :: vs) (upd H1 a (exo a C none)) (fun v H2 => v = .non ∧ Q (.ref a) H2) (fun _ _ _ => False)
theorem pe_mkv {X : Cx} {e : Expr} {es : List Expr} {ta : TA} {p pos : Pos} {x : Str} {C fI : Addr} {k : Nat} {fd : FuncData} {ps : List Str} {sp : Sp} (T : OexC X.K C) (iC : PySem.W.findIn X.K (.ref C) "__init__" = some (some (.ref fI))) (tI : PySem.W.typeIn X.K (.ref fI) = some (.type "function"))
    (F1 : FnOk X.prog X.w X.K X.mg X.base CX0 k fI fd ps sp) (hr : Room (k + 1) X.A) (hb : Binds X.K fd ps []) (hg : Gl X x) (hm : X.mg x = some (.ref C)) (ha : PA X (e :: es) ta)
    (hdb : (x == ("__debug__" : Str)) = false := by decide) (he : starEach (e :: es) X.env = (false, eval e X.env) :: starEach es X.env := by rfl) (hpl : (backTo pos (starEach es X.env)).any (·.1) = false := by rfl) :
    PE X (.Call (.Name x p) (e :: es) [] pos) (tMkV C sp ta) := by
  refine ⟨fun pins s σ H Q I h => ?_⟩
  obtain ⟨nm, q, N, bs, bm, sn, sub, ab, col, dd, k0, k1, k2, k3, k5, hC, hbm⟩ := T.cls
  refine wpAny_Call_Name_kw (ld_glob I hg hm ?_ hdb)
  refine PySem.W.callWith_K (h₀ := X.base) I.ok.mod.kin T.kC (thn (ha.run pos pins s σ H _ I h) fun us s1 ⟨vs, H1, I1, r1, hz, q1⟩ => ⟨I1.kIn, ?_⟩) he hpl
  show wpAny _ _ (call (.ref C) us) _ _ _
  obtain ⟨hp, g, dr, tk, os⟩ := s1
  have hsz : hp.objs.size ≤ hp.objs.size + 1 := Nat.le_succ _
  have hn : H1 (hp.objs.size + 1) = none := I1.hok.fresh hsz
  have hq := q1 (hp.objs.size + 1) hn
  have kk : ∀ b o, hp.get? b = some o → ((hp.push (PySem.W.kdv_tup us)).push (PySem.HandSPX.excO C hp.objs.size)).get? b = some o := fun b o e => Heap.get?_push_of_some _ (Heap.get?_push_of_some _ e)
  have hget : ((hp.push (PySem.W.kdv_tup us)).push (PySem.HandSPX.excO C hp.objs.size)).get? (hp.objs.size + 1) = some (PySem.HandSPX.excO C hp.objs.size) := by heap_get
  have I2 : Inv X pins σ (upd H1 (hp.objs.size + 1) (exo (hp.objs.size + 1) C none)) ⟨(hp.push (PySem.W.kdv_tup us)).push (PySem.HandSPX.excO C hp.objs.size), g, dr, tk, os⟩ :=
    I1.laid (t' := tk) (a := hp.objs.size + 1) (o := exo (hp.objs.size + 1) C none) (h' := (hp.push (PySem.W.kdv_tup us)).push (PySem.HandSPX.excO C hp.objs.size)) kk hsz (exo_ok hget)
  have r2 : Vals (V.ref (hp.objs.size + 1) :: vs) (Value.ref (hp.objs.size + 1) :: us) := .cons rfl r1
  have hl : (Value.ref (hp.objs.size + 1) :: us ++ []).length = ps.length := by
    have e := r2.length
    rw [F1.len _ _ _ _ hq] at e
    rw [List.append_nil]
    exact e.symm
  have hus : us.length ≤ sizeLine := by
    rw [← Paired.length r1, sizeLine_eq]
    omega
  have hbb := hb _ (Value.ref (hp.objs.size + 1) :: us) I2.kIn hl
  rw [List.append_nil] at hbb
  refine wpAny_call (PySem.HandSPX.call_own F.excBase_ValueError (fun Y => PySem.HandSPX.refsVE_contains Y bm hbm) (I1.kIn _ _ hC) (PySem.W.looks_findIn I1.kIn iC) (fun self => PySem.W.bind_fn I1.kIn self tI) hus
    (codeAny_mono (F1.run _ X.stack _ _ ⟨Value.ref (hp.objs.size + 1) :: us, []⟩ (Value.ref (hp.objs.size + 1) :: us) _ _ (fun _ _ _ => False) (hr.make C us []) (I2.env0.make C us []) hbb r2 hq) fun r s' hq' => ?_))
  cases r with
  | error er => exact False.elim hq'
  | ok fl =>
    cases fl with
    | ret u =>
      obtain ⟨v, H2, os2, bare2, un2, hok2, rv, ev, q2⟩ := hq'
      subst ev
      have rv' : u = Value.none := rv
      subst rv'
      refine ⟨rfl, ?_⟩
      exact ⟨.ref (hp.objs.size + 1), H2, I2.call' (ch := []) os2 un2 hok2 bare2 (fun b z => absurd z (by simp)), rfl, q2⟩
    | next => exact False.elim hq'
    | brk => exact False.elim hq'
    | cont => exact False.elim hq'
end L2
set_option maxRecDepth 100000
set_option maxHeartbeats 4000000
namespace K45
open PySem PySem.Spec PyProof.Rows L2
def top (i : Nat) : Stmt := PySem.Challenge.pw_toldbyrest_k45_errors.main.body.getD i (.Pass ⟨0, 0, 0, 0⟩)
abbrev sPI : Stmt := inClass (top 2) 0
/-- ParseError.__init__(self, line) -/
def spPI (K : PySem.W.Frag) (C : Addr) : Sp := fun vs H Q _ => ∃ (a : Addr) (n : Int), vs = [.ref a, .int n] ∧ n.natAbs.log2 < 1920 ∧ H a = some (exo a C none) ∧
  ∀ d, H d = none → d ≠ a → Q .non (upd (upd H d (exd d [("line", .int n)])) a (exo a C (some d)))
/-- the frame of a def with a __class__ cell -/
def cxPI (P : Program) (w : World) (K : PySem.W.Frag) (mg : Str → Option Value) (base : Heap) (f : Addr) (cd : Value) (cc : Addr) (A : Around) (outer : List Env) (s : Shared) (H : Hp) (E : XK) : Cx where
  prog := P
  w := w
  K := K
  mg := mg
  base := base
  A := A.deeper (PySem.W.ksEnv "ParseError.__init__" (defScope sPI) s.heap.objs.size f cd cc)
  N := ["self", "line"]
  s_0 := s
  H_0 := H
  env := PySem.W.ksEnv "ParseError.__init__" (defScope sPI) s.heap.objs.size f cd cc
  outer := outer
  stack := PySem.W.ksEnv "ParseError.__init__" (defScope sPI) s.heap.objs.size f cd cc :: outer
  ex := []
  calm := true
  fn := fun _ => false
  pn := []
  xe := fun e s' => wpAny (model P w) (A.deeper (PySem.W.ksEnv "ParseError.__init__" (defScope sPI) s.heap.objs.size f cd cc)) (leaving (PySem.W.ksEnv "ParseError.__init__" (defScope sPI) s.heap.objs.size f cd cc) e) (fun _ s'' => CX0 outer H s E e s'') (fun e' s'' => CX0 outer H s E e' s'') s'
/-- what the written part says of the def -/
structure PIx (P : Program) (K : PySem.W.Frag) (mg : Str → Option Value) (C f : Addr) (fd : FuncData) : Prop where
  ex : ∃ (oc kV doc pm ct ccl cl : Value) (od an cdd cld : Option Addr) (osl ccs csl : Array (Option Value)) (cda cc : Addr) (vs : Array Value) (file : Str) (tf : Tok),
    fd = PySem.W.ksFn "__init__" "ParseError.__init__" (defArgs sPI) (defBody sPI) (defScope sPI) .none kV doc pm an (.ref cda) ct cc ∧ K.lookup f = some ⟨oc, od, .func fd, osl⟩ ∧ PySem.W.codeIn K (.ref cda) "ParseError.__init__" = true ∧
    K.lookup cda = some ⟨ccl, cdd, .fields vs, ccs⟩ ∧ vs[2]? = some (.str file tf) ∧ ((P.main.file : Str) == file) = true ∧ K.lookup cc = some ⟨cl, cld, .cell (some (.ref C)), csl⟩
  T : OexC K C
  ho : PySem.W.nsIn K cStatics "thirdparty.any" = some none
  hm : PySem.W.ks_superIn K C C "__init__" = some (some (.builtin "ValueError.__init__"))
  hB : PySem.W.subIn K (.ref C) (.type "ValueError") = some true
  hS : PySem.W.mroIn K C (.ref C) = some true
  su : mg "super" = none
  top : (P.main.scope.names.lookup ("super" : Str)).isSome = false
  nl : PySem.W.findIn K (.ref C) "line" = some none
section
variable {P : Program} {w : World} {K : PySem.W.Frag} {mg : Str → Option Value} {base : Heap}
theorem inv_pi {f C cda cc : Addr} {A : Around} {outer : List Env} {s : Shared} {H : Hp} {E : XK} {a : Addr} {n : Int} {tk : Tok} {h₁ : Heap} {cl : Value} {cld : Option Addr} {csl : Array (Option Value)} (hh : A.handled = none) (e0 : Env0 P w K mg base A outer s H)
    (hcc : K.lookup cc = some ⟨cl, cld, .cell (some (.ref C)), csl⟩)
    (hns : h₁.Ns s.heap.objs.size (fun x => ([("self", Value.ref a), ("line", Value.int n tk)] : List (Str × Value)).reverse.lookup x)) (hk : ∀ b o, s.heap.get? b = some o → h₁.get? b = some o) (t' : Nat) :
    Inv (cxPI P w K mg base f (.ref cda) cc A outer s H E) [] [some (.ref a), some (.int n)] H { s with heap := h₁, toks := t' } := by
  have hcB : base.get? cc = some ⟨cl, cld, .cell (some (.ref C)), csl⟩ := e0.mod.kin _ _ hcc
  have hcS := (e0.bs _ _ hcB).1
  have hcH := (e0.bs _ _ hcB).2
  have look : ∀ x c, (PySem.W.ksEnv "ParseError.__init__" (defScope sPI) s.heap.objs.size f (.ref cda) cc).cells.lookup x = some c → x = ("__class__" : Str) ∧ c = cc := fun x c e => by
    have e' : ([(("__class__" : Str), cc)] : List (Str × Addr)).lookup x = some c := e
    rw [List.lookup_cons] at e'
    cases q : (x == ("__class__" : Str)) with
    | true =>
      rw [q] at e'
      cases e'
      exact ⟨by simpa using q, rfl⟩
    | false =>
      rw [q] at e'
      cases e'
  refine ⟨⟨e0.mod, rfl, rfl, rfl, Nat.le_refl _, fun x y c h1 h2 => ?_, fun x hx => ?_, fun x c h => absurd h (by simp [cxPI]), fun _ => hh, Around.frames_deeper e0.frames, .inr ⟨rfl, rfl⟩, fun b z => absurd (show b ∈ ([] : List Addr) from z) (by simp), e0.bs, e0.bsz, fun b _ _ => (fun z => absurd (show b ∈ ([] : List Addr) from z) (by simp)), fun b z => absurd (show b ∈ ([] : List Addr) from z) (by simp), e0.funs, e0.frf⟩,
    rfl, e0.bare, Un.kept hk, ⟨_, hns, fun i y v h1 h2 h3 => ?_⟩, fun x c h => ?_, e0.hok.fresh (Nat.le_refl _), fun x c h => ?_, fun p hp => absurd (show p ∈ ([] : List (Addr × Obj)) from hp) (by simp), e0.hok.kept hk, rfl⟩
  · rw [(look x c h1).1, (look y c h2).1]
  · refine ⟨cc, ?_⟩
    have hx' : (defScope sPI).names.lookup x = some .cell ∨ (defScope sPI).names.lookup x = some .free := hx
    have hm : x = ("__class__" : Str) := by
      have hs : (defScope sPI).names = [(("self" : Str), NameKind.local), (("line" : Str), NameKind.local), (("__class__" : Str), NameKind.free), (("super" : Str), NameKind.globalImplicit)] := rfl
      rw [hs] at hx'
      simp only [List.lookup_cons, List.lookup_nil] at hx'
      cases q1 : (x == ("self" : Str)) <;> rw [q1] at hx'
      · cases q2 : (x == ("line" : Str)) <;> rw [q2] at hx'
        · cases q3 : (x == ("__class__" : Str)) with
          | true => simpa using q3
          | false =>
            rw [q3] at hx'
            cases q4 : (x == ("super" : Str)) <;> rw [q4] at hx' <;> simp at hx'
        · simp at hx'
      · simp at hx'
    subst hm
    rfl
  · match i, h1, h2 with
    | 0, h1, h2 =>
      cases h1
      cases h2
      exact ⟨.ref a, rfl, .inl ⟨rfl, rfl⟩⟩
    | 1, h1, h2 =>
      cases h1
      cases h2
      exact ⟨.int n tk, ⟨tk, rfl⟩, .inl ⟨rfl, rfl⟩⟩
    | i + 2, h1, h2 => exact absurd h1 (by simp [cxPI])
  · obtain ⟨rfl, rfl⟩ := look x c h
    exact ⟨_, _, hk _ _ hcS, rfl⟩
  · obtain ⟨rfl, rfl⟩ := look x c h
    exact hcH
theorem ok_pi {f C : Addr} {fd : FuncData} (X : PIx P K mg C f fd) : FnOk P w K mg base CX0 1 f fd ["self", "line"] (spPI K C) := by
  obtain ⟨⟨oc, kV, doc, pm, ct, ccl, cl, od, an, cdd, cld, osl, ccs, csl, cda, cc, vs2, file, tf, rfl, lk, hcd, hcode, hvs, hfile, hcc⟩, T, hop, hm, hB, hS, su, tp, nl⟩ := X
  refine ⟨fun vs H Q E h => ?_, fun A outer s H args us vs Q E hr e0 hb r hsp => ?_⟩
  · obtain ⟨a, n, rfl, _⟩ := h
    rfl
  obtain ⟨a, n, rfl, hn, ha, k⟩ := hsp
  obtain ⟨u1, u2, rfl, r1, r2⟩ := vals2 r
  obtain rfl : u1 = Value.ref a := r1
  obtain ⟨tk, rfl⟩ := (show ∃ t, u2 = Value.int n t from r2)
  have KX : K.In s.heap := e0.mod.kin.keeps fun b o e => (e0.bs b o e).1
  have lim : s.heap.NoLimit := e0.mod.nolimit.keeps fun b o e => (e0.bs b o e).1
  refine PySem.ks_codeAny_call_defAt (fd := PySem.W.ksFn "__init__" "ParseError.__init__" (defArgs sPI) (defBody sPI) (defScope sPI) .none kV doc pm an (.ref cda) ct cc) (body := defBody sPI) (binds := [("self", Value.ref a), ("line", Value.int n tk)])
    hr.depth (KX _ _ lk) rfl lim (PySem.W.codeRec_of KX hcd) rfl hb (show ∀ x ∈ (defScope sPI).names, x.2 ≠ .cell by decide +kernel) (fun x hx => ?_) (fun h₁ hns hk => ?_)
  · rcases List.mem_cons.mp hx with rfl | hx
    · rfl
    · rcases List.mem_cons.mp hx with rfl | hx
      · rfl
      · exact absurd hx (by simp)
  have I : Inv (cxPI P w K mg base f (.ref cda) cc A outer s H E) [] [some (.ref a), some (.int n)] H { s with heap := h₁, toks := s.toks + 2 } := inv_pi hr.hd e0 hcc hns hk _
  have KX1 : K.In h₁ := KX.keeps hk
  obtain ⟨mb, hb1, hb2⟩ := e0.mod.blt
  have gs : ∀ b o, base.get? b = some o → h₁.get? b = some o := fun b o e => hk b o (e0.bs b o e).1
  obtain ⟨cdD, hcD, _⟩ : ∃ cd, PySem.W.clsIn K C = some cd ∧ True := by
    cases e : PySem.W.clsIn K C with
    | none =>
      unfold PySem.W.ks_superIn at hm
      rw [e] at hm
      cases hm
    | some cd => exact ⟨cd, rfl, trivial⟩
  obtain ⟨oD, hD1, hD2⟩ : ∃ oD, h₁.get? C = some oD ∧ oD.data = .cls cdD := by
    unfold PySem.W.clsIn at hcD
    split at hcD
    · rename_i c d cd' sl ho
      cases hcD
      exact ⟨_, KX1 _ _ ho, rfl⟩
    · cases hcD
  obtain ⟨t1, hx⟩ := exo_at e0.hok ha
  refine PySem.ks_wpAt_execs_cons (PySem.ks_wpAt_Expr_any (PySem.ks_wpAt_MethodCall (PySem.ks_wpAt_super_base rfl rfl rfl rfl (KX1 _ _ lk) rfl rfl rfl (KX1 _ _ hcode) rfl hvs hfile tp ?_)))
  refine PySem.W.ks_loadName_global rfl rfl (PySem.Calls.loadGlobal_builtin (e0.mod.glob.keeps gs) su (hb1.keeps gs) ((hb2 "super" (by decide)).trans (by rfl)) ⟨rfl, ?_⟩)
  refine PySem.wpAny_loadName_free rfl rfl rfl ⟨_, KX1 _ _ hcc, rfl⟩ ?_
  refine PySem.wpAny_loadName_local rfl rfl hns rfl ?_
  refine PySem.ks_wpAny_isType_cls hD1 hD2 ⟨rfl, ?_⟩
  refine PySem.ks_wpAny_call_super hD1 hD2 (hk _ _ hx) rfl (fun c e => ?_) (PySem.W.looks_mroIn KX1 hS) (fun h2 e2 k2 => ?_)
  · cases e
  have KX2 : K.In h2 := KX1.keeps k2
  have I2 : PySem.W.InstAt h2 a (PySem.HandSPX.excO C t1) C none := ⟨k2 _ _ (hk _ _ hx), rfl, rfl, trivial⟩
  have hf : PySem.W.alongIn K "__init__" ((cdD.mro.dropWhile (· != .ref C)).drop 1) = some (some (.builtin "ValueError.__init__")) := by
    unfold PySem.W.ks_superIn at hm
    rw [hcD] at hm
    exact hm
  refine PySem.W.kxs_getMethod PySem.W.kxs_ValueError e2 (PySem.W.looks_opaque KX2 hop) (l₀ := cdD.mro) ((PySem.W.looks_clsIn KX2 hcD).andThen .now) rfl KX2 hf (I2.type.andThen (PySem.W.looks_subIn KX2 hB)) (PySem.W.ks_ne KX2 I2 hcD) (by decide) ?_
  have J0 := I.kept (t' := s.toks + 2) k2
  have J1 := J0.kept (t' := s.toks + 3) (h' := h2.push (PySem.W.kxs_mw "ValueError.__init__" a)) (fun b o e => Heap.get?_push_of_some _ e)
  have J2 := J1.pins_of (pins' := [(h2.objs.size, PySem.W.kxs_mw "ValueError.__init__" a)]) (fun p hp => by
    obtain rfl := List.mem_singleton.mp (show p ∈ [(h2.objs.size, PySem.W.kxs_mw "ValueError.__init__" a)] from hp)
    exact ⟨Heap.get?_push_at rfl rfl, J0.hok.fresh (Nat.le_refl _), Nat.ne_of_gt J0.lt, J0.nofs (Nat.le_refl _), fun v z => nomatch z⟩)
  refine PySem.W.kxs_callWith (i := "ValueError.__init__") (x := a) rfl ?_
  refine PySem.Calls.evalArgs_plain ?_
  refine thn (PA.run (pa_cons (pe_joined (.cons pe_str (.cons (pe_fmt (pv 1)) .nil))) pa_nil) ⟨7, 8, 7, 54⟩ _ _ _ H (fun vs H1 => (∃ z, vs = [.str z]) ∧ H1 = H) J2 ?_) (fun us s3 hu => ?_)
  · refine ⟨_, rfl, by decide +kernel, _, rfl, .inr ⟨n, rfl, hn, _, rfl, ?_, ⟨_, rfl⟩, rfl⟩⟩
    have e1 := PyProof.Rows.int_text_len_1921 hn
    have e2 : (Str.empty ++ ("no such text: line " : Str) ++ PySem.Str.ofString (toString n)).length = 19 + (PySem.Str.ofString (toString n)).length := by
      rw [Str.length_append, Str.length_append]
      exact congrArg (· + _) (by decide +kernel)
    refine Nat.le_trans (Nat.le_of_eq e2) ?_
    rw [sizeLine_eq]
    omega
  obtain ⟨vs3, H3, I3, r3, ⟨z, rfl⟩, rfl⟩ := hu
  obtain ⟨y, rfl, ry⟩ := vals1 r3
  have hpin := (I3.pin (h2.objs.size, PySem.W.kxs_mw "ValueError.__init__" a) (List.mem_append_right _ List.mem_cons_self)).1
  refine ⟨hpin, ?_⟩
  obtain ⟨nm, q, N, bs, bm, sn, sub, ab, col, dd, k0, k1, k2', k3, k5, hC, hbm⟩ := T.cls
  obtain ⟨t3, hx3⟩ := exo_at I3.hok ha
  obtain ⟨h3, g3, d3, tk3, os3⟩ := s3
  refine PySem.call_bwV (I3.kIn _ _ hC) hx3 hpin (by show 1 ≤ sizeLine; decide) (fun h4 t4 k4 hx4 => ?_)
  have J4 := I3.write (t' := tk3) (x := a) (e := a) (o := exo a C none) (by rw [ha]; exact True.intro) (.inl rfl) k4 ⟨_, hx4⟩ (exo_ok hx4)
  have eu : upd H3 a (exo a C none) = H3 := by
    funext b
    by_cases hb : b = a
    · rw [hb, upd_same, ha]
    · rw [upd_ne hb]
  rw [eu] at J4
  refine wpAt_of_wpAny ?_
  refine thn ((pss_one (ps_ost (pv 0) (pv 1))).run _ _ _ _ { nx := fun _ H' => Q .non H', rt := Q } J4 ?_) (fun fl s5 hs => ?_)
  · exact ⟨_, rfl, _, rfl, a, C, rfl, T, nl, .inl ⟨ha, fun dx nd ne => k dx nd ne⟩⟩
  have fin : ∀ {σ' : L2.St} {H' : Hp} {v : V} {u : Value}, Inv (cxPI P w K mg base f (.ref cda) cc A outer s H3 E) [(h2.objs.size, PySem.W.kxs_mw "ValueError.__init__" a)] σ' H' s5 → RelV v u → Q v H' → CE outer P w H3 s Q u s5 :=
    fun {σ' H' v u} J rv q => ⟨v, H', J.os, J.bare, J.base, J.hok, rv, q⟩
  cases fl with
  | ret u =>
    obtain ⟨v, σ', H', J, rv, q⟩ := hs
    exact fin J rv q
  | next =>
    obtain ⟨σ', H', J, q⟩ := hs
    exact fin (v := V.non) (u := Value.none) J rfl q
  | brk =>
    obtain ⟨_, _, _, q⟩ := hs
    exact False.elim q
  | cont =>
    obtain ⟨_, _, _, q⟩ := hs
    exact False.elim q
end
end K45
set_option maxRecDepth 100000
set_option maxHeartbeats 4000000
namespace K45
open PySem PySem.Spec PyProof.Rows L2
abbrev sPen : Stmt := top 24
abbrev sNext : Stmt := top 25
abbrev sDraw : Stmt := top 26
/-- a block's first statement, with what holds behind it chosen -/
def tCut (t u : TS) : TS := fun D σ H => ∃ R : L2.St → Hp → Prop, t { D with nx := R } σ H ∧ ∀ σ' H', R σ' H' → u D σ' H'
theorem pss_cut {X : Cx} {st : Stmt} {rest : List Stmt} {t u : TS} (h1 : PS X st t) (h2 : PSs X rest u) : PSs X (st :: rest) (tCut t u) := by
  refine ⟨fun pins s σ H D I ⟨R, h, hR⟩ => ?_⟩
  refine wpAny_execs_cons (thn (h1.run pins s σ H { D with nx := R } I h) fun f s1 q => ?_)
  cases f with
  | next =>
    obtain ⟨σ', H', I', q⟩ := q
    exact h2.run pins s1 σ' H' D I' (hR σ' H' q)
  | ret v => exact q
  | brk => exact q
  | cont => exact q
/-! ### The drawing machine, as numbers -/
def cellH (ns : List Int) (i : Int) : Int := if ns = [] then i * 1051 + 53 else (ns[(i % ns.length).toNat]?).getD 0
def mixS (c i : Int) : Int := (c % 2147483587 + i * 30103 + 79) % 2147483587
def mixM (c i : Int) : Int := (mixS c i * mixS c i + i * 70039 + 61) % 2147483563
def mixH (c i : Int) : Int := (mixM c i * mixM c i + mixS c i + i * i * 37) % 2147483549
def nextV (ns : List Int) (i : Int) : Int := if i < ns.length ∧ 1000000000000000000 ≤ cellH ns i then cellH ns i else (mixH (cellH ns i) i * 2147483587 + mixM (cellH ns i) i) * 2147483563 + mixS (cellH ns i) i
def drawR (ns : List Int) (i r u : Int) : Int := if r < u then nextV ns i else r
def drawI (i r u : Int) : Int := if r < u then i + 1 else i
/-- a pen stands at p, its cells at c -/
structure PenH (H : Hp) (p c : Addr) (ns : List Int) (i r : Int) : Prop where
  pen : H p = some (.lst [.ref c, .int i, .int r])
  cells : H c = some (.lst (ns.map .int))
theorem PenH.ne {H : Hp} {p c : Addr} {ns : List Int} {i r : Int} (h : PenH H p c ns i r) : c ≠ p := fun z => by
  have e := h.cells
  rw [z, h.pen] at e
  have e1 := Option.some.inj e
  injection e1 with e2
  cases ns with
  | nil => cases e2
  | cons n t =>
    injection e2 with e3 e4
    cases e3
/-- what stood in the heap stands, but at p -/
def Keep (p : Addr) (H H' : Hp) : Prop := ∀ b o, b ≠ p → H b = some o → H' b = some o
theorem canLay_ints : ∀ ns : List Int, PyData.canLayAll0 (ns.map .int) = true
  | [] => rfl
  | n :: t => by
    show (true && PyData.canLayAll0 (t.map .int)) = true
    rw [canLay_ints t] <;> rfl
theorem depth_ints : ∀ ns : List Int, PyData.depthAll (ns.map .int) = 0
  | [] => rfl
  | n :: t => by
    show max 0 (PyData.depthAll (t.map .int)) = 0
    rw [depth_ints t] <;> rfl
theorem shaped_ints (ns : List Int) : SeqAt.shaped (.list (ns.map .int)) = true := by
  unfold SeqAt.shaped
  refine Bool.and_eq_true_iff.mpr ⟨canLay_ints ns, decide_eq_true ?_⟩
  show PyData.depthAll (ns.map .int) + 1 ≤ 64
  rw [depth_ints]
  decide
theorem cut60 (xs : List V) : cutV xs none (some 60) = xs.take 60 := by
  show (xs.drop 0).take (min 60 xs.length - 0) = xs.take 60
  rw [List.drop_zero, Nat.sub_zero]
  rcases Nat.le_total 60 xs.length with h | h
  · rw [Nat.min_eq_left h]
  · rw [Nat.min_eq_right h, List.take_length, List.take_of_length_le h]
theorem dp_ints {K : PySem.W.Frag} {H : Hp} {a : Addr} {ns : List Int} (h : H a = some (.lst (ns.map .int))) : Dp K H (.ref a) (.list (ns.map .int)) := by
  refine .lst (SqL.of h) ?_
  clear h
  induction ns with
  | nil => exact .nil
  | cons n t ih => exact .cons (.int n) ih
theorem eqv_ints_nil (ns : List Int) : (!PyData.eqv (.list (ns.map .int)) (.list [])) = decide (ns ≠ []) := by
  cases ns with
  | nil => rfl
  | cons n t => rfl
theorem atI_cell {ns : List Int} {i : Int} (h : ns ≠ []) (hi : 0 ≤ i) : atI (ns.map V.int) (i % ((ns.map V.int).length : Int)) = some (.int (cellH ns i)) := by
  rw [List.length_map]
  have hp : (0 : Int) < (ns.length : Int) := by
    have := List.length_pos_iff.mpr h
    omega
  have h0 := Int.emod_nonneg i (Int.ne_of_gt hp)
  have h1 := Int.emod_lt_of_pos i hp
  obtain ⟨j, hj⟩ : ∃ j : Nat, i % (ns.length : Int) = (j : Int) := ⟨_, (Int.toNat_of_nonneg h0).symm⟩
  unfold cellH
  rw [if_neg h]
  rw [hj] at h1 ⊢
  have hl : j < ns.length := by omega
  refine atI_nat ?_
  rw [List.getElem?_map, Int.toNat_natCast, List.getElem?_eq_getElem hl]
  all_goals rfl
section
variable {P : Program} {w : World} {K : PySem.W.Frag} {mg : Str → Option Value} {base : Heap}
def spPen (K : PySem.W.Frag) : Sp := fun vs H Q _ => ∃ (a : Addr) (ns : List Int), vs = [.ref a] ∧ SqL K H a (ns.map V.int) ∧ ns.length ≤ 63 ∧ ∀ H' p c, Same H H' → H p = none → PenH H' p c (ns.take 60) 0 0 → Q (.ref p) H'
theorem scPen : FnScope ["script"] ["script"] (defScope sPen) := ⟨rfl, rfl, rfl, by decide +kernel, rfl, by decide +kernel, by decide +kernel⟩
theorem ok_pen {f : Addr} {fd : FuncData} (F : Fun K "_law_pen" "_law_pen" sPen f fd) (ml : mg "list" = none) : FnOk P w K mg base CX0 1 f fd ["script"] (spPen K) := by
  refine F.ok scPen (fun vs H Q E h => ?_) (fun cdv A outer s H vs Q E hr h => ?_)
  · obtain ⟨a, ns, rfl, _⟩ := h
    rfl
  · obtain ⟨a, ns, rfl, hS, hl, k⟩ := h
    refine ⟨_, pss_one (ps_ret (pe_lst (pa_cons (pe_callTy call_list_of (by rfl) ml (by rfl) (pa_cons (pe_slice sl_list (pv 0) po_none (po_some pe_int)) pa_nil)) (pa_cons pe_int (pa_cons pe_int pa_nil))))), ?_⟩
    refine ⟨_, rfl, 60, rfl, a, _, rfl, hS, fun p1 hp1 => ⟨p1, _, rfl, .inl (SqL.of upd_same), fun c hc => ⟨(by show 3 ≤ sizeLine; decide), fun p hp => ?_⟩⟩⟩
    have n1 : c ≠ p1 := fun z => by
      rw [z, upd_same] at hc
      cases hc
    have n2 : p ≠ c := fun z => by
      rw [z, upd_same] at hp
      cases hp
    have n3 : p ≠ p1 := fun z => by
      rw [z, upd_ne n1.symm, upd_same] at hp
      cases hp
    rw [upd_ne n2, upd_ne n3] at hp
    rw [upd_ne n1] at hc
    refine k _ p c (fun b o e => ?_) hp ⟨upd_same, ?_⟩
    · rw [upd_ne (ne_of_none e hp), upd_ne (ne_of_none e hc), upd_ne (ne_of_none e hp1)]
      exact e
    · rw [upd_ne n2.symm, upd_same, cut60, List.map_take]
      all_goals rfl
def spNext : Sp := fun vs H Q _ => ∃ (p c : Addr) (ns : List Int) (i r : Int), vs = [.ref p] ∧ PenH H p c ns i r ∧ ns.length ≤ 60 ∧ 0 ≤ i ∧ i ≤ 1000000 ∧
  ∀ H', Keep p H H' → PenH H' p c ns (i + 1) r → Q (.int (nextV ns i)) H'
theorem scNext : FnScope ["pen", "index", "cell_here", "some", "more", "high"] ["pen"] (defScope sNext) := ⟨rfl, rfl, rfl, by decide +kernel, rfl, by decide +kernel, by decide +kernel⟩
theorem ok_next {f : Addr} {fd : FuncData} (F : Fun K "_law_next" "_law_next" sNext f fd) (ml : mg "len" = none) (mi : mg "int" = none) : FnOk P w K mg base CX0 1 f fd ["pen"] spNext := by
  refine F.ok scNext (fun vs H Q E h => ?_) (fun cdv A outer s H vs Q E hr h => ?_)
  · obtain ⟨p, c, ns, i, r, rfl, _⟩ := h
    rfl
  · obtain ⟨p, c, ns, i, r, rfl, T, hns, hi0, hi1, k⟩ := h
    have nd := scNext.nd
    have hu : (A.deeper (envOfC "_law_next" (defScope sNext) s.heap.objs.size f cdv)).units + 64 < cLine := by
      have := hr.un
      omega
    refine ⟨_, pss_cons (ps_set (i := 1) nd rfl (Or.inl rfl) (pe_ix ix_list (pv 0) pe_int (fun _ _ => rfl)))
      (pss_cons (ps_asg (pe_op op_add (pv 1) pe_int) (pg_sub (pv 0) pe_int set_list))
      (pss_cons (ps_set (i := 2) nd rfl (Or.inl rfl) (pe_op op_add (pe_op op_mul (pv 1) pe_int) pe_int))
      (pss_cut (ps_if (pt_cmpR (op_neD hu) (pe_ix ix_list (pv 0) pe_int (fun _ _ => rfl)) (pe_lst pa_nil) (nomark _))
        (pss_one (ps_set (i := 2) nd rfl (Or.inl rfl) (pe_ix ix_list (pe_ix ix_list (pv 0) pe_int (fun _ _ => rfl)) (pe_op op_mod (pe_callTy call_int1 (by rfl) mi (by rfl) (pa_cons (pv 1) pa_nil)) (pe_callB call_len_seq (by rfl) ml PySem.boot_len (pa_cons (pe_ix ix_list (pv 0) pe_int (fun _ _ => rfl)) pa_nil))) (fun _ _ => rfl)))) pss_nil)
      (pss_cut (ps_if (PW.pt (pw_and (pt_cmpR op_lt (pv 1) (pe_callB call_len_seq (by rfl) ml PySem.boot_len (pa_cons (pe_ix ix_list (pv 0) pe_int (fun _ _ => rfl)) pa_nil)) (nomark _)) (pw_and1 (pt_cmpR op_ge (pv 2) (pe_op op_pow pe_int pe_int) (nomark _)))))
        (pss_one (ps_ret (pv 2))) pss_nil)
      (pss_cons (ps_set (i := 3) nd rfl (Or.inl rfl) (pe_op op_mod (pe_callTy call_int1 (by rfl) mi (by rfl) (pa_cons (pe_op op_add (pe_op op_add (pe_op op_mod (pe_callTy call_int1 (by rfl) mi (by rfl) (pa_cons (pv 2) pa_nil)) pe_int) (pe_op op_mul (pv 1) pe_int)) pe_int) pa_nil)) pe_int))
      (pss_cons (ps_set (i := 4) nd rfl (Or.inl rfl) (pe_op op_mod (pe_callTy call_int1 (by rfl) mi (by rfl) (pa_cons (pe_op op_add (pe_op op_add (pe_op op_mul (pv 3) (pv 3)) (pe_op op_mul (pv 1) pe_int)) pe_int) pa_nil)) pe_int))
      (pss_cons (ps_set (i := 5) nd rfl (Or.inl rfl) (pe_op op_mod (pe_callTy call_int1 (by rfl) mi (by rfl) (pa_cons (pe_op op_add (pe_op op_add (pe_op op_mul (pv 4) (pv 4)) (pv 3)) (pe_op op_mul (pe_op op_mul (pv 1) (pv 1)) pe_int)) pa_nil)) pe_int))
      (pss_one (ps_ret (pe_op op_add (pe_op op_mul (pe_op op_add (pe_op op_mul (pv 5) pe_int) (pv 4)) pe_int) (pv 3))))))))))), ?_⟩
    have b0 : -(2 ^ 64) < i ∧ i < 2 ^ 64 := ⟨by omega, by omega⟩
    refine ⟨_, rfl, p, _, _, _, rfl, rfl, SqL.of T.pen, rfl, ?_⟩
    refine ⟨_, rfl, _, _, rfl, rfl, _, rfl, p, _, 1, 1, rfl, rfl, T.pen, rfl, ?_⟩
    refine ⟨_, rfl, _, _, rfl, rfl, .inl b0, _, _, rfl, rfl, ?_⟩
    have T1 : PenH (upd H p (.lst [.ref c, .int (i + 1), .int r])) p c ns (i + 1) r := ⟨upd_same, by rw [upd_ne T.ne]; exact T.cells⟩
    have K1 : Keep p H (upd H p (.lst [.ref c, .int (i + 1), .int r])) := fun b o hb e => by rw [upd_ne hb]; exact e
    refine ⟨fun σ' H' => σ' = [some (.ref p), some (.int i), some (.int (cellH ns i)), none, none, none] ∧ Keep p H H' ∧ PenH H' p c ns (i + 1) r, ?_, ?_⟩
    · refine ⟨_, rfl, p, _, _, _, rfl, rfl, SqL.of T1.pen, rfl, (by show 0 ≤ sizeLine; decide), fun l hl => ?_⟩
      have T2 : ∀ o, PenH (upd (upd H p (.lst [.ref c, .int (i + 1), .int r])) l o) p c ns (i + 1) r := fun o => ⟨by rw [upd_ne (ne_of_none T1.pen hl)]; exact T1.pen, by rw [upd_ne (ne_of_none T1.cells hl)]; exact T1.cells⟩
      have K2 : ∀ o, Keep p H (upd (upd H p (.lst [.ref c, .int (i + 1), .int r])) l o) := fun o b q hb e => by rw [upd_ne (ne_of_none (K1 b q hb e) hl)]; exact K1 b q hb e
      refine ⟨_, _, dp_ints (T2 _).cells, .lst (xs := []) (ds := []) (SqL.of upd_same) .nil, shaped_ints ns, shaped_ints [], _, rfl, ?_⟩
      rw [eqv_ints_nil]
      refine ite2 (fun hne => ?_) (fun hne => ?_)
      · have hne' : ns ≠ [] := of_decide_eq_true hne
        have hl0 : (0 : Int) < ((ns.map V.int).length : Int) := by
          have := List.length_pos_iff.mpr hne'
          rw [List.length_map]
          omega
        exact ⟨_, rfl, p, _, _, _, rfl, rfl, SqL.of (T2 _).pen, rfl, _, rfl, .inl ⟨_, rfl, _, rfl, p, _, _, _, rfl, rfl, SqL.of (T2 _).pen, rfl, c, _, rfl, .inl (SqL.of (T2 _).cells), _, _, rfl, rfl, hl0, c, _, _, _, rfl, rfl, SqL.of (T2 _).cells, atI_cell hne' hi0, rfl, K2 _, T2 _⟩⟩
      · have hn : ns = [] := by
          by_cases z : ns = []
          · exact z
          · exact absurd (decide_eq_true z) hne
        refine ⟨?_, K2 _, T2 _⟩
        unfold cellH
        rw [if_pos hn]
        rfl
    · rintro σ' H2 ⟨rfl, K2, T2⟩
      refine ⟨fun σ' H' => σ' = [some (.ref p), some (.int i), some (.int (cellH ns i)), none, none, none] ∧ H' = H2 ∧ ¬ (i < ns.length ∧ 1000000000000000000 ≤ cellH ns i), ?_, ?_⟩
      · refine ⟨_, rfl, _, rfl, p, _, _, _, rfl, rfl, SqL.of T2.pen, rfl, c, _, rfl, .inl (SqL.of T2.cells), _, _, rfl, rfl, _, rfl, ?_⟩
        refine ite2 (fun h1 => ?_) (fun h1 => ?_)
        · have h1' := of_decide_eq_true h1
          rw [List.length_map] at h1'
          refine ⟨_, rfl, _, _, rfl, rfl, ⟨by decide, by decide, by decide⟩, _, _, rfl, rfl, _, rfl, ?_⟩
          refine ite2 (fun h2 => ?_) (fun h2 => ?_)
          · have h2' := of_decide_eq_true h2
            have e := k H2 K2 T2
            unfold nextV at e
            rw [if_pos ⟨h1', h2'⟩] at e
            exact ⟨_, rfl, e⟩
          · exact ⟨rfl, rfl, fun z => h2 (decide_eq_true z.2)⟩
        · refine ⟨rfl, rfl, fun z => h1 (decide_eq_true ?_)⟩
          rw [List.length_map]
          exact z.1
      · rintro σ' H3 ⟨rfl, rfl, hno⟩
        have e := k H3 K2 T2
        unfold nextV at e
        rw [if_neg hno] at e
        have pS : (0 : Int) < 2147483587 := by decide
        have pM : (0 : Int) < 2147483563 := by decide
        have pH : (0 : Int) < 2147483549 := by decide
        have bS : -(2 ^ 64) < mixS (cellH ns i) i ∧ mixS (cellH ns i) i < 2 ^ 64 := by
          have h0 := Int.emod_nonneg (cellH ns i % 2147483587 + i * 30103 + 79) (Int.ne_of_gt pS)
          have h1 := Int.emod_lt_of_pos (cellH ns i % 2147483587 + i * 30103 + 79) pS
          unfold mixS
          exact ⟨by omega, by omega⟩
        have bM : -(2 ^ 64) < mixM (cellH ns i) i ∧ mixM (cellH ns i) i < 2 ^ 64 := by
          have h0 := Int.emod_nonneg (mixS (cellH ns i) i * mixS (cellH ns i) i + i * 70039 + 61) (Int.ne_of_gt pM)
          have h1 := Int.emod_lt_of_pos (mixS (cellH ns i) i * mixS (cellH ns i) i + i * 70039 + 61) pM
          unfold mixM
          exact ⟨by omega, by omega⟩
        have bH : -(2 ^ 64) < mixH (cellH ns i) i ∧ mixH (cellH ns i) i < 2 ^ 64 := by
          have h0 := Int.emod_nonneg (mixM (cellH ns i) i * mixM (cellH ns i) i + mixS (cellH ns i) i + i * i * 37) (Int.ne_of_gt pH)
          have h1 := Int.emod_lt_of_pos (mixM (cellH ns i) i * mixM (cellH ns i) i + mixS (cellH ns i) i + i * i * 37) pH
          unfold mixH
          exact ⟨by omega, by omega⟩
        refine ⟨_, rfl, .inl ⟨_, rfl, _, _, rfl, rfl, pS, _, rfl, _, _, rfl, rfl, .inl b0, _, _, rfl, rfl, _, _, rfl, rfl, .inl ⟨_, rfl, _, _, rfl, rfl, pS, ?_⟩⟩⟩
        refine ⟨_, rfl, _, rfl, _, _, rfl, rfl, .inl bS, _, rfl, _, _, rfl, rfl, .inl b0, _, _, rfl, rfl, _, _, rfl, rfl, .inl ⟨_, rfl, _, _, rfl, rfl, pM, ?_⟩⟩
        refine ⟨_, rfl, _, rfl, _, _, rfl, rfl, .inl bM, _, rfl, _, _, rfl, rfl, _, rfl, _, rfl, _, _, rfl, rfl, .inl b0, _, _, rfl, rfl, .inr ⟨by decide, by decide⟩, _, _, rfl, rfl, .inl ⟨_, rfl, _, _, rfl, rfl, pH, ?_⟩⟩
        exact ⟨_, rfl, _, _, rfl, rfl, .inl bH, _, rfl, _, _, rfl, rfl, _, _, rfl, rfl, .inr ⟨by decide, by decide⟩, _, rfl, _, _, rfl, rfl, e⟩
def spDraw : Sp := fun vs H Q _ => ∃ (p c : Addr) (ns : List Int) (i r u : Int), vs = [.ref p, .int u] ∧ PenH H p c ns i r ∧ ns.length ≤ 60 ∧ 0 ≤ i ∧ i ≤ 1000000 ∧ 0 < u ∧ u < 1073741824 ∧
  ∀ H', Keep p H H' → PenH H' p c ns (drawI i r u) (drawR ns i r u / u) → Q (.int (drawR ns i r u % u)) H'
theorem scDraw : FnScope ["pen", "under", "digit"] ["pen", "under"] (defScope sDraw) := ⟨rfl, rfl, rfl, by decide +kernel, rfl, by decide +kernel, by decide +kernel⟩
theorem ok_draw {f fN : Addr} {fd fdN : FuncData} (F : Fun K "_law_draw" "_law_draw" sDraw f fd) (mi : mg "int" = none) (FN : FnOk P w K mg base CX0 1 fN fdN ["pen"] spNext) (bN : Binds K fdN ["pen"] []) (kN : PySem.W.keepIn K (.ref fN) = true) (mN : mg "_law_next" = some (.ref fN)) :
    FnOk P w K mg base CX0 2 f fd ["pen", "under"] spDraw := by
  refine F.ok scDraw (fun vs H Q E h => ?_) (fun cdv A outer s H vs Q E hr h => ?_)
  · obtain ⟨p, c, ns, i, r, u, rfl, _⟩ := h
    rfl
  · obtain ⟨p, c, ns, i, r, u, rfl, T, hns, hi0, hi1, hu0, hu1, k⟩ := h
    have nd := scDraw.nd
    refine ⟨_, pss_cut (ps_if (pt_cmpR op_lt (pe_ix ix_list (pv 0) pe_int (fun _ _ => rfl)) (pv 1) (nomark _))
        (pss_one (ps_asg (pe_call FN hr rfl mN kN bN .nil pass0 (pa_cons (pv 0) pa_nil)) (pg_sub (pv 0) pe_int set_list))) pss_nil)
      (pss_cons (ps_set (i := 2) nd rfl (Or.inl rfl) (pe_op op_mod (pe_callTy call_int1 (by rfl) mi (by rfl) (pa_cons (pe_ix ix_list (pv 0) pe_int (fun _ _ => rfl)) pa_nil)) (pv 1)))
      (pss_cons (ps_asg (pe_op op_fdiv (pe_ix ix_list (pv 0) pe_int (fun _ _ => rfl)) (pv 1)) (pg_sub (pv 0) pe_int set_list))
      (pss_one (ps_ret (pv 2))))), ?_⟩
    refine ⟨fun σ' H' => σ' = [some (.ref p), some (.int u), none] ∧ Keep p H H' ∧ PenH H' p c ns (drawI i r u) (drawR ns i r u), ?_, ?_⟩
    · refine ⟨_, rfl, p, _, _, _, rfl, rfl, SqL.of T.pen, rfl, _, rfl, _, _, rfl, rfl, _, rfl, ?_⟩
      refine ite2 (fun h1 => ?_) (fun h1 => ?_)
      · have h1' := of_decide_eq_true h1
        refine ⟨_, rfl, p, c, ns, i, r, rfl, T, hns, hi0, hi1, fun H1 K1 T1 => ?_⟩
        refine ⟨_, rfl, p, _, 2, 2, rfl, rfl, T1.pen, rfl, rfl, fun b o hb e => ?_, ?_, ?_⟩
        · rw [upd_ne hb]
          exact K1 b o hb e
        · unfold drawI drawR
          rw [if_pos h1', if_pos h1']
          exact upd_same
        · rw [upd_ne T1.ne]
          exact T1.cells
      · have h1' : ¬ r < u := fun z => h1 (decide_eq_true z)
        refine ⟨rfl, fun b o _ e => e, ?_⟩
        unfold drawI drawR
        rw [if_neg h1', if_neg h1']
        exact T
    · rintro σ' H2 ⟨rfl, K2, T2⟩
      refine ⟨_, rfl, p, _, _, _, rfl, rfl, SqL.of T2.pen, rfl, .inl ⟨_, rfl, _, rfl, _, _, rfl, rfl, hu0, ?_⟩⟩
      refine ⟨_, rfl, p, _, _, _, rfl, rfl, SqL.of T2.pen, rfl, _, rfl, _, _, rfl, rfl, ⟨hu0, hu1⟩, _, rfl, p, _, 2, 2, rfl, rfl, T2.pen, rfl, ?_⟩
      refine ⟨_, rfl, k _ (fun b o hb e => ?_) ⟨upd_same, ?_⟩⟩
      · rw [upd_ne hb]
        exact K2 b o hb e
      · rw [upd_ne T2.ne]
        exact T2.cells
end
end K45
set_option maxRecDepth 100000
set_option maxHeartbeats 4000000
namespace K45
open PySem PySem.Spec PyProof.Rows L2
abbrev sCls : Stmt := top 27
abbrev sMade : Stmt := top 28
abbrev veT : List Value := [.type "ValueError", .type "Exception", .type "BaseException", .type "object"]
/-- what the written part says of the classes -/
structure ErrT (K : PySem.W.Frag) (told pe : Addr) (cs : List Addr) : Prop where
  exc : ∀ C ∈ told :: cs, ExcC K C
  kit : ∀ C ∈ told :: cs, ∀ D ∈ cs, PySem.W.kitOne K (.ref C) (.ref D) = some (decide (C = D))
  kitT : ∀ C ∈ told :: cs, PySem.W.kitOne K (.ref C) (.ref told) = some true
  kitV : ∀ C ∈ told :: cs, PySem.W.kitOne K (.ref C) (.type "ValueError") = some true
  ini : ∀ C ∈ told :: cs, C ≠ pe → PySem.W.excIn K C veT "ValueError.__new__" = true ∧ PySem.W.keepIn K (.ref C) = true
theorem EAt_same {H H' : Hp} {a C : Addr} (h : EAt H a C) (s : Same H H') : EAt H' a C := by
  rcases h with e | ⟨d, fs, e, ed⟩
  · exact .inl (s _ _ e)
  · exact .inr ⟨d, fs, s _ _ e, s _ _ ed⟩
theorem _root_.L2.EAt.same {H H' : Hp} {a C : Addr} (h : EAt H a C) (s : Same H H') : EAt H' a C := EAt_same h s
theorem _root_.L2.Same.up {H : Hp} {p : Addr} {o : HO} (h : H p = none) : L2.Same H (upd H p o) := fun b u e => by
  rw [upd_ne (ne_of_none e h)]
  exact e
/-- an exception of the class C at a; pe's has its line -/
def EX (pe : Addr) (n : Int) (H : Hp) (a C : Addr) : Prop := EAt H a C ∧ (C = pe → ∃ d, H a = some (exo a C (some d)) ∧ H d = some (exd d [("line", .int n)]))
theorem _root_.PySem.Paired.same {pe : Addr} {n : Int} {H H' : Hp} : ∀ {as cs : List Addr}, Paired (EX pe n H) as cs → L2.Same H H' → Paired (EX pe n H') as cs
  | _, _, .nil, _ => .nil
  | _, _, .cons h t, s => .cons ⟨h.1.same s, fun e => let ⟨d, h1, h2⟩ := h.2 e; ⟨d, s _ _ h1, s _ _ h2⟩⟩ (t.same s)
theorem _root_.PySem.Paired.app {α β : Type} {F : α → β → Prop} : ∀ {as : List α} {cs : List β} {as' : List α} {cs' : List β}, Paired F as cs → Paired F as' cs' → Paired F (as ++ as') (cs ++ cs')
  | _, _, _, _, .nil, k => k
  | _, _, _, _, .cons h t, k => .cons h (t.app k)
theorem lenOf {F : Addr → Addr → Prop} {as cs : List Addr} (P : Paired F as cs) (h : cs.length ≤ 1000) : (as.map V.ref).length ≤ sizeLine := by
  rw [List.length_map, Paired.length P]
  exact Nat.le_trans h (by decide)
theorem lenOf2 {F G : Addr → Addr → Prop} {as cs as' cs' : List Addr} (P : Paired F as cs) (P' : Paired G as' cs') (h : cs.length + cs'.length ≤ 1000) : (as.map V.ref).length + (as'.map V.ref).length ≤ sizeLine := by
  rw [List.length_map, List.length_map, Paired.length P, Paired.length P']
  exact Nat.le_trans h (by decide)
section
variable {X : Cx} {told pe : Addr} {cs : List Addr}
/-- isinstance(caught, D), ..: caught in slot 0 -/
def tIs (told : Addr) (cs Ds : List Addr) : TA := fun σ H Q => ∃ (a C : Addr), σ[0]? = some (some (.ref a)) ∧ EAt H a C ∧ C ∈ told :: cs ∧ Q (Ds.map fun D => .bl (decide (C = D))) H
theorem pa_is_nil : PA X [] (tIs told cs []) := ⟨fun pos pins s σ H Q I h => (pa_nil (X := X)).run pos pins s σ H Q I h.choose_spec.choose_spec.2.2.2⟩
theorem pa_is_cons {p1 p2 p3 p4 : Pos} {x : Str} {D : Addr} {es : List Expr} {Ds : List Addr} (hi : Gl X "isinstance") (mi : X.mg "isinstance" = none) (hN : X.N[0]? = some ("caught" : Str)) (hv : Vis X.env.scope "caught") (hg : Gl X x) (g : X.mg x = some (.ref D)) (T : ErrT X.K told pe cs) (hD : D ∈ cs)
    (r : PA X es (tIs told cs Ds)) (hdb : (x == ("__debug__" : Str)) = false := by decide) (hs : starEach (.Call (.Name "isinstance" p1) [.Name "caught" p2, .Name x p3] [] p4 :: es) X.env = (false, eval (.Call (.Name "isinstance" p1) [.Name "caught" p2, .Name x p3] [] p4) X.env) :: starEach es X.env := by rfl) : PA X (.Call (.Name "isinstance" p1) [.Name "caught" p2, .Name x p3] [] p4 :: es) (tIs told cs (D :: Ds)) := by
  refine ⟨fun pos pins s σ H Q I ⟨a, C, h0, ea, hC, q⟩ => ?_⟩
  exact (pa_cons (pe_callB call_isO hi mi (by rfl) (pa_cons (pv 0 hN hv) (pa_cons (pe_glob (v := V.ref D) hg g rfl hdb) pa_nil))) r hs).run pos pins s σ H Q I ⟨_, h0, a, C, _, _, _, rfl, ea, T.exc C hC, .own D, T.kit C hC D hD, a, C, h0, ea, hC, q⟩
/-- C(word), ..: word in slot 0, line in slot 1 -/
def tMk (pe : Addr) (Cs : List Addr) : TA := fun σ H Q => ∃ (w : Str) (n : Int), σ[0]? = some (some (.str w)) ∧ σ[1]? = some (some (.int n)) ∧ n.natAbs.log2 < 1920 ∧ ∀ as H', L2.Same H H' → Paired (EX pe n H') as Cs → Q (as.map V.ref) H'
theorem pa_mk_nil : PA X [] (tMk pe []) := ⟨fun pos pins s σ H Q I ⟨w, n, h0, h1, hn, k⟩ => (pa_nil (X := X)).run pos pins s σ H Q I (k [] H (fun _ _ e => e) .nil)⟩
theorem pa_mk_cons {p1 p2 p4 : Pos} {x : Str} {C : Addr} {es : List Expr} {Cs : List Addr} (hN : X.N[0]? = some ("word" : Str)) (hg : Gl X x) (hv : Vis X.env.scope "word") (g : X.mg x = some (.ref C)) (T : ErrT X.K told pe cs) (hC : C ∈ cs) (hne : C ≠ pe)
    (r : PA X es (tMk pe Cs)) (hdb : (x == ("__debug__" : Str)) = false := by decide) (hs1 : starEach [.Name "word" p2] X.env = (false, eval (.Name "word" p2) X.env) :: starEach [] X.env := by rfl) (hs : starEach (.Call (.Name x p1) [.Name "word" p2] [] p4 :: es) X.env = (false, eval (.Call (.Name x p1) [.Name "word" p2] [] p4) X.env) :: starEach es X.env := by rfl) : PA X (.Call (.Name x p1) [.Name "word" p2] [] p4 :: es) (tMk pe (C :: Cs)) := by
  refine ⟨fun pos pins s σ H Q I ⟨w, n, h0, h1, hn, k⟩ => ?_⟩
  refine (pa_cons (pe_exc1 PySem.F.excBase_ValueError (T.ini C (List.mem_cons_of_mem _ hC) hne).1 g (T.ini C (List.mem_cons_of_mem _ hC) hne).2 hg (pv 0 hN hv) hs1 hdb) r hs).run pos pins s σ H Q I ⟨_, h0, fun a ha => ⟨w, n, h0, h1, hn, fun as H' s P => ?_⟩⟩
  have e1 : L2.Same H (upd H a (ExO (.ref C) a)) := L2.Same.up ha
  exact k (a :: as) H' (e1.trans s) (.cons ⟨EAt_same (.inl upd_same) s, fun e => absurd e hne⟩ P)
theorem pa_mk_pe {p1 p2 p4 : Pos} {x : Str} {es : List Expr} {Cs : List Addr} {fI : Addr} {fd : FuncData} (hN : X.N[1]? = some ("line" : Str)) (hg : Gl X x) (hv : Vis X.env.scope "line") (g : X.mg x = some (.ref pe)) (T : OexC X.K pe) (iC : PySem.W.findIn X.K (.ref pe) "__init__" = some (some (.ref fI))) (tI : PySem.W.typeIn X.K (.ref fI) = some (.type "function"))
    (F1 : FnOk X.prog X.w X.K X.mg X.base CX0 1 fI fd ["self", "line"] (spPI X.K pe)) (hr : Room 2 X.A) (hb : Binds X.K fd ["self", "line"] [])
    (r : PA X es (tMk pe Cs)) (hdb : (x == ("__debug__" : Str)) = false := by decide) (hs1 : starEach [.Name "line" p2] X.env = (false, eval (.Name "line" p2) X.env) :: starEach [] X.env := by rfl) (hpl : (backTo p4 (starEach [] X.env)).any (·.1) = false := by rfl) (hs : starEach (.Call (.Name x p1) [.Name "line" p2] [] p4 :: es) X.env = (false, eval (.Call (.Name x p1) [.Name "line" p2] [] p4) X.env) :: starEach es X.env := by rfl) : PA X (.Call (.Name x p1) [.Name "line" p2] [] p4 :: es) (tMk pe (pe :: Cs)) := by
  refine ⟨fun pos pins s σ H Q I ⟨w, n, h0, h1, hn, k⟩ => ?_⟩
  refine (pa_cons (pe_mkv T iC tI F1 hr hb hg g (pa_cons (pv 1 hN hv) pa_nil hs1) hdb hs1 hpl) r hs).run pos pins s σ H Q I ⟨_, h1, (by show 1 ≤ 1000; decide), fun a ha => ⟨a, n, rfl, hn, upd_same, fun d hd hne => ⟨rfl, w, n, h0, h1, hn, fun as H' s P => ?_⟩⟩⟩
  have hd' : H d = none := by
    rw [upd_ne hne] at hd
    exact hd
  have e1 : L2.Same H (upd (upd (upd H a (exo a pe none)) d (exd d [("line", .int n)])) a (exo a pe (some d))) := fun b o e => by
    rw [upd_ne (ne_of_none e ha), upd_ne (ne_of_none e hd'), upd_ne (ne_of_none e ha)]
    exact e
  have ea : upd (upd (upd H a (exo a pe none)) d (exd d [("line", .int n)])) a (exo a pe (some d)) a = some (exo a pe (some d)) := upd_same
  have ed : upd (upd (upd H a (exo a pe none)) d (exd d [("line", .int n)])) a (exo a pe (some d)) d = some (exd d [("line", .int n)]) := by
    rw [upd_ne hne]
    exact upd_same
  exact k (a :: as) H' (e1.trans s) (.cons ⟨.inr ⟨d, _, s _ _ ea, s _ _ ed⟩, fun _ => ⟨d, s _ _ ea, s _ _ ed⟩⟩ P)
end
section
variable {P : Program} {w : World} {K : PySem.W.Frag} {mg : Str → Option Value} {base : Heap}
def spCls (told : Addr) (cs : List Addr) : Sp := fun vs H Q _ => ∃ (a C : Addr), vs = [.ref a] ∧ EAt H a C ∧ C ∈ told :: cs ∧ ∀ H' p, L2.Same H H' → H' p = some (.lst (cs.map fun D => .bl (decide (C = D)))) → Q (.ref p) H'
theorem scCls : FnScope ["caught", "found"] ["caught"] (defScope sCls) := ⟨rfl, rfl, rfl, by decide +kernel, rfl, by decide +kernel, by decide +kernel⟩
theorem ok_cls {f told pe c0 c1 c2 c3 c4 c5 c6 c7 c8 c9 c10 c11 c12 c13 c14 c15 c16 c17 c18 c19 c20 : Addr} {fd : FuncData} (F : Fun K "_law_classes" "_law_classes" sCls f fd) (mi : mg "isinstance" = none) (g0 : mg "DuplicateName" = some (.ref c0)) (g1 : mg "InvalidBook" = some (.ref c1)) (g2 : mg "InvalidCondition" = some (.ref c2)) (g3 : mg "InvalidKept" = some (.ref c3)) (g4 : mg "InvalidKind" = some (.ref c4)) (g5 : mg "InvalidLacking" = some (.ref c5)) (g6 : mg "InvalidLine" = some (.ref c6)) (g7 : mg "InvalidMeeting" = some (.ref c7)) (g8 : mg "InvalidName" = some (.ref c8)) (g9 : mg "InvalidNumber" = some (.ref c9)) (g10 : mg "InvalidPair" = some (.ref c10)) (g11 : mg "InvalidRows" = some (.ref c11)) (g12 : mg "InvalidSchema" = some (.ref c12)) (g13 : mg "NotTold" = some (.ref c13)) (g14 : mg "NothingToUndo" = some (.ref c14)) (g15 : mg "ParseError" = some (.ref c15)) (g16 : mg "UnknownColumn" = some (.ref c16)) (g17 : mg "UnknownFlag" = some (.ref c17)) (g18 : mg "UnknownRow" = some (.ref c18)) (g19 : mg "UnknownStore" = some (.ref c19)) (g20 : mg "UnknownTable" = some (.ref c20)) (T : ErrT K told pe [c0, c1, c2, c3, c4, c5, c6, c7, c8, c9, c10, c11, c12, c13, c14, c15, c16, c17, c18, c19, c20]) :
    FnOk P w K mg base CX0 1 f fd ["caught"] (spCls told [c0, c1, c2, c3, c4, c5, c6, c7, c8, c9, c10, c11, c12, c13, c14, c15, c16, c17, c18, c19, c20]) := by
  refine F.ok scCls (fun vs H Q E h => ?_) (fun cdv A outer s H vs Q E hr h => ?_)
  · obtain ⟨a, C, rfl, _⟩ := h
    rfl
  · obtain ⟨a, C, rfl, ea, hC, k⟩ := h
    have nd := scCls.nd
    refine ⟨_, pss_cut (ps_set (i := 1) nd rfl (Or.inl rfl) (pe_lst (pa_is_cons (by rfl) mi (by rfl) (Or.inl rfl) (by rfl) g0 T (by simp) (pa_is_cons (by rfl) mi (by rfl) (Or.inl rfl) (by rfl) g1 T (by simp) (pa_is_cons (by rfl) mi (by rfl) (Or.inl rfl) (by rfl) g2 T (by simp) pa_is_nil)))))
      (pss_cut (ps_set (i := 1) nd rfl (Or.inl rfl) (pe_op op_cat (pv 1) (pe_lst (pa_is_cons (by rfl) mi (by rfl) (Or.inl rfl) (by rfl) g3 T (by simp) (pa_is_cons (by rfl) mi (by rfl) (Or.inl rfl) (by rfl) g4 T (by simp) pa_is_nil)))))
      (pss_cut (ps_set (i := 1) nd rfl (Or.inl rfl) (pe_op op_cat (pv 1) (pe_lst (pa_is_cons (by rfl) mi (by rfl) (Or.inl rfl) (by rfl) g5 T (by simp) (pa_is_cons (by rfl) mi (by rfl) (Or.inl rfl) (by rfl) g6 T (by simp) pa_is_nil)))))
      (pss_cut (ps_set (i := 1) nd rfl (Or.inl rfl) (pe_op op_cat (pv 1) (pe_lst (pa_is_cons (by rfl) mi (by rfl) (Or.inl rfl) (by rfl) g7 T (by simp) (pa_is_cons (by rfl) mi (by rfl) (Or.inl rfl) (by rfl) g8 T (by simp) pa_is_nil)))))
      (pss_cut (ps_set (i := 1) nd rfl (Or.inl rfl) (pe_op op_cat (pv 1) (pe_lst (pa_is_cons (by rfl) mi (by rfl) (Or.inl rfl) (by rfl) g9 T (by simp) (pa_is_cons (by rfl) mi (by rfl) (Or.inl rfl) (by rfl) g10 T (by simp) pa_is_nil)))))
      (pss_cut (ps_set (i := 1) nd rfl (Or.inl rfl) (pe_op op_cat (pv 1) (pe_lst (pa_is_cons (by rfl) mi (by rfl) (Or.inl rfl) (by rfl) g11 T (by simp) (pa_is_cons (by rfl) mi (by rfl) (Or.inl rfl) (by rfl) g12 T (by simp) pa_is_nil)))))
      (pss_cut (ps_set (i := 1) nd rfl (Or.inl rfl) (pe_op op_cat (pv 1) (pe_lst (pa_is_cons (by rfl) mi (by rfl) (Or.inl rfl) (by rfl) g13 T (by simp) (pa_is_cons (by rfl) mi (by rfl) (Or.inl rfl) (by rfl) g14 T (by simp) (pa_is_cons (by rfl) mi (by rfl) (Or.inl rfl) (by rfl) g15 T (by simp) pa_is_nil))))))
      (pss_cut (ps_set (i := 1) nd rfl (Or.inl rfl) (pe_op op_cat (pv 1) (pe_lst (pa_is_cons (by rfl) mi (by rfl) (Or.inl rfl) (by rfl) g16 T (by simp) (pa_is_cons (by rfl) mi (by rfl) (Or.inl rfl) (by rfl) g17 T (by simp) pa_is_nil)))))
      (pss_one (ps_ret (pe_op op_cat (pv 1) (pe_lst (pa_is_cons (by rfl) mi (by rfl) (Or.inl rfl) (by rfl) g18 T (by simp) (pa_is_cons (by rfl) mi (by rfl) (Or.inl rfl) (by rfl) g19 T (by simp) (pa_is_cons (by rfl) mi (by rfl) (Or.inl rfl) (by rfl) g20 T (by simp) pa_is_nil)))))))))))))), ?_⟩
    refine ⟨fun σ' H' => ∃ l, σ' = [some (.ref a), some (.ref l)] ∧ Same H H' ∧ H' l = some (.lst ([c0, c1, c2].map (fun D => V.bl (decide (C = D))))), ?_, ?_⟩
    · exact ⟨a, C, rfl, ea, hC, (by show 3 ≤ sizeLine; decide), fun l nl => ⟨l, rfl, Same.up nl, upd_same⟩⟩
    rintro σ' H1 ⟨l1, rfl, s1, h1⟩
    refine ⟨fun σ' H' => ∃ l, σ' = [some (.ref a), some (.ref l)] ∧ Same H H' ∧ H' l = some (.lst (([c0, c1, c2].map (fun D => V.bl (decide (C = D)))) ++ [c3, c4].map (fun D => V.bl (decide (C = D))))), ?_, ?_⟩
    · exact ⟨_, rfl, a, C, rfl, ea.same s1, hC, (show 2 ≤ sizeLine by decide), fun l nl => ⟨l1, l, _, _, rfl, rfl, Same.up nl _ _ h1, upd_same, (show 3 + 2 ≤ sizeLine by decide), fun p np => ⟨p, rfl, (s1.trans (Same.up nl)).trans (Same.up np), upd_same⟩⟩⟩
    rintro σ' H2 ⟨l2, rfl, s2, h2⟩
    refine ⟨fun σ' H' => ∃ l, σ' = [some (.ref a), some (.ref l)] ∧ Same H H' ∧ H' l = some (.lst ((([c0, c1, c2].map (fun D => V.bl (decide (C = D)))) ++ [c3, c4].map (fun D => V.bl (decide (C = D)))) ++ [c5, c6].map (fun D => V.bl (decide (C = D))))), ?_, ?_⟩
    · exact ⟨_, rfl, a, C, rfl, ea.same s2, hC, (show 2 ≤ sizeLine by decide), fun l nl => ⟨l2, l, _, _, rfl, rfl, Same.up nl _ _ h2, upd_same, (show 5 + 2 ≤ sizeLine by decide), fun p np => ⟨p, rfl, (s2.trans (Same.up nl)).trans (Same.up np), upd_same⟩⟩⟩
    rintro σ' H3 ⟨l3, rfl, s3, h3⟩
    refine ⟨fun σ' H' => ∃ l, σ' = [some (.ref a), some (.ref l)] ∧ Same H H' ∧ H' l = some (.lst (((([c0, c1, c2].map (fun D => V.bl (decide (C = D)))) ++ [c3, c4].map (fun D => V.bl (decide (C = D)))) ++ [c5, c6].map (fun D => V.bl (decide (C = D)))) ++ [c7, c8].map (fun D => V.bl (decide (C = D))))), ?_, ?_⟩
    · exact ⟨_, rfl, a, C, rfl, ea.same s3, hC, (show 2 ≤ sizeLine by decide), fun l nl => ⟨l3, l, _, _, rfl, rfl, Same.up nl _ _ h3, upd_same, (show 7 + 2 ≤ sizeLine by decide), fun p np => ⟨p, rfl, (s3.trans (Same.up nl)).trans (Same.up np), upd_same⟩⟩⟩
    rintro σ' H4 ⟨l4, rfl, s4, h4⟩
    refine ⟨fun σ' H' => ∃ l, σ' = [some (.ref a), some (.ref l)] ∧ Same H H' ∧ H' l = some (.lst ((((([c0, c1, c2].map (fun D => V.bl (decide (C = D)))) ++ [c3, c4].map (fun D => V.bl (decide (C = D)))) ++ [c5, c6].map (fun D => V.bl (decide (C = D)))) ++ [c7, c8].map (fun D => V.bl (decide (C = D)))) ++ [c9, c10].map (fun D => V.bl (decide (C = D))))), ?_, ?_⟩
    · exact ⟨_, rfl, a, C, rfl, ea.same s4, hC, (show 2 ≤ sizeLine by decide), fun l nl => ⟨l4, l, _, _, rfl, rfl, Same.up nl _ _ h4, upd_same, (show 9 + 2 ≤ sizeLine by decide), fun p np => ⟨p, rfl, (s4.trans (Same.up nl)).trans (Same.up np), upd_same⟩⟩⟩
    rintro σ' H5 ⟨l5, rfl, s5, h5⟩
    refine ⟨fun σ' H' => ∃ l, σ' = [some (.ref a), some (.ref l)] ∧ Same H H' ∧ H' l = some (.lst (((((([c0, c1, c2].map (fun D => V.bl (decide (C = D)))) ++ [c3, c4].map (fun D => V.bl (decide (C = D)))) ++ [c5, c6].map (fun D => V.bl (decide (C = D)))) ++ [c7, c8].map (fun D => V.bl (decide (C = D)))) ++ [c9, c10].map (fun D => V.bl (decide (C = D)))) ++ [c11, c12].map (fun D => V.bl (decide (C = D))))), ?_, ?_⟩
    · exact ⟨_, rfl, a, C, rfl, ea.same s5, hC, (show 2 ≤ sizeLine by decide), fun l nl => ⟨l5, l, _, _, rfl, rfl, Same.up nl _ _ h5, upd_same, (show 11 + 2 ≤ sizeLine by decide), fun p np => ⟨p, rfl, (s5.trans (Same.up nl)).trans (Same.up np), upd_same⟩⟩⟩
    rintro σ' H6 ⟨l6, rfl, s6, h6⟩
    refine ⟨fun σ' H' => ∃ l, σ' = [some (.ref a), some (.ref l)] ∧ Same H H' ∧ H' l = some (.lst ((((((([c0, c1, c2].map (fun D => V.bl (decide (C = D)))) ++ [c3, c4].map (fun D => V.bl (decide (C = D)))) ++ [c5, c6].map (fun D => V.bl (decide (C = D)))) ++ [c7, c8].map (fun D => V.bl (decide (C = D)))) ++ [c9, c10].map (fun D => V.bl (decide (C = D)))) ++ [c11, c12].map (fun D => V.bl (decide (C = D)))) ++ [c13, c14, c15].map (fun D => V.bl (decide (C = D))))), ?_, ?_⟩
    · exact ⟨_, rfl, a, C, rfl, ea.same s6, hC, (show 3 ≤ sizeLine by decide), fun l nl => ⟨l6, l, _, _, rfl, rfl, Same.up nl _ _ h6, upd_same, (show 13 + 3 ≤ sizeLine by decide), fun p np => ⟨p, rfl, (s6.trans (Same.up nl)).trans (Same.up np), upd_same⟩⟩⟩
    rintro σ' H7 ⟨l7, rfl, s7, h7⟩
    refine ⟨fun σ' H' => ∃ l, σ' = [some (.ref a), some (.ref l)] ∧ Same H H' ∧ H' l = some (.lst (((((((([c0, c1, c2].map (fun D => V.bl (decide (C = D)))) ++ [c3, c4].map (fun D => V.bl (decide (C = D)))) ++ [c5, c6].map (fun D => V.bl (decide (C = D)))) ++ [c7, c8].map (fun D => V.bl (decide (C = D)))) ++ [c9, c10].map (fun D => V.bl (decide (C = D)))) ++ [c11, c12].map (fun D => V.bl (decide (C = D)))) ++ [c13, c14, c15].map (fun D => V.bl (decide (C = D)))) ++ [c16, c17].map (fun D => V.bl (decide (C = D))))), ?_, ?_⟩
    · exact ⟨_, rfl, a, C, rfl, ea.same s7, hC, (show 2 ≤ sizeLine by decide), fun l nl => ⟨l7, l, _, _, rfl, rfl, Same.up nl _ _ h7, upd_same, (show 16 + 2 ≤ sizeLine by decide), fun p np => ⟨p, rfl, (s7.trans (Same.up nl)).trans (Same.up np), upd_same⟩⟩⟩
    rintro σ' H8 ⟨l8, rfl, s8, h8⟩
    exact ⟨_, rfl, a, C, rfl, ea.same s8, hC, (show 3 ≤ sizeLine by decide), fun l nl => ⟨l8, l, _, _, rfl, rfl, Same.up nl _ _ h8, upd_same, (show 18 + 3 ≤ sizeLine by decide), fun p np => k _ p ((s8.trans (Same.up nl)).trans (Same.up np)) upd_same⟩⟩
def spMade (pe : Addr) (cs : List Addr) : Sp := fun vs H Q _ => ∃ (w' : Str) (n : Int), vs = [.str w', .int n] ∧ n.natAbs.log2 < 1920 ∧ ∀ H' p as, L2.Same H H' → H' p = some (.lst (as.map V.ref)) → Paired (EX pe n H') as cs → Q (.ref p) H'
theorem scMade : FnScope ["word", "line", "found"] ["word", "line"] (defScope sMade) := ⟨rfl, rfl, rfl, by decide +kernel, rfl, by decide +kernel, by decide +kernel⟩
theorem ok_made {f fP told c0 c1 c2 c3 c4 c5 c6 c7 c8 c9 c10 c11 c12 c13 c14 c15 c16 c17 c18 c19 c20 : Addr} {fd fdP : FuncData} (F : Fun K "_law_made_errors" "_law_made_errors" sMade f fd) (g0 : mg "DuplicateName" = some (.ref c0)) (g1 : mg "InvalidBook" = some (.ref c1)) (g2 : mg "InvalidCondition" = some (.ref c2)) (g3 : mg "InvalidKept" = some (.ref c3)) (g4 : mg "InvalidKind" = some (.ref c4)) (g5 : mg "InvalidLacking" = some (.ref c5)) (g6 : mg "InvalidLine" = some (.ref c6)) (g7 : mg "InvalidMeeting" = some (.ref c7)) (g8 : mg "InvalidName" = some (.ref c8)) (g9 : mg "InvalidNumber" = some (.ref c9)) (g10 : mg "InvalidPair" = some (.ref c10)) (g11 : mg "InvalidRows" = some (.ref c11)) (g12 : mg "InvalidSchema" = some (.ref c12)) (g13 : mg "NotTold" = some (.ref c13)) (g14 : mg "NothingToUndo" = some (.ref c14)) (g15 : mg "ParseError" = some (.ref c15)) (g16 : mg "UnknownColumn" = some (.ref c16)) (g17 : mg "UnknownFlag" = some (.ref c17)) (g18 : mg "UnknownRow" = some (.ref c18)) (g19 : mg "UnknownStore" = some (.ref c19)) (g20 : mg "UnknownTable" = some (.ref c20)) (T : ErrT K told c15 [c0, c1, c2, c3, c4, c5, c6, c7, c8, c9, c10, c11, c12, c13, c14, c15, c16, c17, c18, c19, c20]) (n0 : c0 ≠ c15) (n1 : c1 ≠ c15) (n2 : c2 ≠ c15) (n3 : c3 ≠ c15) (n4 : c4 ≠ c15) (n5 : c5 ≠ c15) (n6 : c6 ≠ c15) (n7 : c7 ≠ c15) (n8 : c8 ≠ c15) (n9 : c9 ≠ c15) (n10 : c10 ≠ c15) (n11 : c11 ≠ c15) (n12 : c12 ≠ c15) (n13 : c13 ≠ c15) (n14 : c14 ≠ c15) (n16 : c16 ≠ c15) (n17 : c17 ≠ c15) (n18 : c18 ≠ c15) (n19 : c19 ≠ c15) (n20 : c20 ≠ c15)
    (TP : OexC K c15) (iP : PySem.W.findIn K (.ref c15) "__init__" = some (some (.ref fP))) (tP : PySem.W.typeIn K (.ref fP) = some (.type "function")) (FP : FnOk P w K mg base CX0 1 fP fdP ["self", "line"] (spPI K c15)) (bP : Binds K fdP ["self", "line"] []) :
    FnOk P w K mg base CX0 3 f fd ["word", "line"] (spMade c15 [c0, c1, c2, c3, c4, c5, c6, c7, c8, c9, c10, c11, c12, c13, c14, c15, c16, c17, c18, c19, c20]) := by
  refine F.ok scMade (fun vs H Q E h => ?_) (fun cdv A outer s H vs Q E hr h => ?_)
  · obtain ⟨w', n, rfl, _⟩ := h
    rfl
  · obtain ⟨w', n, rfl, hn, k⟩ := h
    have nd := scMade.nd
    refine ⟨_, pss_cut (ps_set (i := 2) nd rfl (Or.inl rfl) (pe_lst (pa_mk_cons (by rfl) (by rfl) (Or.inl rfl) g0 T (by simp) n0 (pa_mk_cons (by rfl) (by rfl) (Or.inl rfl) g1 T (by simp) n1 (pa_mk_cons (by rfl) (by rfl) (Or.inl rfl) g2 T (by simp) n2 (pa_mk_cons (by rfl) (by rfl) (Or.inl rfl) g3 T (by simp) n3 (pa_mk_cons (by rfl) (by rfl) (Or.inl rfl) g4 T (by simp) n4 pa_mk_nil)))))))
      (pss_cut (ps_set (i := 2) nd rfl (Or.inl rfl) (pe_op op_cat (pv 2) (pe_lst (pa_mk_cons (by rfl) (by rfl) (Or.inl rfl) g5 T (by simp) n5 (pa_mk_cons (by rfl) (by rfl) (Or.inl rfl) g6 T (by simp) n6 (pa_mk_cons (by rfl) (by rfl) (Or.inl rfl) g7 T (by simp) n7 (pa_mk_cons (by rfl) (by rfl) (Or.inl rfl) g8 T (by simp) n8 pa_mk_nil)))))))
      (pss_cut (ps_set (i := 2) nd rfl (Or.inl rfl) (pe_op op_cat (pv 2) (pe_lst (pa_mk_cons (by rfl) (by rfl) (Or.inl rfl) g9 T (by simp) n9 (pa_mk_cons (by rfl) (by rfl) (Or.inl rfl) g10 T (by simp) n10 (pa_mk_cons (by rfl) (by rfl) (Or.inl rfl) g11 T (by simp) n11 (pa_mk_cons (by rfl) (by rfl) (Or.inl rfl) g12 T (by simp) n12 (pa_mk_cons (by rfl) (by rfl) (Or.inl rfl) g13 T (by simp) n13 pa_mk_nil))))))))
      (pss_cut (ps_set (i := 2) nd rfl (Or.inl rfl) (pe_op op_cat (pv 2) (pe_lst (pa_mk_cons (by rfl) (by rfl) (Or.inl rfl) g14 T (by simp) n14 (pa_mk_pe (by rfl) (by rfl) (Or.inl rfl) g15 TP iP tP FP hr bP (pa_mk_cons (by rfl) (by rfl) (Or.inl rfl) g16 T (by simp) n16 (pa_mk_cons (by rfl) (by rfl) (Or.inl rfl) g17 T (by simp) n17 (pa_mk_cons (by rfl) (by rfl) (Or.inl rfl) g18 T (by simp) n18 pa_mk_nil))))))))
      (pss_one (ps_ret (pe_op op_cat (pv 2) (pe_lst (pa_mk_cons (by rfl) (by rfl) (Or.inl rfl) g19 T (by simp) n19 (pa_mk_cons (by rfl) (by rfl) (Or.inl rfl) g20 T (by simp) n20 pa_mk_nil))))))))), ?_⟩
    refine ⟨fun σ' H' => ∃ l as, σ' = [some (.str w'), some (.int n), some (.ref l)] ∧ Same H H' ∧ H' l = some (.lst (as.map .ref)) ∧ Paired (EX c15 n H') as ([c0, c1, c2, c3, c4]), ?_, ?_⟩
    · exact ⟨w', n, rfl, rfl, hn, fun as H' s P => ⟨lenOf P (show 5 ≤ 1000 by decide), fun l nl => ⟨l, as, rfl, s.trans (Same.up nl), upd_same, P.same (Same.up nl)⟩⟩⟩
    rintro σ' H1 ⟨l1, as1, rfl, s1, h1, P1⟩
    refine ⟨fun σ' H' => ∃ l as, σ' = [some (.str w'), some (.int n), some (.ref l)] ∧ Same H H' ∧ H' l = some (.lst (as.map .ref)) ∧ Paired (EX c15 n H') as (([c0, c1, c2, c3, c4]) ++ [c5, c6, c7, c8]), ?_, ?_⟩
    · exact ⟨_, rfl, w', n, rfl, rfl, hn, fun as H' s P => ⟨lenOf P (show 4 ≤ 1000 by decide), fun l nl => ⟨l1, l, _, _, rfl, rfl, Same.up nl _ _ (s _ _ h1), upd_same, lenOf2 P1 P (show 5 + 4 ≤ 1000 by decide), fun p np => ⟨p, as1 ++ as, rfl, ((s1.trans s).trans (Same.up nl)).trans (Same.up np), by rw [List.map_append]; exact upd_same, ((P1.same s).app P).same ((Same.up nl).trans (Same.up np))⟩⟩⟩⟩
    rintro σ' H2 ⟨l2, as2, rfl, s2, h2, P2⟩
    refine ⟨fun σ' H' => ∃ l as, σ' = [some (.str w'), some (.int n), some (.ref l)] ∧ Same H H' ∧ H' l = some (.lst (as.map .ref)) ∧ Paired (EX c15 n H') as ((([c0, c1, c2, c3, c4]) ++ [c5, c6, c7, c8]) ++ [c9, c10, c11, c12, c13]), ?_, ?_⟩
    · exact ⟨_, rfl, w', n, rfl, rfl, hn, fun as H' s P => ⟨lenOf P (show 5 ≤ 1000 by decide), fun l nl => ⟨l2, l, _, _, rfl, rfl, Same.up nl _ _ (s _ _ h2), upd_same, lenOf2 P2 P (show 9 + 5 ≤ 1000 by decide), fun p np => ⟨p, as2 ++ as, rfl, ((s2.trans s).trans (Same.up nl)).trans (Same.up np), by rw [List.map_append]; exact upd_same, ((P2.same s).app P).same ((Same.up nl).trans (Same.up np))⟩⟩⟩⟩
    rintro σ' H3 ⟨l3, as3, rfl, s3, h3, P3⟩
    refine ⟨fun σ' H' => ∃ l as, σ' = [some (.str w'), some (.int n), some (.ref l)] ∧ Same H H' ∧ H' l = some (.lst (as.map .ref)) ∧ Paired (EX c15 n H') as (((([c0, c1, c2, c3, c4]) ++ [c5, c6, c7, c8]) ++ [c9, c10, c11, c12, c13]) ++ [c14, c15, c16, c17, c18]), ?_, ?_⟩
    · exact ⟨_, rfl, w', n, rfl, rfl, hn, fun as H' s P => ⟨lenOf P (show 5 ≤ 1000 by decide), fun l nl => ⟨l3, l, _, _, rfl, rfl, Same.up nl _ _ (s _ _ h3), upd_same, lenOf2 P3 P (show 14 + 5 ≤ 1000 by decide), fun p np => ⟨p, as3 ++ as, rfl, ((s3.trans s).trans (Same.up nl)).trans (Same.up np), by rw [List.map_append]; exact upd_same, ((P3.same s).app P).same ((Same.up nl).trans (Same.up np))⟩⟩⟩⟩
    rintro σ' H4 ⟨l4, as4, rfl, s4, h4, P4⟩
    exact ⟨_, rfl, w', n, rfl, rfl, hn, fun as H' s P => ⟨lenOf P (show 2 ≤ 1000 by decide), fun l nl => ⟨l4, l, _, _, rfl, rfl, Same.up nl _ _ (s _ _ h4), upd_same, lenOf2 P4 P (show 19 + 2 ≤ 1000 by decide), fun p np => k _ p (as4 ++ as) (((s4.trans s).trans (Same.up nl)).trans (Same.up np)) (by rw [List.map_append]; exact upd_same) (((P4.same s).app P).same ((Same.up nl).trans (Same.up np)))⟩⟩⟩
end
end K45
set_option maxRecDepth 100000
set_option maxHeartbeats 4000000
namespace K45
open PySem PySem.Spec PyProof.Rows L2
abbrev sLaw : Stmt := top 29
theorem atI_mem {xs : List V} {d : Int} (h0 : 0 ≤ d) (h1 : d < (xs.length : Int)) : ∃ x, x ∈ xs ∧ atI xs d = some x := by
  obtain ⟨j, rfl⟩ : ∃ j : Nat, d = (j : Int) := ⟨d.toNat, (Int.toNat_of_nonneg h0).symm⟩
  have hj : j < xs.length := by omega
  exact ⟨xs[j], List.getElem_mem hj, atI_nat (List.getElem?_eq_getElem hj)⟩
theorem canLay_bools : ∀ bs : List Bool, PyData.canLayAll0 (bs.map .bool) = true
  | [] => rfl
  | n :: t => by
    show (true && PyData.canLayAll0 (t.map .bool)) = true
    rw [canLay_bools t] <;> rfl
theorem depth_bools : ∀ bs : List Bool, PyData.depthAll (bs.map .bool) = 0
  | [] => rfl
  | n :: t => by
    show max 0 (PyData.depthAll (t.map .bool)) = 0
    rw [depth_bools t] <;> rfl
theorem shaped_bools (bs : List Bool) : SeqAt.shaped (.list (bs.map .bool)) = true := by
  unfold SeqAt.shaped
  refine Bool.and_eq_true_iff.mpr ⟨canLay_bools bs, decide_eq_true ?_⟩
  show PyData.depthAll (bs.map .bool) + 1 ≤ 64
  rw [depth_bools]
  decide
theorem dp_bools {K : PySem.W.Frag} {H : Hp} {a : Addr} {bs : List Bool} (h : H a = some (.lst (bs.map .bl))) : Dp K H (.ref a) (.list (bs.map .bool)) := by
  refine .lst (SqL.of h) ?_
  clear h
  induction bs with
  | nil => exact .nil
  | cons n t ih => exact .cons (.bl n) ih
theorem eqv_bools : ∀ bs : List Bool, PyData.eqvAll (bs.map .bool) (bs.map .bool) = true
  | [] => rfl
  | n :: t => by
    show ((n == n) && PyData.eqvAll (t.map .bool) (t.map .bool)) = true
    rw [eqv_bools t]
    simp
theorem marks_eq {cs : List Addr} {k : Nat} {C : Addr} (nd : cs.Nodup) (h : cs[k]? = some C) : cs.map (fun D => decide (C = D)) = (List.range cs.length).map fun j => decide (V.int ((0 : Int) + (j : Nat)) = V.int (k : Nat)) := by
  have hk := (List.getElem?_eq_some_iff.mp h)
  obtain ⟨hkl, rfl⟩ := hk
  refine List.ext_getElem (by simp) fun i h1 h2 => ?_
  rw [List.getElem_map, List.getElem_map, List.getElem_range]
  rw [List.length_map] at h1
  refine decide_eq_decide.mpr ?_
  rw [List.getElem_inj nd]
  constructor
  · rintro rfl
    rw [Int.zero_add]
  · intro e
    injection e with e
    omega
theorem pair_get {F : Addr → Addr → Prop} : ∀ {as cs : List Addr} {i : Nat} {a C : Addr}, Paired F as cs → as[i]? = some a → cs[i]? = some C → F a C
  | _, _, i, _, _, .nil, h, _ => by simp at h
  | _, _, 0, _, _, .cons h t, e1, e2 => by
    cases e1
    cases e2
    exact h
  | _, _, i + 1, _, _, .cons h t, e1, e2 => pair_get (i := i) t (by simpa using e1) (by simpa using e2)
theorem map_bl {α : Type} (f : α → Bool) (l : List α) : (l.map fun x => V.bl (f x)) = (l.map f).map V.bl := by
  rw [List.map_map]
  rfl
theorem none_eq {cs : List Addr} {told : Addr} (h : told ∉ cs) : (cs.map fun D => decide (told = D)).any id = false := by
  rw [List.any_eq_false]
  intro b hb
  obtain ⟨D, hD, rfl⟩ := List.mem_map.mp hb
  simp only [id, decide_eq_true_eq]
  intro e
  exact h (e ▸ hD)
section
variable {P : Program} {w : World} {K : PySem.W.Frag} {mg : Str → Option Value} {base : Heap}
def spLaw (K : PySem.W.Frag) : Sp := fun vs H Q _ => ∃ (a : Addr) (ns : List Int), vs = [.ref a] ∧ SqL K H a (ns.map V.int) ∧ ns.length ≤ 63 ∧ ∀ H', Q (.bl true) H'
theorem scL : FnScope ["script", "pen", "turn", "word", "line", "found", "k", "j"] ["script"] (defScope sLaw) := ⟨rfl, rfl, rfl, by decide +kernel, rfl, by decide +kernel, by decide +kernel⟩
structure LawG (K : PySem.W.Frag) (mg : Str → Option Value) (fP fD fM fC told pe : Addr) (cs : List Addr) : Prop where
  mP : mg "_law_pen" = some (.ref fP)
  mD : mg "_law_draw" = some (.ref fD)
  mM : mg "_law_made_errors" = some (.ref fM)
  mC : mg "_law_classes" = some (.ref fC)
  kP : PySem.W.keepIn K (.ref fP) = true
  kD : PySem.W.keepIn K (.ref fD) = true
  kM : PySem.W.keepIn K (.ref fM) = true
  kC : PySem.W.keepIn K (.ref fC) = true
  range : mg "range" = none
  len : mg "len" = none
  isi : mg "isinstance" = none
  any : mg "any" = none
  bool : mg "bool" = none
  ve : mg "ValueError" = none
  mT : mg "ToldError" = some (.ref told)
  T : ErrT K told pe cs
  nd : cs.Nodup
  n21 : cs.length = 21
  no : told ∉ cs
  ne : told ≠ pe
  at15 : cs[15]? = some pe
  nl : PySem.W.findIn K (.ref pe) "line" = some none
theorem ok_law {f fP fD fM fC told pe : Addr} {cs : List Addr} {fd fdP fdD fdM fdC : FuncData} (F : Fun K "law" "law" sLaw f fd) (G : LawG K mg fP fD fM fC told pe cs)
    (FP : FnOk P w K mg base CX0 1 fP fdP ["script"] (spPen K)) (bP : Binds K fdP ["script"] []) (FD : FnOk P w K mg base CX0 2 fD fdD ["pen", "under"] spDraw) (bD : Binds K fdD ["pen", "under"] [])
    (FM : FnOk P w K mg base CX0 3 fM fdM ["word", "line"] (spMade pe cs)) (bM : Binds K fdM ["word", "line"] []) (FC : FnOk P w K mg base CX0 1 fC fdC ["caught"] (spCls told cs)) (bC : Binds K fdC ["caught"] []) : FnOk P w K mg base CX0 4 f fd ["script"] (spLaw K) := by
  refine F.ok scL (fun vs H Q E h => ?_) (fun cdv A outer s H vs Q E hr h => ?_)
  · obtain ⟨a, ns, rfl, _⟩ := h
    rfl
  · obtain ⟨a, ns, rfl, hS, hlen, k⟩ := h
    have nd := scL.nd
    have hr1 : Room 1 _ := hr.mono (by decide)
    have hr2 : Room 2 _ := hr.mono (by decide)
    have hu : (A.deeper (envOfC "law" (defScope sLaw) s.heap.objs.size f cdv)).units + 64 < cLine := by
      have := hr.un
      omega
    refine ⟨_, pss_cons (ps_set (i := 1) nd rfl (Or.inl rfl) (pe_call FP hr1 (by rfl) G.mP G.kP bP .nil pass0 (pa_cons (pv 0) pa_nil)))
      (pss_cons (ps_for PassesOwn.never rfl (pi_range1 (by rfl) G.range (pa_cons pe_int pa_nil)) (pg_name (i := 2) nd rfl (Or.inl rfl))
        (pss_cons (ps_set (i := 3) nd rfl (Or.inl rfl) (pe_ix ix_list (pe_lst (pa_cons pe_str (pa_cons pe_str (pa_cons pe_str (pa_cons pe_str pa_nil))))) (pe_call FD hr2 (by rfl) G.mD G.kD bD .nil pass0 (pa_cons (pv 1) (pa_cons pe_int pa_nil))) (fun _ _ => rfl)))
        (pss_cons (ps_set (i := 4) nd rfl (Or.inl rfl) (pe_ix ix_list (pe_lst (pa_cons pe_int (pa_cons pe_int (pa_cons pe_int (pa_cons (pe_op op_pow pe_int pe_int) pa_nil))))) (pe_call FD hr2 (by rfl) G.mD G.kD bD .nil pass0 (pa_cons (pv 1) (pa_cons pe_int pa_nil))) (fun _ _ => rfl)))
        (pss_cons (ps_set (i := 5) nd rfl (Or.inl rfl) (pe_call FM hr (by rfl) G.mM G.kM bM .nil pass0 (pa_cons (pv 3) (pa_cons (pv 4) pa_nil))))
        (pss_cons (ps_for PassesOwn.never rfl (pi_range1 (by rfl) G.range (pa_cons (pe_callB call_len_seq (by rfl) G.len PySem.boot_len (pa_cons (pv 5) pa_nil)) pa_nil)) (pg_name (i := 6) nd rfl (Or.inr rfl))
          (pss_cons (ps_if (pt_cmpR (op_neD hu) (pe_call FC hr1 (by rfl) G.mC G.kC bC .nil pass0 (pa_cons (pe_ix ix_list (pv 5) (pv 6) (fun _ _ => rfl)) pa_nil))
              (pe_lc (own := [("j", 7)]) (g := gName 7) (tt := tYes) rfl nd (pi_range1 (by rfl) G.range (pa_cons (pe_callB call_len_seq (by rfl) G.len PySem.boot_len (pa_cons (pv 5) pa_nil)) pa_nil)) (blkOk_by (N := ["script", "pen", "turn", "word", "line", "found", "k", "j"]) (sc := defScope sLaw) (by decide +kernel)) (fun _ _ _ _ _ => pg_name (i := 7) nd rfl (Or.inl rfl)) (fun _ _ _ _ _ => pts_nil) (fun _ _ _ _ _ => pe_cmpR op_eq (pv 7) (pv 6) (nomark _))) (nomark _))
            (pss_one (ps_ret pe_bl)) pss_nil)
          (pss_one (ps_if (PW.pt (pw_or (pt_not (pt_val (pe_callB call_isO (by rfl) G.isi (by rfl) (pa_cons (pe_ix ix_list (pv 5) (pv 6) (fun _ _ => rfl)) (pa_cons (pe_glob (v := V.ref told) (by rfl) G.mT rfl) pa_nil)))))
              (pw_or1 (pt_not (pt_val (pe_callB call_isO (by rfl) G.isi (by rfl) (pa_cons (pe_ix ix_list (pv 5) (pv 6) (fun _ _ => rfl)) (pa_cons (pe_bltn (v := V.ty "ValueError") (u := .type "ValueError") (by rfl) G.ve (by rfl) rfl) pa_nil))))))))
            (pss_one (ps_ret pe_bl)) pss_nil))))
        (pss_cons (ps_if (PW.pt (pw_or (pt_cmpR op_ne (pe_ofld (pe_ix ix_list (pv 5) pe_int (fun _ _ => rfl))) (pv 4) (nomark _))
            (pw_or1 (pt_val (pe_callB call_isi (by rfl) G.isi (by rfl) (pa_cons (pe_ofld (pe_ix ix_list (pv 5) pe_int (fun _ _ => rfl))) (pa_cons (pe_bltn (v := V.ty "bool") (u := .type "bool") (by rfl) G.bool (by rfl) rfl) pa_nil)))))))
          (pss_one (ps_ret pe_bl)) pss_nil)
        (pss_one (ps_if (PW.pt (pw_or (pt_not (pt_val (pe_callB call_isO (by rfl) G.isi (by rfl) (pa_cons (pe_exc1 PySem.F.excBase_ValueError (G.T.ini told List.mem_cons_self G.ne).1 G.mT (G.T.ini told List.mem_cons_self G.ne).2 (by rfl) (pv 3)) (pa_cons (pe_bltn (v := V.ty "ValueError") (u := .type "ValueError") (by rfl) G.ve (by rfl) rfl) pa_nil)))))
            (pw_or1 (pt_val (pe_callB (cr_any rfl) (by rfl) G.any (by rfl) (pa_cons (pe_call FC hr1 (by rfl) G.mC G.kC bC .nil pass0 (pa_cons (pe_exc1 PySem.F.excBase_ValueError (G.T.ini told List.mem_cons_self G.ne).1 G.mT (G.T.ini told List.mem_cons_self G.ne).2 (by rfl) (pv 3)) pa_nil)) pa_nil))))))
          (pss_one (ps_ret pe_bl)) pss_nil))))))))
      (pss_one (ps_ret pe_bl))), ?_⟩
    -- pen = _law_pen(script)
    refine ⟨_, rfl, a, ns, rfl, hS, hlen, fun H0 p c s0 _ T0 => ?_⟩
    have h60 : (ns.take 60).length ≤ 60 := by
      rw [List.length_take]
      exact Nat.min_le_left _ _
    -- for turn in range(3)
    refine ⟨3, rfl, by decide, by decide, for_range (n := 3) (fun t σ H1 => ∃ (v2 v3 v4 v5 v6 v7 : Option V) (i r : Int), σ = [some (.ref a), some (.ref p), v2, v3, v4, v5, v6, v7] ∧ PenH H1 p c (ns.take 60) i r ∧ 0 ≤ i ∧ i ≤ 2 * (t : Int))
      ⟨none, none, none, none, none, none, 0, 0, rfl, T0, by decide, by decide⟩ ?_ (fun σ H1 _ => k H1)⟩
    rintro t σ H1 ht ⟨v2, v3, v4, v5, v6, v7, i, r, rfl, T1, hi0, hi1⟩
    have drawI_le : ∀ i r u : Int, drawI i r u ≤ i + 1 := fun i r u => by
      unfold drawI
      split <;> omega
    have drawI_ge : ∀ i r u : Int, i ≤ drawI i r u := fun i r u => by
      unfold drawI
      split <;> omega
    -- word
    refine ⟨(by show 4 ≤ sizeLine; decide), fun l1 n1 => ⟨_, rfl, p, c, ns.take 60, i, r, 4, rfl, ⟨Same.up n1 _ _ T1.pen, Same.up n1 _ _ T1.cells⟩, h60, hi0, by omega, by decide, by decide, fun H2 K2 T2 => ?_⟩⟩
    have np1 : l1 ≠ p := fun z => by
      rw [z, T1.pen] at n1
      cases n1
    obtain ⟨x1, hx1, a1⟩ := atI_mem (xs := [V.str "", V.str "no", V.str "a longer word", V.str "0"]) (Int.emod_nonneg (drawR (ns.take 60) i r 4) (by decide)) (Int.emod_lt_of_pos (drawR (ns.take 60) i r 4) (by decide))
    obtain ⟨w', rfl⟩ : ∃ w' : Str, x1 = .str w' := by
      simp only [List.mem_cons, List.not_mem_nil, or_false] at hx1
      rcases hx1 with rfl | rfl | rfl | rfl <;> exact ⟨_, rfl⟩
    refine ⟨l1, _, _, _, rfl, rfl, SqL.of (K2 _ _ np1 upd_same), a1, ?_⟩
    -- line
    refine ⟨_, _, rfl, rfl, ⟨by decide, by decide, by decide⟩, (by show 4 ≤ sizeLine; decide), fun l2 n2 => ⟨_, rfl, p, c, ns.take 60, drawI i r 4, drawR (ns.take 60) i r 4 / 4, 4, rfl, ⟨Same.up n2 _ _ T2.pen, Same.up n2 _ _ T2.cells⟩, h60, (by have := drawI_ge i r 4; omega), (by have := drawI_le i r 4; omega), by decide, by decide, fun H3 K3 T3 => ?_⟩⟩
    have np2 : l2 ≠ p := fun z => by
      rw [z, T2.pen] at n2
      cases n2
    obtain ⟨x2, hx2, a2⟩ := atI_mem (xs := [V.int 0, V.int 1, V.int 7, V.int (10 ^ (20 : Int).toNat)]) (Int.emod_nonneg (drawR (ns.take 60) (drawI i r 4) (drawR (ns.take 60) i r 4 / 4) 4) (by decide)) (Int.emod_lt_of_pos (drawR (ns.take 60) (drawI i r 4) (drawR (ns.take 60) i r 4 / 4) 4) (by decide))
    obtain ⟨n, rfl, hn⟩ : ∃ n : Int, x2 = .int n ∧ n.natAbs.log2 < 1920 := by
      simp only [List.mem_cons, List.not_mem_nil, or_false] at hx2
      rcases hx2 with rfl | rfl | rfl | rfl <;> exact ⟨_, rfl, by decide +kernel⟩
    refine ⟨l2, _, _, _, rfl, rfl, SqL.of (K3 _ _ np2 upd_same), a2, ?_⟩
    -- found
    refine ⟨_, rfl, _, rfl, w', n, rfl, hn, fun H4 pf as s4 hf4 P4 => ?_⟩
    have las : as.length = 21 := (Paired.length P4).trans G.n21
    have T4 : PenH H4 p c (ns.take 60) (drawI (drawI i r 4) (drawR (ns.take 60) i r 4 / 4) 4) (drawR (ns.take 60) (drawI i r 4) (drawR (ns.take 60) i r 4 / 4) 4 / 4) := ⟨s4 _ _ T3.pen, s4 _ _ T3.cells⟩
    have lenf : (as.map V.ref).length = 21 := by rw [List.length_map, las]
    -- for k in range(len(found))
    refine ⟨_, rfl, pf, _, rfl, .inl (SqL.of hf4), ((as.map V.ref).length : Int), rfl, (by rw [lenf]; decide), (by rw [lenf]; decide), ?_⟩
    rw [lenf]
    refine for_range (n := 21) (fun kk σ H5 => ∃ (v6 v7 : Option V), σ = [some (.ref a), some (.ref p), some (.int (0 + (t : Int))), some (.str w'), some (.int n), some (.ref pf), v6, v7] ∧ L2.Same H4 H5) ⟨v6, v7, rfl, fun _ _ e => e⟩ ?_ ?_
    · rintro kk σ H5 hk ⟨v6, v7, rfl, s5⟩
      have hk' : kk < as.length := by omega
      have hkc : kk < cs.length := by rw [G.n21]; exact hk
      have ga : as[kk]? = some as[kk] := List.getElem?_eq_getElem hk'
      have gc : cs[kk]? = some cs[kk] := List.getElem?_eq_getElem hkc
      have gm : (as.map V.ref)[kk]? = some (.ref as[kk]) := by rw [List.getElem?_map, ga] <;> rfl
      have gx : EX pe n H4 as[kk] cs[kk] := pair_get P4 ga gc
      have mem : cs[kk] ∈ told :: cs := List.mem_cons_of_mem _ (List.getElem_mem hkc)
      rw [Int.zero_add (kk : Int)]
      refine ⟨_, rfl, _, rfl, pf, _, _, _, rfl, rfl, SqL.of (s5 _ _ hf4), atI_nat gm, as[kk], cs[kk], rfl, gx.1.same s5, mem, fun H6 p6 s6 h6 => ?_⟩
      refine ⟨_, rfl, pf, _, rfl, .inl (SqL.of (s6 _ _ (s5 _ _ hf4))), ((as.map V.ref).length : Int), rfl, (by rw [lenf]; decide), (by rw [lenf]; decide), fun D nD => ?_⟩
      rw [lenf]
      refine lc_range (n := 21) (fun j H7 => L2.Same H6 H7 ∧ H7 D = some (.lst ((List.range j).map fun j => V.bl (decide (V.int ((0 : Int) + (j : Nat)) = V.int (kk : Nat)))))) ⟨Same.up nD, upd_same⟩ ?_ ?_
      · rintro j H7 hj ⟨s7, h7⟩
        refine ⟨rfl, _, rfl, _, rfl, rfl, _, h7, ?_, ?_, ?_⟩
        · rw [List.length_map, List.length_range]
          exact Nat.lt_of_lt_of_le hj (by decide)
        · intro b o e
          rw [upd_ne (ne_of_none e nD)]
          exact s7 b o e
        · rw [List.range_succ, List.map_append]
          exact upd_same
      · rintro H7 ⟨s7, h7⟩
        have e6 : H7 p6 = some (.lst ((cs.map fun D => decide (cs[kk] = D)).map V.bl)) := by
          rw [← map_bl]
          exact s7 _ _ h6
        have e7 : H7 D = some (.lst ((cs.map fun D => decide (cs[kk] = D)).map V.bl)) := by
          rw [marks_eq G.nd gc, G.n21, ← map_bl]
          exact h7
        refine ⟨_, _, dp_bools e6, dp_bools e7, shaped_bools _, shaped_bools _, _, rfl, ?_⟩
        rw [show PyData.eqv (.list ((cs.map fun D => decide (cs[kk] = D)).map .bool)) (.list ((cs.map fun D => decide (cs[kk] = D)).map .bool)) = true from eqv_bools _]
        have s57 : L2.Same H4 H7 := (s5.trans s6).trans s7
        refine iteF ?_
        refine ⟨_, rfl, _, rfl, pf, _, _, _, rfl, rfl, SqL.of (s57 _ _ hf4), atI_nat gm, as[kk], cs[kk], _, _, _, rfl, gx.1.same s57, G.T.exc _ mem, .own told, G.T.kitT _ mem, _, rfl, ?_⟩
        refine iteF ?_
        refine ⟨_, rfl, _, rfl, pf, _, _, _, rfl, rfl, SqL.of (s57 _ _ hf4), atI_nat gm, as[kk], cs[kk], _, _, _, rfl, gx.1.same s57, G.T.exc _ mem, .ty "ValueError", G.T.kitV _ mem, _, rfl, ?_⟩
        refine iteF ?_
        exact ⟨_, _, rfl, s57⟩
    · rintro σ H5 ⟨v6, v7, rfl, s5⟩
      have h15 : 15 < as.length := by omega
      have ga : as[15]? = some as[15] := List.getElem?_eq_getElem h15
      have gm : (as.map V.ref)[15]? = some (.ref as[15]) := by rw [List.getElem?_map, ga] <;> rfl
      have gx : EX pe n H4 as[15] pe := pair_get P4 ga G.at15
      obtain ⟨d, e1, e2⟩ := gx.2 rfl
      have mem : pe ∈ told :: cs := List.mem_cons_of_mem _ (List.mem_of_getElem? G.at15)
      have mem0 : told ∈ told :: cs := List.mem_cons_self
      refine ⟨_, rfl, pf, _, _, _, rfl, rfl, SqL.of (s5 _ _ hf4), atI_nat (j := 15) gm, as[15], pe, d, _, _, rfl, s5 _ _ e1, s5 _ _ e2, G.T.exc _ mem, G.nl, rfl, _, rfl, rfl, _, rfl, ?_⟩
      refine iteNS rfl ?_
      refine ⟨_, rfl, pf, _, _, _, rfl, rfl, SqL.of (s5 _ _ hf4), atI_nat (j := 15) gm, as[15], pe, d, _, _, rfl, s5 _ _ e1, s5 _ _ e2, G.T.exc _ mem, G.nl, rfl, _, _, _, _, false, rfl, .ty "bool", .base (.int n), kit_ty (by decide +kernel), _, rfl, ?_⟩
      refine iteF ?_
      refine ⟨_, rfl, fun ax nx => ⟨ax, told, _, _, _, rfl, .inl upd_same, G.T.exc told mem0, .ty "ValueError", G.T.kitV told mem0, _, rfl, ?_⟩⟩
      refine iteF ?_
      refine ⟨_, rfl, fun ay ny => ⟨ay, told, rfl, .inl upd_same, mem0, fun H6 p6 s6 h6 => ⟨p6, cs.map (fun D => decide (told = D)), rfl, SqL.of ?_, _, rfl, ?_⟩⟩⟩
      · rw [← map_bl]
        exact h6
      · rw [none_eq G.no]
        refine iteF ?_
        have s46 : L2.Same H4 H6 := ((s5.trans (Same.up nx)).trans (Same.up ny)).trans s6
        refine ⟨_, _, _, _, _, _, _, _, rfl, ⟨s46 _ _ T4.pen, s46 _ _ T4.cells⟩, ?_, ?_⟩
        · have := drawI_ge i r 4
          have := drawI_ge (drawI i r 4) (drawR (ns.take 60) i r 4 / 4) 4
          omega
        · have := drawI_le i r 4
          have := drawI_le (drawI i r 4) (drawR (ns.take 60) i r 4 / 4) 4
          omega
end
end K45
set_option maxRecDepth 100000
set_option maxHeartbeats 4000000
namespace K45
open PySem PySem.Spec PyProof.Rows L2
def errB1 (K : PySem.W.Frag) (C : Addr) : Bool :=
  decide (PySem.W.findIn K (.ref C) "__getattribute__" = some (some (.builtin "BaseException.__getattribute__"))) && (decide (PySem.W.findIn K (.ref C) "__getattr__" = some none) && (decide (PySem.W.subIn K (.ref C) (.type "BaseException") = some true) && (PySem.W.hasDictIn K C && (decide (PySem.W.findIn K (.ref C) "__class__" = some (some (.builtin "object.__class__"))) &&
  (decide (PySem.W.specialIn K (.builtin "object.__class__") "__get__" = some (some (.builtin "getset_descriptor.__get__"))) && (decide (PySem.W.takesIn K (.builtin "object.__class__") = some true) && decide (PySem.W.mroIn K C (.type "object") = some true)))))))
theorem errB1_ok {K : PySem.W.Frag} {C : Addr} (h : errB1 K C = true) : ExcC K C := by
  obtain ⟨h1, h⟩ := Bool.and_eq_true_iff.mp h
  obtain ⟨h2, h⟩ := Bool.and_eq_true_iff.mp h
  obtain ⟨h3, h⟩ := Bool.and_eq_true_iff.mp h
  obtain ⟨h4, h⟩ := Bool.and_eq_true_iff.mp h
  obtain ⟨h5, h⟩ := Bool.and_eq_true_iff.mp h
  obtain ⟨h6, h⟩ := Bool.and_eq_true_iff.mp h
  obtain ⟨h7, h8⟩ := Bool.and_eq_true_iff.mp h
  exact ⟨of_decide_eq_true h1, of_decide_eq_true h2, of_decide_eq_true h3, h4, of_decide_eq_true h5, of_decide_eq_true h6, of_decide_eq_true h7, of_decide_eq_true h8⟩
def errB2 (K : PySem.W.Frag) (told pe : Addr) (cs : List Addr) (C : Addr) : Bool :=
  errB1 K C && (cs.all (fun D => decide (PySem.W.kitOne K (.ref C) (.ref D) = some (decide (C = D)))) && (decide (PySem.W.kitOne K (.ref C) (.ref told) = some true) && (decide (PySem.W.kitOne K (.ref C) (.type "ValueError") = some true) && (decide (C = pe) || (PySem.W.excIn K C veT "ValueError.__new__" && PySem.W.keepIn K (.ref C))))))
theorem errB_ok {K : PySem.W.Frag} {told pe : Addr} {cs : List Addr} (h : (told :: cs).all (errB2 K told pe cs) = true) : ErrT K told pe cs := by
  have g := List.all_eq_true.mp h
  refine ⟨fun C hC => ?_, fun C hC D hD => ?_, fun C hC => ?_, fun C hC => ?_, fun C hC hne => ?_⟩
  all_goals
    have q := g C hC
    unfold errB2 at q
    obtain ⟨h1, q⟩ := Bool.and_eq_true_iff.mp q
    obtain ⟨h2, q⟩ := Bool.and_eq_true_iff.mp q
    obtain ⟨h3, q⟩ := Bool.and_eq_true_iff.mp q
    obtain ⟨h4, h5⟩ := Bool.and_eq_true_iff.mp q
  · exact errB1_ok h1
  · exact of_decide_eq_true (List.all_eq_true.mp h2 D hD)
  · exact of_decide_eq_true h3
  · exact of_decide_eq_true h4
  · rcases Bool.or_eq_true_iff.mp h5 with e | e
    · exact absurd (of_decide_eq_true e) hne
    · exact Bool.and_eq_true_iff.mp e
theorem all_mk {l : PySem.W.OpenLaw} {w : World} {K : PySem.W.Frag} {h : Heap} {mg : Str → Option Value} {fa told fI f1 f2 f3 f4 f5 f6 cda cc c0 c1 c2 c3 c4 c5 c6 c7 c8 c9 c10 c11 c12 c13 c14 c15 c16 c17 c18 c19 c20 : Addr} (X : K.In h) (G : h.Ns mainGlobals mg) (hfa : mg "law" = some (.ref fa))
    {od1 an1 od2 an2 od3 an3 od4 an4 od5 an5 od6 an6 odI anI cddI cldI ddC : Option Addr} {sl1 sl2 sl3 sl4 sl5 sl6 slI ccsI cslI : Array (Option Value)} {oc1 kV1 dc1 pm1 cd1 ct1 oc2 kV2 dc2 pm2 cd2 ct2 oc3 kV3 dc3 pm3 cd3 ct3 oc4 kV4 dc4 pm4 cd4 ct4 oc5 kV5 dc5 pm5 cd5 ct5 oc6 kV6 dc6 pm6 cd6 ct6 ocI kVI dcI pmI ctI cclI clI : Value} {vsI : Array Value} {file : Str} {tf : Tok}
    {nm q : Str} {N : Addr} {bs bm : List Value} {sn : List Str} {sub : List Value} {ab : Bool} {col : Option Bool} {k0 k1' k2' k3' k5' : Option Value}
    (a1 : PySem.W.nsIn K mainGlobals "_law_pen" = some (some (.ref f1))) (l1 : K.lookup f1 = some ⟨oc1, od1, .func (PySem.W.fnOf "_law_pen" "_law_pen" (defArgs sPen) (defBody sPen) (defScope sPen) .none kV1 dc1 pm1 an1 cd1 ct1), sl1⟩) (d1 : PySem.W.codeIn K cd1 "_law_pen" = true) (k1 : PySem.W.keepIn K (.ref f1) = true)
    (a2 : PySem.W.nsIn K mainGlobals "_law_next" = some (some (.ref f2))) (l2 : K.lookup f2 = some ⟨oc2, od2, .func (PySem.W.fnOf "_law_next" "_law_next" (defArgs sNext) (defBody sNext) (defScope sNext) .none kV2 dc2 pm2 an2 cd2 ct2), sl2⟩) (d2 : PySem.W.codeIn K cd2 "_law_next" = true) (k2 : PySem.W.keepIn K (.ref f2) = true)
    (a3 : PySem.W.nsIn K mainGlobals "_law_draw" = some (some (.ref f3))) (l3 : K.lookup f3 = some ⟨oc3, od3, .func (PySem.W.fnOf "_law_draw" "_law_draw" (defArgs sDraw) (defBody sDraw) (defScope sDraw) .none kV3 dc3 pm3 an3 cd3 ct3), sl3⟩) (d3 : PySem.W.codeIn K cd3 "_law_draw" = true) (k3 : PySem.W.keepIn K (.ref f3) = true)
    (a4 : PySem.W.nsIn K mainGlobals "_law_classes" = some (some (.ref f4))) (l4 : K.lookup f4 = some ⟨oc4, od4, .func (PySem.W.fnOf "_law_classes" "_law_classes" (defArgs sCls) (defBody sCls) (defScope sCls) .none kV4 dc4 pm4 an4 cd4 ct4), sl4⟩) (d4 : PySem.W.codeIn K cd4 "_law_classes" = true) (k4 : PySem.W.keepIn K (.ref f4) = true)
    (a5 : PySem.W.nsIn K mainGlobals "_law_made_errors" = some (some (.ref f5))) (l5 : K.lookup f5 = some ⟨oc5, od5, .func (PySem.W.fnOf "_law_made_errors" "_law_made_errors" (defArgs sMade) (defBody sMade) (defScope sMade) .none kV5 dc5 pm5 an5 cd5 ct5), sl5⟩) (d5 : PySem.W.codeIn K cd5 "_law_made_errors" = true) (k5 : PySem.W.keepIn K (.ref f5) = true)
    (a6 : PySem.W.nsIn K mainGlobals "law" = some (some (.ref f6))) (l6 : K.lookup f6 = some ⟨oc6, od6, .func (PySem.W.fnOf "law" "law" (defArgs sLaw) (defBody sLaw) (defScope sLaw) .none kV6 dc6 pm6 an6 cd6 ct6), sl6⟩) (d6 : PySem.W.codeIn K cd6 "law" = true) (k6 : PySem.W.keepIn K (.ref f6) = true)
    (q0 : PySem.W.nsIn K mainGlobals "DuplicateName" = some (some (.ref c0)))
    (q1 : PySem.W.nsIn K mainGlobals "InvalidBook" = some (some (.ref c1)))
    (q2 : PySem.W.nsIn K mainGlobals "InvalidCondition" = some (some (.ref c2)))
    (q3 : PySem.W.nsIn K mainGlobals "InvalidKept" = some (some (.ref c3)))
    (q4 : PySem.W.nsIn K mainGlobals "InvalidKind" = some (some (.ref c4)))
    (q5 : PySem.W.nsIn K mainGlobals "InvalidLacking" = some (some (.ref c5)))
    (q6 : PySem.W.nsIn K mainGlobals "InvalidLine" = some (some (.ref c6)))
    (q7 : PySem.W.nsIn K mainGlobals "InvalidMeeting" = some (some (.ref c7)))
    (q8 : PySem.W.nsIn K mainGlobals "InvalidName" = some (some (.ref c8)))
    (q9 : PySem.W.nsIn K mainGlobals "InvalidNumber" = some (some (.ref c9)))
    (q10 : PySem.W.nsIn K mainGlobals "InvalidPair" = some (some (.ref c10)))
    (q11 : PySem.W.nsIn K mainGlobals "InvalidRows" = some (some (.ref c11)))
    (q12 : PySem.W.nsIn K mainGlobals "InvalidSchema" = some (some (.ref c12)))
    (q13 : PySem.W.nsIn K mainGlobals "NotTold" = some (some (.ref c13)))
    (q14 : PySem.W.nsIn K mainGlobals "NothingToUndo" = some (some (.ref c14)))
    (q15 : PySem.W.nsIn K mainGlobals "ParseError" = some (some (.ref c15)))
    (q16 : PySem.W.nsIn K mainGlobals "UnknownColumn" = some (some (.ref c16)))
    (q17 : PySem.W.nsIn K mainGlobals "UnknownFlag" = some (some (.ref c17)))
    (q18 : PySem.W.nsIn K mainGlobals "UnknownRow" = some (some (.ref c18)))
    (q19 : PySem.W.nsIn K mainGlobals "UnknownStore" = some (some (.ref c19)))
    (q20 : PySem.W.nsIn K mainGlobals "UnknownTable" = some (some (.ref c20)))
    (qT : PySem.W.nsIn K mainGlobals "ToldError" = some (some (.ref told)))
    (zlist : PySem.W.nsIn K mainGlobals "list" = some none)
    (zlen : PySem.W.nsIn K mainGlobals "len" = some none)
    (zint : PySem.W.nsIn K mainGlobals "int" = some none)
    (zisinstance : PySem.W.nsIn K mainGlobals "isinstance" = some none)
    (zrange : PySem.W.nsIn K mainGlobals "range" = some none)
    (zany : PySem.W.nsIn K mainGlobals "any" = some none)
    (zbool : PySem.W.nsIn K mainGlobals "bool" = some none)
    (zValueError : PySem.W.nsIn K mainGlobals "ValueError" = some none)
    (zsuper : PySem.W.nsIn K mainGlobals "super" = some none)
    (lC : K.lookup c15 = some (excClassObj nm q c15 N bs bm true sn sub ab col ddC k0 k1' k2' k3' k5' "ValueError.__new__")) (vC : PySem.HandSPX.refsVE bm = true) (sC : PySem.W.findIn K (.ref c15) "__setattr__" = some (some (.builtin "object.__setattr__")))
    (eC : PySem.W.subIn K (.ref c15) (.type "BaseException") = some true) (tC : PySem.W.typeIn K (.ref c15) = some (.type "type")) (kC : PySem.W.keepIn K (.ref c15) = true)
    (iI : PySem.W.findIn K (.ref c15) "__init__" = some (some (.ref fI))) (tI : PySem.W.typeIn K (.ref fI) = some (.type "function"))
    (lI : K.lookup fI = some ⟨ocI, odI, .func (PySem.W.ksFn "__init__" "ParseError.__init__" (defArgs sPI) (defBody sPI) (defScope sPI) .none kVI dcI pmI anI (.ref cda) ctI cc), slI⟩) (dI : PySem.W.codeIn K (.ref cda) "ParseError.__init__" = true)
    (lD : K.lookup cda = some ⟨cclI, cddI, .fields vsI, ccsI⟩) (lL : K.lookup cc = some ⟨clI, cldI, .cell (some (.ref c15)), cslI⟩) (nl : PySem.W.findIn K (.ref c15) "line" = some none) (bV : PySem.W.subIn K (.ref c15) (.type "ValueError") = some true) (mS : PySem.W.mroIn K c15 (.ref c15) = some true)
    (op : PySem.W.nsIn K cStatics "thirdparty.any" = some none)
    (hvs : vsI[2]? = some (.str file tf)) (hfile : ((l.prog.main.file : Str) == file) = true) (htop : (l.prog.main.scope.names.lookup ("super" : Str)).isSome = false)
    (hsup : PySem.W.ks_superIn K c15 c15 "__init__" = some (some (.builtin "ValueError.__init__"))) (hE : (told :: [c0, c1, c2, c3, c4, c5, c6, c7, c8, c9, c10, c11, c12, c13, c14, c15, c16, c17, c18, c19, c20]).all (errB2 K told c15 [c0, c1, c2, c3, c4, c5, c6, c7, c8, c9, c10, c11, c12, c13, c14, c15, c16, c17, c18, c19, c20]) = true) (hN : ([c0, c1, c2, c3, c4, c5, c6, c7, c8, c9, c10, c11, c12, c13, c14, c15, c16, c17, c18, c19, c20]).Nodup) (hT : told ∉ [c0, c1, c2, c3, c4, c5, c6, c7, c8, c9, c10, c11, c12, c13, c14, c15, c16, c17, c18, c19, c20]) :
    ∃ fd : FuncData, (∀ (s : Shared) (v : Value), BindsTo s fd ⟨[v], []⟩ [("script", v)]) ∧ ∀ base : Heap, K.In base → base.Ns mainGlobals mg → FnOk l.prog w K mg base CX0 4 fa fd ["script"] (spLaw K) := by
  have e := hfa.symm.trans (PySem.W.mg_of X G a6)
  cases e
  have F1 := fun_mk (st := sPen) l1 d1 k1
  have b1 := F1.binds (ps := ["script"]) fun _ _ _ _ _ _ us hl => match us, hl with | [_], _ => rfl
  have F2 := fun_mk (st := sNext) l2 d2 k2
  have b2 := F2.binds (ps := ["pen"]) fun _ _ _ _ _ _ us hl => match us, hl with | [_], _ => rfl
  have F3 := fun_mk (st := sDraw) l3 d3 k3
  have b3 := F3.binds (ps := ["pen", "under"]) fun _ _ _ _ _ _ us hl => match us, hl with | [_, _], _ => rfl
  have F4 := fun_mk (st := sCls) l4 d4 k4
  have b4 := F4.binds (ps := ["caught"]) fun _ _ _ _ _ _ us hl => match us, hl with | [_], _ => rfl
  have F5 := fun_mk (st := sMade) l5 d5 k5
  have b5 := F5.binds (ps := ["word", "line"]) fun _ _ _ _ _ _ us hl => match us, hl with | [_, _], _ => rfl
  have F6 := fun_mk (st := sLaw) l6 d6 k6
  have b6 := F6.binds (ps := ["script"]) fun _ _ _ _ _ _ us hl => match us, hl with | [_], _ => rfl
  have T := errB_ok hE
  have TP : OexC K c15 := ⟨⟨nm, q, N, bs, bm, sn, sub, ab, col, ddC, k0, k1', k2', k3', k5', lC, vC⟩, sC, eC, tC, kC⟩
  have PX : PIx l.prog K mg c15 fI (PySem.W.ksFn "__init__" "ParseError.__init__" (defArgs sPI) (defBody sPI) (defScope sPI) .none kVI dcI pmI anI (.ref cda) ctI cc) :=
    ⟨⟨ocI, kVI, dcI, pmI, ctI, cclI, clI, odI, anI, cddI, cldI, slI, ccsI, cslI, cda, cc, vsI, file, tf, rfl, lI, dI, lD, hvs, hfile, lL⟩, TP, op, hsup, bV, mS, PySem.W.mg_none_of X G zsuper, htop, nl⟩
  have bI : Binds K (PySem.W.ksFn "__init__" "ParseError.__init__" (defArgs sPI) (defBody sPI) (defScope sPI) .none kVI dcI pmI anI (.ref cda) ctI cc) ["self", "line"] [] := .all (fun us hl => match us, hl with | [_, _], _ => rfl)
  have ne : ∀ (i : Nat) (C : Addr), ([c0, c1, c2, c3, c4, c5, c6, c7, c8, c9, c10, c11, c12, c13, c14, c15, c16, c17, c18, c19, c20])[i]? = some C → i ≠ 15 → C ≠ c15 := fun i C h hi e => by
    rw [e] at h
    have h15 : ([c0, c1, c2, c3, c4, c5, c6, c7, c8, c9, c10, c11, c12, c13, c14, c15, c16, c17, c18, c19, c20])[15]? = some c15 := rfl
    have g1 := List.getElem?_eq_some_iff.mp h
    have g2 := List.getElem?_eq_some_iff.mp h15
    obtain ⟨l1, e1⟩ := g1
    obtain ⟨l2, e2⟩ := g2
    exact hi ((List.getElem_inj hN).mp (e1.trans e2.symm))
  have LG : LawG K mg f1 f3 f5 f4 told c15 [c0, c1, c2, c3, c4, c5, c6, c7, c8, c9, c10, c11, c12, c13, c14, c15, c16, c17, c18, c19, c20] := ⟨PySem.W.mg_of X G a1, PySem.W.mg_of X G a3, PySem.W.mg_of X G a5, PySem.W.mg_of X G a4, k1, k3, k5, k4, PySem.W.mg_none_of X G zrange, PySem.W.mg_none_of X G zlen, PySem.W.mg_none_of X G zisinstance, PySem.W.mg_none_of X G zany, PySem.W.mg_none_of X G zbool, PySem.W.mg_none_of X G zValueError, PySem.W.mg_of X G qT, T, hN, rfl, hT, fun e => hT (by rw [e]; exact List.mem_of_getElem? (i := 15) rfl), rfl, nl⟩
  refine ⟨PySem.W.fnOf "law" "law" (defArgs sLaw) (defBody sLaw) (defScope sLaw) .none kV6 dc6 pm6 an6 cd6 ct6, fun s v => .of_eq rfl, fun base _ _ => ?_⟩
  have FN : FnOk l.prog w K mg base CX0 1 f2 _ ["pen"] spNext := ok_next F2 (PySem.W.mg_none_of X G zlen) (PySem.W.mg_none_of X G zint)
  exact ok_law F6 LG (ok_pen F1 (PySem.W.mg_none_of X G zlist)) b1 (ok_draw F3 (PySem.W.mg_none_of X G zint) FN b2 k2 (PySem.W.mg_of X G a2)) b3
    (ok_made F5 (PySem.W.mg_of X G q0) (PySem.W.mg_of X G q1) (PySem.W.mg_of X G q2) (PySem.W.mg_of X G q3) (PySem.W.mg_of X G q4) (PySem.W.mg_of X G q5) (PySem.W.mg_of X G q6) (PySem.W.mg_of X G q7) (PySem.W.mg_of X G q8) (PySem.W.mg_of X G q9) (PySem.W.mg_of X G q10) (PySem.W.mg_of X G q11) (PySem.W.mg_of X G q12) (PySem.W.mg_of X G q13) (PySem.W.mg_of X G q14) (PySem.W.mg_of X G q15) (PySem.W.mg_of X G q16) (PySem.W.mg_of X G q17) (PySem.W.mg_of X G q18) (PySem.W.mg_of X G q19) (PySem.W.mg_of X G q20) T (ne 0 _ rfl (by decide)) (ne 1 _ rfl (by decide)) (ne 2 _ rfl (by decide)) (ne 3 _ rfl (by decide)) (ne 4 _ rfl (by decide)) (ne 5 _ rfl (by decide)) (ne 6 _ rfl (by decide)) (ne 7 _ rfl (by decide)) (ne 8 _ rfl (by decide)) (ne 9 _ rfl (by decide)) (ne 10 _ rfl (by decide)) (ne 11 _ rfl (by decide)) (ne 12 _ rfl (by decide)) (ne 13 _ rfl (by decide)) (ne 14 _ rfl (by decide)) (ne 16 _ rfl (by decide)) (ne 17 _ rfl (by decide)) (ne 18 _ rfl (by decide)) (ne 19 _ rfl (by decide)) (ne 20 _ rfl (by decide)) TP iI tI (ok_pi PX) bI) b5 (ok_cls F4 (PySem.W.mg_none_of X G zisinstance) (PySem.W.mg_of X G q0) (PySem.W.mg_of X G q1) (PySem.W.mg_of X G q2) (PySem.W.mg_of X G q3) (PySem.W.mg_of X G q4) (PySem.W.mg_of X G q5) (PySem.W.mg_of X G q6) (PySem.W.mg_of X G q7) (PySem.W.mg_of X G q8) (PySem.W.mg_of X G q9) (PySem.W.mg_of X G q10) (PySem.W.mg_of X G q11) (PySem.W.mg_of X G q12) (PySem.W.mg_of X G q13) (PySem.W.mg_of X G q14) (PySem.W.mg_of X G q15) (PySem.W.mg_of X G q16) (PySem.W.mg_of X G q17) (PySem.W.mg_of X G q18) (PySem.W.mg_of X G q19) (PySem.W.mg_of X G q20) T) b4
theorem walk {l : PySem.W.OpenLaw} {q : Program} {loose : List Str} {XP : (Str → Option Value) → Heap → Prop} {YP : World → Heap → Prop} {d : DefRec} {K : Params → PySem.W.Frag} (hn : l.most = some 63) (hdf : d.params.defaults = [])
    (hY : ∀ (w : World) (h : Heap), YP w h → (K w.params).In h)
    (F : ∀ (w : World) (mg : Str → Option Value) (fa : Addr) (h : Heap), (K w.params).In h → h.Ns mainGlobals mg → mg d.name = some (.ref fa) →
      ∃ fd : FuncData, (∀ (s : Shared) (u : Value), BindsTo s fd ⟨[u], []⟩ [("script", u)]) ∧ ∀ base : Heap, (K w.params).In base → base.Ns mainGlobals mg → FnOk l.prog w (K w.params) mg base CX0 4 fa fd ["script"] (spLaw (K w.params))) :
    PySem.W.WalkO q loose XP YP l.row.toRowW d [] (fun f vs => PySem.call f vs) :=
  L2.walk_of (n := 63) (k := 4) (x := "script") (CX := fun _ => CX0) (sp := fun w => spLaw (K w.params)) hn (by decide) hdf ⟨rfl, by decide, by decide⟩ hY F (fun _ _ a ns hl _ hS => ⟨a, ns, rfl, hS, hl, fun _ => rfl⟩) fun _ _ _ _ _ z => z
end K45
set_option maxRecDepth 100000
open PySem PySem.W PyProof.Rows
set_option maxRecDepth 100000 in
set_option maxHeartbeats 0 in
theorem PySem.Challenge.cw_toldbyrest_k45_errors_holds : PySem.Challenge.rw_toldbyrest_k45_errors.Holds := by
  w_on; o_law; k_head; (case hw => w_witness2)
  k_fill
  refine K45.walk (l := PySem.Challenge.rw_toldbyrest_k45_errors) rfl rfl (fun w h Y => PySem.W.kIn_of Y) ?F
  case F =>
    intro w mg fa h KX G hmg
    refine' K45.all_mk KX G hmg ?a1 ?l1 ?d1 ?k1 ?a2 ?l2 ?d2 ?k2 ?a3 ?l3 ?d3 ?k3 ?a4 ?l4 ?d4 ?k4 ?a5 ?l5 ?d5 ?k5 ?a6 ?l6 ?d6 ?k6 ?q0 ?q1 ?q2 ?q3 ?q4 ?q5 ?q6 ?q7 ?q8 ?q9 ?q10 ?q11 ?q12 ?q13 ?q14 ?q15 ?q16 ?q17 ?q18 ?q19 ?q20 ?qT ?zlist ?zlen ?zint ?zisinstance ?zrange ?zany ?zbool ?zValueError ?zsuper ?lC ?vC ?sC ?eC ?tC ?kC ?iI ?tI ?lI ?dI ?lD ?lL ?nl ?bV ?mS ?op ?hvs ?hfile ?htop ?hsup ?hE ?hN ?hT
    (case a1 => k_is)
    (case l1 => k_is)
    (case d1 => k_is)
    (case k1 => k_is)
    (case a2 => k_is)
    (case l2 => k_is)
    (case d2 => k_is)
    (case k2 => k_is)
    (case a3 => k_is)
    (case l3 => k_is)
    (case d3 => k_is)
    (case k3 => k_is)
    (case a4 => k_is)
    (case l4 => k_is)
    (case d4 => k_is)
    (case k4 => k_is)
    (case a5 => k_is)
    (case l5 => k_is)
    (case d5 => k_is)
    (case k5 => k_is)
    (case a6 => k_is)
    (case l6 => k_is)
    (case d6 => k_is)
    (case k6 => k_is)
    (case q0 => k_is)
    (case q1 => k_is)
    (case q2 => k_is)
    (case q3 => k_is)
    (case q4 => k_is)
    (case q5 => k_is)
    (case q6 => k_is)
    (case q7 => k_is)
    (case q8 => k_is)
    (case q9 => k_is)
    (case q10 => k_is)
    (case q11 => k_is)
    (case q12 => k_is)
    (case q13 => k_is)
    (case q14 => k_is)
    (case q15 => k_is)
    (case q16 => k_is)
    (case q17 => k_is)
    (case q18 => k_is)
    (case q19 => k_is)
    (case q20 => k_is)
    (case qT => k_is)
    (case zlist => k_is)
    (case zlen => k_is)
    (case zint => k_is)
    (case zisinstance => k_is)
    (case zrange => k_is)
    (case zany => k_is)
    (case zbool => k_is)
    (case zValueError => k_is)
    (case zsuper => k_is)
    (case lC => k_is)
    (case vC => decide +kernel)
    (case sC => k_is)
    (case eC => k_is)
    (case tC => k_is)
    (case kC => k_is)
    (case iI => k_is)
    (case tI => k_is)
    (case lI => k_is)
    (case dI => k_is)
    (case lD => k_is)
    (case lL => k_is)
    (case nl => k_is)
    (case bV => k_is)
    (case mS => k_is)
    (case op => k_is)
    (case hvs => rfl)
    (case hfile => first | rfl | decide +kernel)
    (case htop => first | rfl | decide +kernel)
    (case hsup => first | ks_is | kernel_rfl)
    (case hE => kernel_rfl)
    (case hN => decide)
    (case hT => decide)
#print axioms PySem.Challenge.cw_toldbyrest_k45_errors_holds
