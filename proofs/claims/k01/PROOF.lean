import PyProof.Rows.All
import Wide.All
import OpenK.AllK
import Wide.FinOn
import HandS.ForMost
import HandS.Exc
import HandS.TryOnly
import HandS.ExcOwn
import HandS.ExcCtx
import HandS.HotCalls
import HandS.ExcIs
import HandS.IsInst
import HandS.SortInts
import HandS.More
import HandS.Evl
import HandS.Steps
import HandS.Flow
import HandS.FStr
import HandS.WordsExc
import HandS.HeadHook1
import KE.KStateDown
import HandS.Head0
import HandS.Head1
import HandS.Head2
import HandS.HeadEnd
import HandS.HeadHook2
import HandS.HeadHook3
import HandS.HeadHook4
import HandS.HeadNt
import HandS.HeadWalk
import PySem.Challenge.RW_legseats_k01_a_new_train
set_option Elab.async false
set_option linter.all false
set_option maxRecDepth 100000
/-! The ground: what every law of the set leans on. -/
namespace Leg
open PySem PySem.Spec PyProof.Rows L2
abbrev HStore := L2.Hp

/-! ### errors that leave a def, with an empty context -/
abbrev CN (P : Program) (w : World) : CXT := L2N.CX P w
theorem passN {X : Cx} : Passes (CN X.prog X.w) X E0 := by
  intro pins σ H s e s' I c
  obtain ⟨_, _, _, _, _, _, _, _, _, _, _, _, z⟩ := c
  exact z.elim
theorem takesNone {X : Cx} : L2N.Takes X (fun _ _ _ _ => False) := by
  intro u s' x
  obtain ⟨_, _, _, _, _, _, _, _, _, _, _, _, _, _, _, _, z⟩ := x
  exact z.elim
/-- a def of the text that may let an error out -/
theorem okN {P : Program} {w : World} {K : PySem.W.Frag} {mg : Str → Option Value} {base : Heap} {nm ql : Str} {st : Stmt} {f : Addr} {fd : FuncData} {N ps : List Str} {k : Nat} {sp : Sp} (F : Fun K nm ql st f fd)
    (S : FnScope N ps (defScope st)) (len : ∀ vs H Q E, sp vs H Q E → vs.length = ps.length)
    (body : ∀ (cdv : Value) (A : Around) (outer : List Env) (s : Shared) (H : Hp) (vs : List V) (Q : VK) (E : XK), Room k (A.deeper (envOfC ql (defScope st) s.heap.objs.size f cdv)) → sp vs H Q E →
      ∃ t, PSs (cxOf (CN P w) P w K mg base N ql (defScope st) f cdv A outer s H E) (defBody st) t ∧ t { nx := fun _ H1 => Q .non H1, rt := Q } (start N vs) H) :
    FnOk P w K mg base (CN P w) (k + 1) f fd ps sp := by
  obtain ⟨oc, od, kV, doc, pm, an, cdv, ct, osl, e, lk, hcd⟩ := F.ex
  subst e
  exact fn_of lk hcd S len fun A outer s H vs Q E hr h => body cdv A outer s H vs Q E hr h

/-! ### calls whose error is wished for at the caller's slots -/
def tMethT (C : Addr) (m : Str) (sp : Sp) (E : L2.St → XK) (ta : TE) (t : TA) : TE := fun σ H Q =>
  ta σ H fun x H1 => ∃ a dx fs, x = .ref a ∧ H1 a = some (.ins C dx fs) ∧ fs.lookup m = none ∧ t σ H1 fun vs H2 => sp (x :: vs) H2 Q (E σ)
def tMakeT (C : Addr) (sp : Sp) (E : L2.St → XK) (t : TA) : TE := fun σ H Q => t σ H fun vs H1 => ∀ x dx, H1 x = none → H1 dx = none → dx ≠ x →
  sp (.ref x :: vs) (upd (upd H1 dx (.own x)) x (.ins C dx [])) (fun v H2 => v = .non ∧ Q (.ref x) H2) (E σ)
section
variable {X : Cx} {CX : CXT} {k : Nat} {f C : Addr} {fd : FuncData} {ps : List Str} {sp : Sp} {E : L2.St → XK} {x m : Str} {q pos apos : Pos} {e o : Expr} {es : List Expr} {ta : TE} {t : TA}
theorem pe_methT {pl : Sem Bool} (he : PE X o ta) (c : Cls X.K C) (hm : Meth X.K C m f) (F : FnOk X.prog X.w X.K X.mg X.base CX k f fd ps sp) (hr : Room k X.A) (hb : Binds X.K fd ps []) (hx : ∀ σ, PassesAt CX X σ (E σ)) (ha : PA X (e :: es) t)
    (h1 : starEach (e :: es) X.env = (false, eval e X.env) :: starEach es X.env := by rfl) (h2 : (backTo pos (starEach es X.env)).any (·.1) = false := by rfl)
    (h3 : eval (.Call (.Attribute o m apos) (e :: es) [] pos) X.env = (do
      let ov ← eval o X.env
      standAt apos.atName
      let (g, first) ← holding [ov] (getMethod ov m pl)
      callWith pos g first (backTo pos (starEach (e :: es) X.env)) (backToKw pos (keywordEach [] X.env))) := by rfl) :
    PE X (.Call (.Attribute o m apos) (e :: es) [] pos) (tMethT C m sp E ta t) := by
  refine ⟨fun pins s σ H Q I h => ?_⟩
  refine PySem.W.methodCall_KW (pl := pl) (thn (he.run pins s σ H _ I h) fun u s1 hu => ?_) h3
  obtain ⟨xv, H1, I1, rx, a, dx, fs, ex, ea, l, g⟩ := hu
  subst ex
  obtain rfl : u = Value.ref a := rx
  refine getmeth_ok I1 ea c hm l ?_
  refine PySem.W.callWith_K (first := [.ref a]) (h₀ := X.base) I.ok.mod.kin hm.kp (thn (ha.run pos pins s1 σ H1 _ I1 g) fun us s2 hv => ?_) h1 h2
  obtain ⟨vs, H2, I2, r, g2⟩ := hv
  exact ⟨I2.kIn, run_fnS (us := .ref a :: us) (vs := .ref a :: vs) F hr hb (hx σ) I2 (.cons rfl r) g2⟩
theorem run_makeT {pins : List (Addr × Obj)} {σ : L2.St} {H : Hp} {s : Shared} {Q : VK} {us : List Value} {vs : List V} (M : Mk X.K C f) (F : FnOk X.prog X.w X.K X.mg X.base CX k f fd ps sp) (hr : Room (k + 1) X.A) (hb : Binds X.K fd ps [])
    (hx : PassesAt CX X σ (E σ)) (I : Inv X pins σ H s) (r : Vals vs us)
    (h : ∀ x dx, H x = none → H dx = none → dx ≠ x → sp (.ref x :: vs) (upd (upd H dx (.own x)) x (.ins C dx [])) (fun v H2 => v = .non ∧ Q (.ref x) H2) (E σ)) :
    wpAny (model X.prog X.w) X.A (call (.ref C) us) (EP X pins σ Q) X.xe s := by
  have h0 := h (s.heap.objs.size + 1) s.heap.objs.size (I.hok.fresh (Nat.le_succ _)) (I.hok.fresh (Nat.le_refl _)) (Nat.ne_of_lt (Nat.lt_succ_self _))
  have J := Inv.made (C := C) I
  have rr : Vals (V.ref (s.heap.objs.size + 1) :: vs) (Value.ref (s.heap.objs.size + 1) :: us) := .cons rfl r
  have hl : (Value.ref (s.heap.objs.size + 1) :: us).length = ps.length := by
    have e1 := rr.length
    rw [F.len _ _ _ _ h0] at e1
    exact e1.symm
  have b := hb _ (Value.ref (s.heap.objs.size + 1) :: us) J.kIn (by rw [List.append_nil]; exact hl)
  rw [List.append_nil] at b
  refine wpAny_call (make_map (f := f) I.kIn M.makes M.init (beq_iff_eq.mp M.fn) (codeAny_mono (F.run _ X.stack _ _ ⟨Value.ref (s.heap.objs.size + 1) :: us, []⟩ _ _ _ (E σ) (hr.make C us [])
    (J.env0.make C us []) b rr h0) fun r s' hq => ?_))
  cases r with
  | error e => exact hx pins _ _ e s' J hq
  | ok fl =>
    cases fl with
    | ret u =>
      obtain ⟨v, H', I3, rv, ev, q3⟩ := J.after hq
      subst ev
      exact ⟨rv, V.ref (s.heap.objs.size + 1), H', I3, rfl, q3⟩
    | next => exact False.elim hq
    | brk => exact False.elim hq
    | cont => exact False.elim hq
theorem pe_makeT (M : Mk X.K C f) (F : FnOk X.prog X.w X.K X.mg X.base CX k f fd ps sp) (hr : Room (k + 1) X.A) (hg : Gl X x) (hm : X.mg x = some (.ref C)) (hb : Binds X.K fd ps []) (hx : ∀ σ, PassesAt CX X σ (E σ))
    (ha : PA X (e :: es) t) (hdb : (x == ("__debug__" : Str)) = false := by decide) (h1 : starEach (e :: es) X.env = (false, eval e X.env) :: starEach es X.env := by rfl) (h2 : (backTo pos (starEach es X.env)).any (·.1) = false := by rfl) :
    PE X (.Call (.Name x q) (e :: es) [] pos) (tMakeT C sp E t) := by
  refine ⟨fun pins s σ H Q I h => ?_⟩
  refine wpAny_Call_Name_kw (ld_glob I hg hm ?_ hdb)
  refine PySem.W.callWith_K (h₀ := X.base) I.ok.mod.kin M.kp (thn (ha.run pos pins s σ H _ I h) fun us s1 hv => ?_) h1 h2
  obtain ⟨vs, H1, I1, r, g⟩ := hv
  exact ⟨I1.kIn, run_makeT M F hr hb (hx σ) I1 r g⟩
end

/-! ### a def that is called with the error in hand -/
/-- the def's only parameter is the error that is handled, an instance of the class at D; z comes out, the heap may grow -/
structure FnE (P : Program) (w : World) (K : PySem.W.Frag) (mg : Str → Option Value) (base : Heap) (k : Nat) (f : Addr) (fd : FuncData) (y : Str) (D : Addr) (z : V) : Prop where
  run : ∀ (A : Around) (outer : List Env) (s : Shared) (H : Hp) (args : Args) (p : Addr × Obj) (Q : VK), L2H.RoomH k A → L2H.Hot1 A p → L2H.PinOk outer H s p → Zc (.ref D) none p.2 → Env0 P w K mg base A outer s H → BindsTo s fd args [(y, .ref p.1)] →
    (∀ H1, Evl.Ex H H1 → Q z H1) → codeAny (model P w) A (.call (.ref f) args) (CR CX0 outer P w H s Q E0) s
theorem fnE_of {P : Program} {w : World} {K : PySem.W.Frag} {mg : Str → Option Value} {base : Heap} {k : Nat} {f D : Addr} {nm ql y : Str} {st : Stmt} {fd : FuncData} {N : List Str} {z : V} (F : Fun K nm ql st f fd) (S : FnScope N [y] (defScope st))
    (body : ∀ (cdv : Value) (A : Around) (outer : List Env) (s : Shared) (H : Hp) (p : Addr × Obj) (Q : VK), L2H.RoomH k (A.deeper (envOfC ql (defScope st) s.heap.objs.size f cdv)) → Zc (.ref D) none p.2 → (∃ vs, p.2.data = .fields vs) → (∀ H1, Evl.Ex H H1 → Q z H1) →
      ∃ t, PSs (L2H.cxH CX0 P w K mg base N ql (defScope st) f cdv A outer s H E0 p).nox (defBody st) t ∧ t { nx := fun _ H1 => Q .non H1, rt := Q } (start N [.ref p.1]) H) : FnE P w K mg base (k + 1) f fd y D z := by
  obtain ⟨oc, od, kV, doc, pm, an, cdv, ct, osl, e, lk, hcd⟩ := F.ex
  subst e
  refine ⟨fun A outer s H args p Q hr hot hpin hz e0 hb hq => ?_⟩
  have KX : K.In s.heap := e0.mod.kin.keeps fun b o e => (e0.bs b o e).1
  have lim : s.heap.NoLimit := e0.mod.nolimit.keeps fun b o e => (e0.bs b o e).1
  have hkind : ∀ v ∈ [(y, Value.ref p.1)], (defScope st).names.lookup v.1 = some .local ∨ ((defScope st).names.lookup v.1 = some .cell ∧ ((cellsFrom (s.heap.objs.size + 1) (defScope st).names []).lookup v.1).isSome = true) := by
    intro v hv
    have ev : v = (y, Value.ref p.1) := by simpa using hv
    subst ev
    rcases S.par y (by simp) with a | a
    · exact .inl a
    · exact .inr ⟨a, PySem.W.cellsFrom_some _ _ _ (.inl a)⟩
  have hvs : ∃ vs, p.2.data = .fields vs := let ⟨_, vs, e, _⟩ := hot; ⟨vs, e⟩
  refine codeAny_call_function hr.depth (KX _ _ lk) rfl S.co S.gen rfl (PySem.W.codeRec_of KX hcd) (hb _ _ _ _ ?_)
  refine wpAny_newFunctionEnv_cells S.kind hkind fun env he s1 x => ?_
  subst he
  refine ⟨lim.keeps x.toInCall.keep, codeAny_func ?_⟩
  obtain ⟨t, ht, g⟩ := body cdv A outer s H p Q (hr.deeper _) hz hvs hq
  have I : Inv (L2H.cxH CX0 P w K mg base N ql (defScope st) f cdv A outer s H E0 p) [] (start N [.ref p.1]) H s1 := L2H.inv_startH (us := [.ref p.1]) S hpin e0 rfl (.cons rfl .nil) x
  refine wpAny_mono (ht.nox.run [] s1 _ H _ I g) (fun fl s' hs => ?_) fun e s' hs => hs
  cases fl with
  | ret u =>
    obtain ⟨v, σ1, H1, J, rv, g1⟩ := hs
    exact ⟨v, H1, J.os, J.bare, J.base, J.hok, rv, g1⟩
  | next =>
    obtain ⟨σ1, H1, J, g1⟩ := hs
    exact ⟨.non, H1, J.os, J.bare, J.base, J.hok, rfl, g1⟩
  | brk =>
    obtain ⟨_, _, _, g1⟩ := hs
    exact g1.elim
  | cont =>
    obtain ⟨_, _, _, g1⟩ := hs
    exact g1.elim
/-- f(e), e the error that the suite holds at a: what comes out is told by its class -/
def tCallE (K : PySem.W.Frag) (hs : List Str) (zw : Str → V) (a : Addr) (cls : Value) (d : Option Addr) (te : TE) : TE := fun σ H Q => te σ H fun v H1 => v = .ref a ∧ ∃ x ∈ hs, cls = .ref (He.ga K x) ∧ d = none ∧ ∀ H2, Evl.Ex H1 H2 → Q (zw x) H2
theorem pe_callE {X : Cx} {k : Nat} {f a : Addr} {oe : Obj} {cls : Value} {d : Option Addr} {pn : List (Addr × Obj)} {hs : List Str} {zw : Str → V} {x y : Str} {q pos : Pos} {e : Expr} {te : TE}
    (G : ∀ z ∈ hs, ∃ fd, FnE X.prog X.w X.K X.mg X.base k f fd y (He.ga X.K z) (zw z) ∧ Binds X.K fd [y] [] ∧ PySem.W.keepIn X.K (.ref f) = true)
    (hr : Room k X.A) (hz : L2N.Zn cls d oe) (hf : ∃ vs, oe.data = .fields vs) (hg : Gl X x) (hm : X.mg x = some (.ref f)) (hk : PySem.W.keepIn X.K (.ref f) = true) (he : PE (X.suite a ((a, oe) :: pn)) e te)
    (hdb : (x == ("__debug__" : Str)) = false := by decide) (h1 : starEach [e] X.env = (false, eval e X.env) :: starEach [] X.env := by rfl) :
    PE (X.suite a ((a, oe) :: pn)) (.Call (.Name x q) [e] [] pos) (tCallE X.K hs zw a cls d te) := by
  refine ⟨fun pins s σ H Q I h => ?_⟩
  refine wpAny_Call_Name_kw (ld_glob (X := X.suite a ((a, oe) :: pn)) I hg hm ?_ hdb)
  have hpa : PA (X.suite a ((a, oe) :: pn)) [e] (tCons te tNil) := pa_cons he pa_nil h1
  refine PySem.W.callWith_K (h₀ := X.base) I.ok.mod.kin hk (thn (hpa.run pos pins s σ H (fun vs H1 => vs = [V.ref a] ∧ ∃ x ∈ hs, cls = .ref (He.ga X.K x) ∧ d = none ∧ ∀ H2, Evl.Ex H1 H2 → Q (zw x) H2) I ?_) fun us s1 hv => ?_) h1 rfl
  · have g : te σ H fun v H1 => v = .ref a ∧ ∃ x ∈ hs, cls = .ref (He.ga X.K x) ∧ d = none ∧ ∀ H2, Evl.Ex H1 H2 → Q (zw x) H2 := h
    refine (?_ : te σ H fun v H1 => [v] = [V.ref a] ∧ ∃ x ∈ hs, cls = .ref (He.ga X.K x) ∧ d = none ∧ ∀ H2, Evl.Ex H1 H2 → Q (zw x) H2)
    have e1 : (fun (v : V) (H1 : Hp) => v = V.ref a ∧ ∃ x ∈ hs, cls = .ref (He.ga X.K x) ∧ d = none ∧ ∀ H2, Evl.Ex H1 H2 → Q (zw x) H2) = fun v H1 => [v] = [V.ref a] ∧ ∃ x ∈ hs, cls = .ref (He.ga X.K x) ∧ d = none ∧ ∀ H2, Evl.Ex H1 H2 → Q (zw x) H2 := by
      funext v H1
      simp
    rw [← e1]
    exact g
  · obtain ⟨vs, H1, I1, r, ev, z, hz1, ec, ed, g⟩ := hv
    subst ev ec ed
    obtain ⟨fd, F, hb, _⟩ := G z hz1
    refine ⟨I1.kIn, ?_⟩
    cases r with
    | cons r0 rn =>
      cases rn
      cases r0
      obtain ⟨vs, hvs⟩ := hf
      have P1 := I1.pin (a, oe) (List.mem_append_left _ List.mem_cons_self)
      have hpin : L2H.PinOk X.stack H1 s1 (a, oe) := ⟨P1.1, P1.2.1, fun hm => (List.mem_cons.mp (I1.stkSub a hm)).elim P1.2.2.1 P1.2.2.2.1, P1.2.2.2.2⟩
      have b := hb s1 [.ref a] I1.kIn rfl
      have hot : L2H.Hot1 (X.A.mark (some (.ref a))) (a, oe) := ⟨rfl, vs, hvs, hz.2.2 vs hvs⟩
      refine wpAny_call (codeAny_mono (F.run (X.A.mark (some (.ref a))) X.stack s1 H1 ⟨[.ref a], []⟩ (a, oe) Q ⟨hr.dp, hr.un⟩ hot hpin hz.zc I1.env0 b g) fun r s' hq => ?_)
      cases r with
      | error e => exact hq.elim
      | ok fl =>
        cases fl with
        | ret u => exact I1.after hq
        | next => exact hq.elim
        | brk => exact hq.elim
        | cont => exact hq.elim
/-- isinstance(e, c) in such a def -/
theorem call_isP {X : Cx} {D : Addr} {p : Addr × Obj} (C : ExcC X.K D) (hz : Zc (.ref D) none p.2) (hf : ∃ vs, p.2.data = .fields vs) (hp : p ∈ X.pn) : CallR X (.builtin "isinstance") (rIsE X.K D p.1) := by
  intro pins s σ H xs us Q I r h
  obtain ⟨c, cv, b, rfl, hcv, e, g⟩ := h
  cases r with
  | cons rx rr =>
    cases rr with
    | cons rt rr =>
      cases rr
      cases rx
      have ec := hcv _ rt
      subst ec
      obtain ⟨hget, _⟩ := I.pin p (List.mem_append.mpr (.inl hp))
      obtain ⟨vs, hv⟩ := hf
      have J : PySem.W.InstAt s.heap p.1 p.2 D none := by
        obtain ⟨pa, oc, od, oda, osl⟩ := p
        obtain ⟨z1, z2⟩ := hz
        dsimp only at z1 z2 hv hget ⊢
        subst z1 z2 hv
        exact ⟨hget, rfl, rfl, trivial⟩
      exact PySem.W.kia_one (PySem.W.handS_kitx_exc C.hg C.hk C.hs C.hd C.ha C.hn C.ht C.hm) I.kIn J e (fun z => nomatch z) fun tk => ⟨.bl b, H, I.kept (t' := tk) fun _ _ z => z, rfl, g⟩
end Leg

/-! ### a comparison of four -/
namespace Leg
open PySem PySem.Spec PyProof.Rows L2
def tChain3 (r1 r2 r3 : R2) (ta tb tc td : TE) : TT := fun σ H Q => ta σ H fun x H1 => tb σ H1 fun y H2 => r1 x y H2 fun z H3 => ∃ k, z = .bl k ∧
  (if k = true then tc σ H3 fun u H4 => r2 y u H4 fun z2 H5 => ∃ k2, z2 = .bl k2 ∧ (if k2 = true then td σ H5 fun v H6 => r3 u v H6 fun z3 H7 => ∃ k3, z3 = .bl k3 ∧ Q k3 H7 else Q false H5) else Q false H3)
theorem pt_chain3 {X : Cx} {a b c d : Expr} {ta tb tc td : TE} {pos : Pos} {o1 o2 o3 : CmpOp} {r1 r2 r3 : R2} (h1 : OpR X (compareOp o1) r1) (h2 : OpR X (compareOp o2) r2) (h3 : OpR X (compareOp o3) r3) (ha : PE X a ta) (hb : PE X b tb) (hc : PE X c tc) (hd : PE X d td)
    (hm : lastMarks [o1, o2, o3] [b, c, d] = false := by with_unfolding_all rfl) : PT X (.Compare a [o1, o2, o3] [b, c, d] pos) (tChain3 r1 r2 r3 ta tb tc td) := by
  refine ⟨fun pins s σ H Q I h => ?_⟩
  refine isTrue_chain (thn (ha.run pins s σ H _ I h) fun v s1 ⟨x, H1, I1, x1, q1⟩ => test_link (thn (hb.run pins s1 σ H1 _ I1 q1) fun u s2 ⟨y, H2, I2, x2, q2⟩ =>
    thn (h1 pins s2 σ H2 x y v u _ I2 x1 x2 q2) fun d1 s3 ⟨z, H3, I3, x3, k, e, q3⟩ => ?_)) hm
  subst e
  cases x3
  refine wpAny_truthy_bool ?_
  cases k with
  | false => exact ite_ff ⟨H3, I3, q3⟩
  | true =>
    refine ite_tt (test_link (thn (hc.run pins s3 σ H3 _ I3 q3) fun w' s4 ⟨z', H4, I4, x4, q4⟩ => thn (h2 pins s4 σ H4 y z' u w' _ I4 x2 x4 q4) fun d2 s5 ⟨z2, H5, I5, x5, k2, e2, q5⟩ => ?_))
    subst e2
    cases x5
    refine wpAny_truthy_bool ?_
    cases k2 with
    | false => exact ite_ff ⟨H5, I5, q5⟩
    | true =>
      refine ite_tt (test_last (thn (hd.run pins s5 σ H5 _ I5 q5) fun w2 s6 ⟨z4, H6, I6, x6, q6⟩ => thn (h3 pins s6 σ H6 z' z4 w' w2 _ I6 x4 x6 q6) fun d3 s7 ⟨z5, H7, I7, x7, k3, e3, q7⟩ => ?_))
      subst e3
      cases x7
      exact wpAny_truthy_bool ⟨H7, I7, q7⟩
/-- a def of the text at f that keeps its promise, whose parameters bind, that stays -/
def Good (P : Program) (w : World) (K : PySem.W.Frag) (mg : Str → Option Value) (base : Heap) (CX : CXT) (k : Nat) (f : Addr) (ps : List Str) (sp : Sp) : Prop :=
  ∃ fd : FuncData, FnOk P w K mg base CX k f fd ps sp ∧ Binds K fd ps [] ∧ PySem.W.keepIn K (.ref f) = true
end Leg

/-! ### sorted(d), int keys, any number of them -/
namespace Leg
open PySem PySem.Spec PyProof.Rows L2
def rSortD : List V → Hp → VK → Prop := fun vs H Q => ∃ (a : Addr) (es : List (Key × V)) (ns : List Int), vs = [.ref a] ∧ Rd H a (.dK es) ∧ es.map (·.1) = ns.map Sum.inl ∧
  ∀ (ms : List Int) (b : Addr), ms.Perm ns → ms.Pairwise (· ≤ ·) → H b = none → Q (.ref b) (upd H b (.lst (ms.map V.int)))
theorem cr_sortD {X : Cx} (hc : X.calm = true) : CallR X (.builtin "sorted") rSortD := by
  intro pins s σ H vs us Q I r g
  obtain ⟨a, es, ns, rfl, hd, hk, g⟩ := g
  obtain ⟨u, rfl, ru⟩ := vals1 r
  cases ru
  obtain ⟨z, lo, ws, rel, dd⟩ := dk_rd I.hok hd
  obtain ⟨ep, at_⟩ := dd.dictAt
  have keys : ws.map (·.1) = ns.map Sum.inl := rel.keys.symm.trans hk
  have len : ws.length = ns.length := by
    have c := congrArg List.length keys
    rwa [List.length_map, List.length_map] at c
  have lz : ws.length ≤ sizeLine := by
    have c := congrArg List.length hk
    rw [List.length_map, List.length_map] at c
    rw [len, ← c]
    exact z
  refine Calls.call_function_entry kind_sorted plain_sorted entry_sorted (args_sorted1 _) ?_
  unfold Builtin.«sorted»
  refine wpAny_bind (m := checkCount "sorted" 1 1 _) (wpAny_pure ?_)
  refine wpAny_bind (PySem.W.kdu_collect (A := X.A.in1) (PySem.W.kdl_dict (knd := mixKind X.prog X.w) (kvs := ws) (ep := ep) lo) (I.ok.hd hc) at_ lz fun h1 tk acc kp hacc => ?_)
  have accl : acc.toList.length = ns.length := by rw [Array.length_toList, hacc.1, len]
  have isI : IntsAre acc.toList ns := ints_each accl fun j v e => by
    obtain ⟨k, y, e1, e2⟩ := hacc.2 j v (by rw [← Array.getElem?_toList]; exact e)
    have e3 : (ws.map (·.1))[j]? = some k := by
      rw [List.getElem?_map, e1]
      rfl
    rw [keys, List.getElem?_map] at e3
    obtain ⟨i, hi, ei⟩ := Option.map_eq_some_iff.mp e3
    subst ei
    rcases keyIs_shape (show keyIs (Sum.inl i) v = true from e2) with ⟨m, t, ek, ev⟩ | ⟨m, t, ek, ev⟩
    · cases ek
      exact ⟨i, t, hi, ev⟩
    · cases ek
  have J : Inv X pins σ H { s with heap := h1, toks := tk } := I.kept kp
  have alz : acc.toList.length ≤ sizeLine := by
    rw [accl, ← len]
    exact lz
  refine wpAny_bind (wpAny_newList ?_ alz)
  have hoL : (h1.push (seqObj "list" acc.toList.toArray 0)).get? h1.objs.size = some (seqObj "list" acc.toList.toArray 0) := Heap.get?_push_size _ rfl
  show wpAny _ _ _ _ _ { s with heap := h1.push (seqObj "list" acc.toList.toArray 0), toks := tk }
  refine wpAny_bind (wpAny_holding (wpAny_call_entry slot_list_sort ⟨_, hoL, rfl⟩ entry_list_sort (SrtO.list_sort_ord (s := { s with heap := h1.push (seqObj "list" acc.toList.toArray 0), toks := tk }) SrtO.swo_int hoL alz
    (fun h2 => SrtO.ints_sortable isI h2) fun out o1 o2 => ⟨_, rfl, ?_⟩) (args_list_sort _)))
  obtain ⟨k1, k2, k3⟩ := SrtO.ints_out isI o1 o2
  obtain ⟨e1, he1⟩ := PyProof.Rows.sortedHeap_at (vs := acc.toList) (out := out.toArray) hoL
  have lo2 : ((out.map SrtO.iv).map V.int).length ≤ sizeLine := by
    rw [List.length_map, k2.length_eq, ← len]
    exact lz
  refine wpAny_pure ⟨_, rfl, .ref h1.objs.size, upd H h1.objs.size (.lst ((out.map SrtO.iv).map V.int)), J.laid (t' := tk) (fun b u e => ?_) (Nat.le_refl _)
    (show ObjOk X.prog X.w _ _ _ (.lst ((out.map SrtO.iv).map V.int)) from ⟨lo2, out, e1, vals_of_ints k1, he1⟩), rfl, g _ _ k2 k3 (J.hok.fresh (Nat.le_refl _))⟩
  have lt : b < h1.objs.size := Heap.lt_size e
  rw [PyProof.Rows.sortedHeap_old (Nat.ne_of_lt lt) (by rw [size_push']; exact Nat.lt_succ_of_lt lt)]
  exact Heap.get?_push_of_some _ e
end Leg
namespace Leg
open PySem PySem.Spec PyProof.Rows L2
/-- X(e): an own error with one argument of any form -/
theorem pmk_one {X : Cx} {C : Addr} {bmB : List Value} {B newId initId : String} {x : Str} {e : Expr} {ta : TE} {p pos : Pos} (F : ExcBaseFacts B newId initId bmB) (q : PySem.W.excIn X.K C bmB newId = true) (gC : X.mg x = some (.ref C)) (kC : PySem.W.keepIn X.K (.ref C) = true)
    (r : Raises X (.ref C)) (hg : Gl X x) (he : PE X e ta) (h1 : starEach [e] X.env = (false, eval e X.env) :: starEach [] X.env := by rfl) (hdb : (x == ("__debug__" : Str)) = false := by decide) :
    L2N.PMk X (.Call (.Name x p) [e] [] pos) (fun σ H Q => ta σ H fun _ H1 => Q (.ref C) none H1) := by
  intro pins s σ H Q I h
  have hpa : PA X [e] (tCons ta tNil) := pa_cons he pa_nil h1
  refine wpAny_Call_Name_kw (ld_glob I hg gC ?_ hdb)
  refine PySem.W.callWith_K (h₀ := X.base) I.ok.mod.kin kC (thn (hpa.run pos pins s σ H (fun vs H1 => (∃ v, vs = [v]) ∧ Q (.ref C) none H1) I ?_) fun us s1 hv => ?_) h1 (by rfl)
  · have g : ta σ H fun _ H1 => Q (.ref C) none H1 := h
    refine (?_ : ta σ H fun v H1 => (∃ u, [v] = [u]) ∧ Q (.ref C) none H1)
    have e1 : (fun (_ : V) (H1 : Hp) => Q (.ref C) none H1) = fun v H1 => (∃ u, [v] = [u]) ∧ Q (.ref C) none H1 := by
      funext v H1
      simp
    rw [← e1]
    exact g
  · obtain ⟨vs, H1, I1, r1, ⟨v, ev⟩, g⟩ := hv
    subst ev
    refine ⟨I1.kIn, ?_⟩
    cases r1 with
    | cons ru rn =>
      cases rn
      obtain ⟨bm, N, nm, qn, bs, hdct, sn, sub, ab, col, dd, k0, k1, k2, k3, k5, mN, hC, hN, hni, T⟩ := exc_obj I1.kIn q
      show wpAny _ _ (call (.ref C) [_]) _ _ _
      refine wpAny_call_exc_subT F T hC hN hni (fun h2 e2 hm => ?_) ?_
      · exact L2N.mk_of I1 hm r g (I1.hok.gone hm.new)
      · show 1 ≤ sizeLine
        decide
end Leg
namespace Leg
open PySem PySem.Spec PyProof.Rows L2
/-- what isinstance wants of an error's class -/
def excB (K : PySem.W.Frag) (x : Str) : Bool :=
  He.eqO (PySem.W.findIn K (.ref (He.ga K x)) "__getattribute__") (some (some (.builtin "BaseException.__getattribute__"))) && (He.eqO (PySem.W.findIn K (.ref (He.ga K x)) "__getattr__") (some none) &&
  (decide (PySem.W.subIn K (.ref (He.ga K x)) (.type "BaseException") = some true) && (PySem.W.hasDictIn K (He.ga K x) && (He.eqO (PySem.W.findIn K (.ref (He.ga K x)) "__class__") (some (some (.builtin "object.__class__"))) &&
  (He.eqO (PySem.W.specialIn K (.builtin "object.__class__") "__get__") (some (some (.builtin "getset_descriptor.__get__"))) && (decide (PySem.W.takesIn K (.builtin "object.__class__") = some true) && decide (PySem.W.mroIn K (He.ga K x) (.type "object") = some true)))))))
theorem excB_ok {K : PySem.W.Frag} {x : Str} (h : excB K x = true) : ExcC K (He.ga K x) := by
  obtain ⟨h1, h⟩ := He.ba h
  obtain ⟨h2, h⟩ := He.ba h
  obtain ⟨h3, h⟩ := He.ba h
  obtain ⟨h4, h⟩ := He.ba h
  obtain ⟨h5, h⟩ := He.ba h
  obtain ⟨h6, h⟩ := He.ba h
  obtain ⟨h7, h8⟩ := He.ba h
  exact ⟨He.eqO_ok h1, He.eqO_ok h2, of_decide_eq_true h3, h4, He.eqO_ok h5, He.eqO_ok h6, of_decide_eq_true h7, of_decide_eq_true h8⟩
/-- isinstance of an error of class x, asked for each of the classes cs and for ValueError -/
def kitB1 (K : PySem.W.Frag) (cs : List Str) (x : Str) : Bool :=
  (cs.all fun y => decide (PySem.W.kitOne K (.ref (He.ga K x)) (.ref (He.ga K y)) = some (decide (y = x)))) && decide (PySem.W.kitOne K (.ref (He.ga K x)) (.type "ValueError") = some true)
def hotB (cs ds : List Str) (K : PySem.W.Frag) : Bool := ds.all fun x => excB K x && kitB1 K cs x
structure HotF (K : PySem.W.Frag) (cs : List Str) (x : Str) : Prop where
  c : ExcC K (He.ga K x)
  k : ∀ y ∈ cs, PySem.W.kitOne K (.ref (He.ga K x)) (.ref (He.ga K y)) = some (decide (y = x))
  v : PySem.W.kitOne K (.ref (He.ga K x)) (.type "ValueError") = some true
theorem hotB_ok {cs ds : List Str} {K : PySem.W.Frag} (h : hotB cs ds K = true) {x : Str} (hx : x ∈ ds) : HotF K cs x := by
  obtain ⟨h1, h2⟩ := He.ba (List.all_eq_true.mp h x hx)
  obtain ⟨h3, h4⟩ := He.ba h2
  exact ⟨excB_ok h1, fun y hy => of_decide_eq_true (List.all_eq_true.mp h3 y hy), of_decide_eq_true h4⟩
end Leg
/-! The mathematics of a train: rows of legs, parts, what is found. No Python here. -/
namespace Leg
abbrev Row := List (Option Int)
abbrev Grid := List Row
abbrev Part := Nat × Nat × Nat
/-! ### a row -/
/-- how far a row is free from a stop on -/
def reach (r : Row) (s : Nat) : Nat := s + ((r.drop s).takeWhile (·.isNone)).length
theorem reach_ge (r : Row) (s : Nat) : s ≤ reach r s := Nat.le_add_right _ _
theorem reach_le {r : Row} {s : Nat} (h : s ≤ r.length) : reach r s ≤ r.length := by
  have q := (List.takeWhile_prefix (p := fun x : Option Int => x.isNone) (l := r.drop s)).length_le
  rw [List.length_drop] at q
  unfold reach
  omega
theorem reach_end {r : Row} {s : Nat} (h : r.length ≤ s) : reach r s = s := by
  unfold reach
  rw [List.drop_eq_nil_of_le h]
  rfl
theorem reach_held {r : Row} {s : Nat} {k : Int} (h : r[s]? = some (some k)) : reach r s = s := by
  obtain ⟨hs, e⟩ := List.getElem?_eq_some_iff.mp h
  unfold reach
  rw [List.drop_eq_getElem_cons hs, e, List.takeWhile_cons_of_neg (by simp)]
  rfl
theorem reach_free {r : Row} {s : Nat} (h : r[s]? = some none) : reach r s = reach r (s + 1) := by
  obtain ⟨hs, e⟩ := List.getElem?_eq_some_iff.mp h
  unfold reach
  rw [List.drop_eq_getElem_cons hs, e, List.takeWhile_cons_of_pos (by simp), List.length_cons]
  omega
theorem reach_gt {r : Row} {s : Nat} (h : r[s]? = some none) : s < reach r s := by
  rw [reach_free h]
  exact reach_ge r (s + 1)
/-- what lies between is free -/
theorem reach_all {r : Row} : ∀ {n s l : Nat}, r.length - s = n → s ≤ l → l < reach r s → r[l]? = some none := by
  intro n
  induction n with
  | zero =>
    intro s l hn h1 h2
    rw [reach_end (by omega)] at h2
    omega
  | succ n ih =>
    intro s l hn h1 h2
    have hs : s < r.length := by omega
    cases e : r[s] with
    | some k =>
      rw [reach_held (k := k) (by rw [List.getElem?_eq_getElem hs, e])] at h2
      omega
    | none =>
      have e' : r[s]? = some none := by rw [List.getElem?_eq_getElem hs, e]
      rw [reach_free e'] at h2
      by_cases hl : l = s
      · rw [hl]
        exact e'
      · exact ih (s := s + 1) (l := l) (by omega) (by omega) h2
theorem reach_stop {r : Row} : ∀ {n s : Nat}, r.length - s = n → r[reach r s]? ≠ some none := by
  intro n
  induction n with
  | zero =>
    intro s hn
    rw [reach_end (by omega), List.getElem?_eq_none_iff.mpr (by omega)]
    exact fun z => nomatch z
  | succ n ih =>
    intro s hn
    have hs : s < r.length := by omega
    cases e : r[s] with
    | some k =>
      have e' : r[s]? = some (some k) := by rw [List.getElem?_eq_getElem hs, e]
      rw [reach_held e', e']
      exact fun z => nomatch z
    | none =>
      rw [reach_free (by rw [List.getElem?_eq_getElem hs, e])]
      exact ih (s := s + 1) (by omega)
/-- a row that is free from s to e leads to e at least -/
theorem reach_least {r : Row} {s e : Nat} (hs : s ≤ e) (h : ∀ l, s ≤ l → l < e → r[l]? = some none) : e ≤ reach r s := by
  by_cases c : e ≤ reach r s
  · exact c
  · exact absurd (h _ (reach_ge r s) (by omega)) (reach_stop rfl)
def loadOf (g : Grid) (l : Nat) : Nat := (g.filter fun r => ((r[l]?).getD none).isSome).length
theorem loadOf_le (g : Grid) (l : Nat) : loadOf g l ≤ g.length := List.length_filter_le _ _
theorem loadOf_snoc {g : Grid} {r : Row} {l : Nat} {x : Option Int} (g' : Grid) (eq : g' = g) (h : r[l]? = some x) : loadOf (g' ++ [r]) l = loadOf g l + (if x.isSome then 1 else 0) := by
  subst eq
  unfold loadOf
  rw [List.filter_append, List.length_append]
  congr 1
  rw [List.filter_cons, h]
  cases x <;> rfl
/-- not full: some row is free there -/
theorem loadOf_lt {g : Grid} {l : Nat} (hl : ∀ r ∈ g, l < r.length) (h : loadOf g l ≠ g.length) : ∃ (i : Nat) (r : Row), g[i]? = some r ∧ r[l]? = some none := by
  have q : ¬ ∀ r ∈ g, ((r[l]?).getD none).isSome = true := fun z => h (by
    unfold loadOf
    rw [List.filter_eq_self.mpr z])
  have q2 : ∃ r ∈ g, ¬ ((r[l]?).getD none).isSome = true := by
    by_cases c : ∃ r ∈ g, ¬ ((r[l]?).getD none).isSome = true
    · exact c
    · exact absurd (fun r hr => by
        by_cases d : ((r[l]?).getD none).isSome = true
        · exact d
        · exact absurd ⟨r, hr, d⟩ c) q
  obtain ⟨r, hr, hn⟩ := q2
  obtain ⟨i, hi, e⟩ := List.mem_iff_getElem.mp hr
  refine ⟨i, r, by rw [List.getElem?_eq_getElem hi, e], ?_⟩
  have hlr := hl r hr
  rw [List.getElem?_eq_getElem hlr] at hn ⊢
  cases e2 : r[l] with
  | none => rfl
  | some k =>
    rw [e2] at hn
    exact absurd rfl hn
theorem loadOf_ne {g : Grid} {l i : Nat} {r : Row} (h1 : g[i]? = some r) (h2 : r[l]? = some none) : loadOf g l ≠ g.length := by
  intro z
  unfold loadOf at z
  have q := List.filter_eq_self.mp (List.filter_sublist.eq_of_length z) r (List.mem_of_getElem? h1)
  rw [h2] at q
  exact absurd q (by decide)
/-- the first full leg from b on, n legs long -/
def fullFrom (g : Grid) : Nat → Nat → Option Nat
  | _, 0 => none
  | b, n + 1 => if loadOf g b = g.length then some b else fullFrom g (b + 1) n
theorem fullFrom_some {g : Grid} : ∀ {n b i : Nat}, (∀ j, b ≤ j → j < b + i → loadOf g j ≠ g.length) → i < n → loadOf g (b + i) = g.length → fullFrom g b n = some (b + i)
  | 0, _, _, _, h, _ => absurd h (by omega)
  | n + 1, b, 0, _, _, e => by
    unfold fullFrom
    rw [if_pos (show loadOf g b = g.length from e)]
    rfl
  | n + 1, b, i + 1, h, hi, e => by
    unfold fullFrom
    rw [if_neg (h b (Nat.le_refl _) (by omega)), fullFrom_some (i := i) (fun j h1 h2 => h j (by omega) (by omega)) (by omega) (by rw [← e]; congr 1; omega)]
    congr 1
    omega
theorem fullFrom_none {g : Grid} : ∀ {n b : Nat}, (∀ j, b ≤ j → j < b + n → loadOf g j ≠ g.length) → fullFrom g b n = none
  | 0, _, _ => rfl
  | n + 1, b, h => by
    unfold fullFrom
    rw [if_neg (h b (Nat.le_refl _) (by omega)), fullFrom_none fun j h1 h2 => h j (by omega) (by omega)]
theorem fullFrom_is {g : Grid} : ∀ {n b l : Nat}, fullFrom g b n = some l → b ≤ l ∧ l < b + n ∧ loadOf g l = g.length ∧ ∀ j, b ≤ j → j < l → loadOf g j ≠ g.length
  | 0, _, _, h => by cases h
  | n + 1, b, l, h => by
    unfold fullFrom at h
    by_cases c : loadOf g b = g.length
    · rw [if_pos c] at h
      cases h
      exact ⟨Nat.le_refl _, by omega, c, fun j a d => by omega⟩
    · rw [if_neg c] at h
      obtain ⟨h1, h2, h3, h4⟩ := fullFrom_is h
      exact ⟨by omega, by omega, h3, fun j a d => by
        by_cases e : j = b
        · rw [e]
          exact c
        · exact h4 j (by omega) d⟩
theorem fullFrom_no {g : Grid} : ∀ {n b : Nat}, fullFrom g b n = none → ∀ j, b ≤ j → j < b + n → loadOf g j ≠ g.length
  | 0, _, _, j, h1, h2 => by omega
  | n + 1, b, h, j, h1, h2 => by
    unfold fullFrom at h
    by_cases c : loadOf g b = g.length
    · rw [if_pos c] at h
      cases h
    · rw [if_neg c] at h
      by_cases e : j = b
      · rw [e]
        exact c
      · exact fullFrom_no h j (by omega) (by omega)
/-! ### the seat that leads farthest -/
def bestStep (s e : Nat) (b : Nat × Nat) (k : Nat) (r : Row) : Nat × Nat := if min (reach r s) e > b.2 then (k, min (reach r s) e) else b
def bestGo (s e : Nat) : Grid → Nat → Nat × Nat → Nat × Nat
  | [], _, b => b
  | r :: rs, k, b => bestGo s e rs (k + 1) (bestStep s e b k r)
def best (g : Grid) (s e : Nat) : Nat × Nat := bestGo s e g 0 (0, s)
theorem bestGo_snoc (s e : Nat) (r : Row) : ∀ (g : Grid) (k : Nat) (b : Nat × Nat), bestGo s e (g ++ [r]) k b = bestStep s e (bestGo s e g k b) (k + g.length) r
  | [], k, b => rfl
  | x :: g, k, b => by
    show bestGo s e (g ++ [r]) (k + 1) (bestStep s e b k x) = bestStep s e (bestGo s e g (k + 1) (bestStep s e b k x)) (k + (g.length + 1)) r
    rw [bestGo_snoc s e r g (k + 1), show k + 1 + g.length = k + (g.length + 1) by omega]
theorem bestStep_ge (s e : Nat) (b : Nat × Nat) (k : Nat) (r : Row) : b.2 ≤ (bestStep s e b k r).2 ∧ min (reach r s) e ≤ (bestStep s e b k r).2 := by
  unfold bestStep
  by_cases c : min (reach r s) e > b.2
  · rw [if_pos c]
    exact ⟨by show b.2 ≤ min (reach r s) e; omega, Nat.le_refl _⟩
  · rw [if_neg c]
    exact ⟨Nat.le_refl _, by omega⟩
/-- what best is, told of the rows g from k on behind a start b -/
theorem bestGo_is (s e : Nat) : ∀ (g : Grid) (k : Nat) (b : Nat × Nat), b.2 ≤ (bestGo s e g k b).2 ∧ (∀ (i : Nat) (r : Row), g[i]? = some r → min (reach r s) e ≤ (bestGo s e g k b).2) ∧
    ((bestGo s e g k b) = b ∨ (b.2 < (bestGo s e g k b).2 ∧ k ≤ (bestGo s e g k b).1 ∧ ∃ r, g[(bestGo s e g k b).1 - k]? = some r ∧ min (reach r s) e = (bestGo s e g k b).2 ∧
      ∀ (j : Nat) (r' : Row), g[j]? = some r' → k + j < (bestGo s e g k b).1 → min (reach r' s) e < (bestGo s e g k b).2))
  | [], k, b => ⟨Nat.le_refl _, fun i r h => by simp at h, Or.inl rfl⟩
  | x :: g, k, b => by
    obtain ⟨h1, h2, h3⟩ := bestGo_is s e g (k + 1) (bestStep s e b k x)
    obtain ⟨s1, s2⟩ := bestStep_ge s e b k x
    show b.2 ≤ (bestGo s e g (k + 1) (bestStep s e b k x)).2 ∧ _ ∧ _
    refine ⟨Nat.le_trans s1 h1, fun i r h => ?_, ?_⟩
    · cases i with
      | zero =>
        have e' : x = r := Option.some.inj h
        subst e'
        exact Nat.le_trans s2 h1
      | succ i => exact h2 i r h
    · show bestGo s e g (k + 1) (bestStep s e b k x) = b ∨ (b.2 < (bestGo s e g (k + 1) (bestStep s e b k x)).2 ∧ k ≤ (bestGo s e g (k + 1) (bestStep s e b k x)).1 ∧
        ∃ r, (x :: g)[(bestGo s e g (k + 1) (bestStep s e b k x)).1 - k]? = some r ∧ min (reach r s) e = (bestGo s e g (k + 1) (bestStep s e b k x)).2 ∧
        ∀ (j : Nat) (r' : Row), (x :: g)[j]? = some r' → k + j < (bestGo s e g (k + 1) (bestStep s e b k x)).1 → min (reach r' s) e < (bestGo s e g (k + 1) (bestStep s e b k x)).2)
      rcases h3 with h3 | ⟨h3, h4, r, h5, h6, h7⟩
      · by_cases c : min (reach x s) e > b.2
        · have eb : bestStep s e b k x = (k, min (reach x s) e) := if_pos c
          rw [h3, eb]
          refine Or.inr ⟨c, Nat.le_refl _, x, by simp, rfl, fun j r' _ hj => ?_⟩
          have hj : k + j < k := hj
          omega
        · have eb : bestStep s e b k x = b := if_neg c
          rw [h3, eb]
          exact Or.inl rfl
      · refine Or.inr ⟨by omega, by omega, r, ?_, h6, fun j r' hj hk => ?_⟩
        · rw [show (bestGo s e g (k + 1) (bestStep s e b k x)).1 - k = ((bestGo s e g (k + 1) (bestStep s e b k x)).1 - (k + 1)) + 1 by omega]
          exact h5
        · cases j with
          | zero =>
            have e' : x = r' := Option.some.inj hj
            subst e'
            omega
          | succ j => exact h7 j r' hj (by omega)
/-- the best seat where some seat is free on the leg s -/
theorem best_is {g : Grid} {s e : Nat} (hse : s < e) (hl : ∀ r ∈ g, s < r.length) (h : loadOf g s ≠ g.length) : s < (best g s e).2 ∧ (best g s e).2 ≤ e ∧ (∀ (i : Nat) (r : Row), g[i]? = some r → min (reach r s) e ≤ (best g s e).2) ∧
    ∃ r, g[(best g s e).1]? = some r ∧ min (reach r s) e = (best g s e).2 ∧ ∀ (j : Nat) (r' : Row), g[j]? = some r' → j < (best g s e).1 → min (reach r' s) e < (best g s e).2 := by
  obtain ⟨h1, h2, h3⟩ := bestGo_is s e g 0 (0, s)
  obtain ⟨i, r, hi, hr⟩ := loadOf_lt hl h
  have q : s < (best g s e).2 := by
    have a := reach_gt hr
    have b : min (reach r s) e ≤ (best g s e).2 := h2 i r hi
    omega
  have nb : ¬ best g s e = (0, s) := fun z => by
    rw [z] at q
    exact absurd q (Nat.lt_irrefl _)
  rcases h3 with h3 | ⟨h3, h4, r, h5, h6, h7⟩
  · exact absurd h3 nb
  · refine ⟨q, ?_, h2, r, h5, h6, fun j r' hj hk => h7 j r' hj (by rw [Nat.zero_add]; exact hk)⟩
    have h6 : min (reach r s) e = (best g s e).2 := h6
    omega
/-! ### the parts of a stretch -/
def foundGo (g : Grid) (e : Nat) : Nat → Nat → List Part
  | 0, _ => []
  | n + 1, s => if s < e then ((best g s e).1, s, (best g s e).2) :: foundGo g e n (best g s e).2 else []
def found (g : Grid) (s e : Nat) : List Part := foundGo g e (e - s) s
/-- from any stop the way goes on -/
def Goes (g : Grid) (s e : Nat) : Prop := ∀ l, s ≤ l → l < e → l < (best g l e).2 ∧ (best g l e).2 ≤ e ∧ (best g l e).1 < g.length
theorem goes_of {g : Grid} {s e : Nat} (hl : ∀ r ∈ g, e ≤ r.length) (h : ∀ l, s ≤ l → l < e → loadOf g l ≠ g.length) : Goes g s e := fun l a b => by
  obtain ⟨h1, h2, _, r, h3, _⟩ := best_is b (fun r hr => Nat.lt_of_lt_of_le b (hl r hr)) (h l a b)
  exact ⟨h1, h2, (List.getElem?_eq_some_iff.mp h3).1⟩
theorem foundGo_more {g : Grid} {e : Nat} : ∀ {n m s : Nat}, Goes g s e → e - s ≤ n → n ≤ m → foundGo g e m s = foundGo g e n s
  | 0, m, s, _, h, _ => by
    have c : ¬ s < e := by omega
    cases m with
    | zero => rfl
    | succ m =>
      show (if s < e then _ else _) = _
      rw [if_neg c]
      rfl
  | n + 1, 0, s, _, _, h => by omega
  | n + 1, m + 1, s, hg, h1, h2 => by
    show (if s < e then _ else _) = (if s < e then _ else _)
    by_cases c : s < e
    · rw [if_pos c, if_pos c]
      obtain ⟨a, b, _⟩ := hg s (Nat.le_refl _) c
      rw [foundGo_more (n := n) (m := m) (fun l x y => hg l (by omega) y) (by omega) (by omega)]
    · rw [if_neg c, if_neg c]
theorem found_nil {g : Grid} {s e : Nat} (h : ¬ s < e) : found g s e = [] := by
  unfold found
  rw [show e - s = 0 by omega]
  rfl
theorem found_cons {g : Grid} {s e : Nat} (hg : Goes g s e) (h : s < e) : found g s e = ((best g s e).1, s, (best g s e).2) :: found g (best g s e).2 e := by
  unfold found
  obtain ⟨a, b, _⟩ := hg s (Nat.le_refl _) h
  rw [show e - s = (e - s - 1) + 1 by omega]
  show (if s < e then _ else _) = _
  rw [if_pos h, foundGo_more (n := e - (best g s e).2) (m := e - s - 1) (fun l x y => hg l (by omega) y) (Nat.le_refl _) (by omega)]
theorem Goes.tail {g : Grid} {s e : Nat} (hg : Goes g s e) (h : s < e) : Goes g (best g s e).2 e := fun l a b => hg l (by have := (hg s (Nat.le_refl _) h).1; omega) b
theorem found_ne {g : Grid} {s e : Nat} (hg : Goes g s e) (h : s < e) : found g s e ≠ [] := by
  rw [found_cons hg h]
  exact fun z => nomatch z
theorem found_fits {g : Grid} {e : Nat} : ∀ {n s : Nat}, e - s = n → Goes g s e → ∀ p ∈ found g s e, p.1 < g.length ∧ s ≤ p.2.1 ∧ p.2.1 < p.2.2 ∧ p.2.2 ≤ e := by
  intro n
  induction n using Nat.strongRecOn with
  | ind n ih =>
    intro s hn hg p hp
    by_cases c : s < e
    · obtain ⟨a, b, d⟩ := hg s (Nat.le_refl _) c
      rw [found_cons hg c] at hp
      rcases List.mem_cons.mp hp with h | h
      · rw [h]
        exact ⟨d, Nat.le_refl _, a, b⟩
      · obtain ⟨h1, h2, h3, h4⟩ := ih (e - (best g s e).2) (by omega) rfl (hg.tail c) p h
        exact ⟨h1, by omega, h3, h4⟩
    · rw [found_nil c] at hp
      cases hp
def firstOf (ps : List Part) : Nat := (ps.head?.getD (0, 0, 0)).2.1
def lastOf (ps : List Part) : Nat := (ps.getLast?.getD (0, 0, 0)).2.2
/-- what is left of the parts ahead of a stop, and behind it -/
def keptOf (ps : List Part) (s : Nat) : List Part := (ps.filter fun p => decide (p.2.1 < s)).map fun p => (p.1, p.2.1, min p.2.2 s)
def goneOf (ps : List Part) (s : Nat) : List Part := (ps.filter fun p => decide (s < p.2.2)).map fun p => (p.1, max p.2.1 s, p.2.2)
/-! ### legs marked -/
def setN (r : Row) (b : Nat) (v : Option Int) : Nat → Row
  | 0 => r
  | n + 1 => (setN r b v n).set (b + n) v
theorem setN_len (r : Row) (b : Nat) (v : Option Int) : ∀ n, (setN r b v n).length = r.length
  | 0 => rfl
  | n + 1 => by
    unfold setN
    rw [List.length_set, setN_len r b v n]
theorem setN_at (r : Row) (b : Nat) (v : Option Int) (l : Nat) : ∀ n, (setN r b v n)[l]? = if b ≤ l ∧ l < b + n then (r[l]?).map (fun _ => v) else r[l]?
  | 0 => by
    rw [if_neg (by omega)]
    rfl
  | n + 1 => by
    unfold setN
    rw [List.getElem?_set, setN_len]
    by_cases c : b + n = l
    · rw [if_pos c]
      have c2 : b ≤ l ∧ l < b + (n + 1) := ⟨by omega, by omega⟩
      by_cases d : b + n < r.length
      · rw [if_pos d, if_pos c2, List.getElem?_eq_getElem (show l < r.length by omega)]
        rfl
      · rw [if_neg d, if_pos c2, List.getElem?_eq_none_iff.mpr (by omega)]
        rfl
    · rw [if_neg c, setN_at r b v l n]
      by_cases d : b ≤ l ∧ l < b + n
      · rw [if_pos d, if_pos (by omega)]
      · rw [if_neg d, if_neg (by omega)]
def markOne (v : Option Int) (g : Grid) (p : Part) : Grid := g.modify p.1 fun r => setN r p.2.1 v (p.2.2 - p.2.1)
def mark (g : Grid) (ps : List Part) (v : Option Int) : Grid := ps.foldl (markOne v) g
def cell (g : Grid) (i l : Nat) : Option (Option Int) := (g[i]?).bind (·[l]?)
def covers (p : Part) (i l : Nat) : Bool := decide (p.1 = i) && (decide (p.2.1 ≤ l) && decide (l < p.2.2))
def holds (ps : List Part) (i l : Nat) : Bool := ps.any fun p => covers p i l
theorem markOne_len (v : Option Int) (g : Grid) (p : Part) : (markOne v g p).length = g.length := List.length_modify _ _ _
theorem mark_len (v : Option Int) : ∀ (ps : List Part) (g : Grid), (mark g ps v).length = g.length
  | [], g => rfl
  | p :: ps, g => by
    show (mark (markOne v g p) ps v).length = _
    rw [mark_len v ps, markOne_len]
theorem markOne_row {v : Option Int} {g : Grid} {p : Part} {i : Nat} : (markOne v g p)[i]? = (g[i]?).map fun r => if p.1 = i then setN r p.2.1 v (p.2.2 - p.2.1) else r := by
  unfold markOne
  rw [List.getElem?_modify]
  by_cases c : p.1 = i
  · simp [c]
  · simp [c]
theorem markOne_rows {v : Option Int} {g : Grid} {p : Part} {n : Nat} (h : ∀ r ∈ g, r.length = n) : ∀ r ∈ markOne v g p, r.length = n := by
  intro r hr
  obtain ⟨i, hi, e⟩ := List.mem_iff_getElem.mp hr
  have q : (markOne v g p)[i]? = some r := by rw [List.getElem?_eq_getElem hi, e]
  rw [markOne_row] at q
  obtain ⟨r0, h1, h2⟩ := Option.map_eq_some_iff.mp q
  have h3 := h r0 (List.mem_of_getElem? h1)
  by_cases c : p.1 = i
  · rw [if_pos c] at h2
    rw [← h2, setN_len, h3]
  · rw [if_neg c] at h2
    rw [← h2, h3]
theorem mark_rows {v : Option Int} {n : Nat} : ∀ {ps : List Part} {g : Grid}, (∀ r ∈ g, r.length = n) → ∀ r ∈ mark g ps v, r.length = n
  | [], g, h => h
  | p :: ps, g, h => mark_rows (ps := ps) (g := markOne v g p) (markOne_rows h)
theorem markOne_cell {v : Option Int} {g : Grid} {p : Part} {i l : Nat} : cell (markOne v g p) i l = if covers p i l = true then (cell g i l).map (fun _ => v) else cell g i l := by
  unfold cell
  rw [markOne_row]
  unfold covers
  cases e : g[i]? with
  | none => simp
  | some r =>
    show (if p.1 = i then setN r p.2.1 v (p.2.2 - p.2.1) else r)[l]? = if _ then (r[l]?).map _ else r[l]?
    by_cases c : p.1 = i
    · rw [if_pos c, setN_at]
      by_cases d : p.2.1 ≤ l ∧ l < p.2.2
      · rw [if_pos (by omega), if_pos (by simp [c, d])]
      · rw [if_neg (by omega), if_neg (by simp only [Bool.and_eq_true, decide_eq_true_eq]; omega)]
    · rw [if_neg c, if_neg (by simp [c])]
theorem holds_cons (p : Part) (ps : List Part) (i l : Nat) : holds (p :: ps) i l = (covers p i l || holds ps i l) := rfl
theorem mark_cell {v : Option Int} {i l : Nat} : ∀ {ps : List Part} {g : Grid}, cell (mark g ps v) i l = if holds ps i l = true then (cell g i l).map (fun _ => v) else cell g i l
  | [], g => by
    have c : ¬ holds [] i l = true := Bool.false_ne_true
    rw [if_neg c]
    rfl
  | p :: ps, g => by
    show cell (mark (markOne v g p) ps v) i l = _
    rw [mark_cell, markOne_cell, holds_cons]
    cases c : covers p i l with
    | true =>
      rw [if_pos rfl, Bool.true_or, if_pos rfl]
      cases d : holds ps i l with
      | true =>
        rw [if_pos rfl]
        cases cell g i l <;> rfl
      | false => rw [if_neg (by decide)]
    | false =>
      rw [if_neg (show ¬ false = true by decide), Bool.false_or]
theorem cell_row {g : Grid} {i l : Nat} {r : Row} (h : g[i]? = some r) : cell g i l = r[l]? := by
  unfold cell
  rw [h]
  rfl
end Leg
/-! A train: the mirror, and how it lies in the heap. -/
namespace Leg
open PySem PySem.Spec PyProof.Rows L2 Evl
structure Tr where
  S : Nat
  N : Nat
  held : Grid
  sold : List (Int × List Part)
  next : Int
def oV : Option Int → V
  | none => .non
  | some i => .int i
def tf (S N : Int) (h d : Addr) (n : Int) : List (Str × V) := [("_seats", .int S), ("_stops", .int N), ("_legs", .int (N - 1)), ("_held", .ref h), ("_sold", .ref d), ("_next", .int n)]
section
variable {S N n m : Int} {h d : Addr}
theorem tf_seats : (tf S N h d n).lookup ("_seats" : Str) = some (.int S) := by kernel_rfl
theorem tf_stops : (tf S N h d n).lookup ("_stops" : Str) = some (.int N) := by kernel_rfl
theorem tf_legs : (tf S N h d n).lookup ("_legs" : Str) = some (.int (N - 1)) := by kernel_rfl
theorem tf_held : (tf S N h d n).lookup ("_held" : Str) = some (.ref h) := by kernel_rfl
theorem tf_sold : (tf S N h d n).lookup ("_sold" : Str) = some (.ref d) := by kernel_rfl
theorem tf_next : (tf S N h d n).lookup ("_next" : Str) = some (.int n) := by kernel_rfl
theorem tf_put : putF "_next" (.int m) (tf S N h d n) = tf S N h d m := by kernel_rfl
theorem tf_len : (tf S N h d n).length < 1000 := by show 6 < 1000; decide
theorem tf_made : putF "_next" (.int n) (putF "_sold" (.ref d) (putF "_held" (.ref h) (putF "_legs" (.int (N - 1)) (putF "_stops" (.int N) (putF "_seats" (.int S) []))))) = tf S N h d n := by kernel_rfl
theorem tf_made1 : putF "_stops" (.int N) (putF "_seats" (.int S) []) = ([("_seats", .int S), ("_stops", .int N)] : List (Str × V)) := by kernel_rfl
theorem tf_made2 : putF "_legs" (.int (N - 1)) (putF "_stops" (.int N) (putF "_seats" (.int S) [])) = ([("_seats", .int S), ("_stops", .int N), ("_legs", .int (N - 1))] : List (Str × V)) := by kernel_rfl
theorem tf_made2l : (putF "_legs" (.int (N - 1)) (putF "_stops" (.int N) (putF "_seats" (.int S) []))).lookup ("_legs" : Str) = some (.int (N - 1)) := by kernel_rfl
theorem tf_made3 : putF "_held" (.ref h) (putF "_legs" (.int (N - 1)) (putF "_stops" (.int N) (putF "_seats" (.int S) []))) = ([("_seats", .int S), ("_stops", .int N), ("_legs", .int (N - 1)), ("_held", .ref h)] : List (Str × V)) := by kernel_rfl
theorem tf_made4 : putF "_sold" (.ref d) (putF "_held" (.ref h) (putF "_legs" (.int (N - 1)) (putF "_stops" (.int N) (putF "_seats" (.int S) [])))) = ([("_seats", .int S), ("_stops", .int N), ("_legs", .int (N - 1)), ("_held", .ref h), ("_sold", .ref d)] : List (Str × V)) := by kernel_rfl
theorem tf_no {x : Str} (e : (["_seats", "_stops", "_legs", "_held", "_sold", "_next"] : List Str).contains x = false) : (tf S N h d n).lookup x = none := by
  have hh : ∀ (l : List (Str × V)), (l.map (·.1)).contains x = false → l.lookup x = none := by
    intro l
    induction l with
    | nil => intro _; rfl
    | cons a r ih =>
      intro q
      obtain ⟨k, v⟩ := a
      rw [List.map_cons, List.contains_cons, Bool.or_eq_false_iff] at q
      rw [List.lookup_cons, q.1]
      exact ih q.2
  exact hh _ e
end
/-- where its objects lie -/
structure Lay where
  p : Addr
  dx : Addr
  h : Addr
  d : Addr
  rows : List Addr
  ds : List (Int × Addr)
def partV (H : Hp) (a : Addr) (q : Part) : Prop := H a = some (.tup [.int (q.1 : Int), .int (q.2.1 : Int), .int (q.2.2 : Int)])
/-- a list of parts -/
def PartsAt (H : Hp) (a : Addr) (ps : List Part) : Prop := ∃ ts : List Addr, H a = some (.lst (ts.map V.ref)) ∧ Paired (partV H) ts ps
theorem Paired.mono {α β : Type} {F G : α → β → Prop} : ∀ {l : List α} {m : List β}, Paired F l m → (∀ a b, F a b → G a b) → Paired G l m
  | _, _, .nil, _ => .nil
  | _, _, .cons r t, f => .cons (f _ _ r) (Paired.mono t f)
/-- tuples stay, and the list at a -/
theorem PartsAt.keep {H H' : Hp} {a : Addr} {ps : List Part} (x : PartsAt H a ps) (e : ∀ o, H a = some o → H' a = some o) (et : ∀ b xs, H b = some (.tup xs) → H' b = some (.tup xs)) : PartsAt H' a ps := by
  obtain ⟨ts, h1, h2⟩ := x
  exact ⟨ts, e _ h1, Paired.mono h2 fun _ _ q => et _ _ q⟩
theorem PartsAt.ex {H H' : Hp} {a : Addr} {ps : List Part} (e : Ex H H') (x : PartsAt H a ps) : PartsAt H' a ps := x.keep (fun _ h => e _ _ h) fun _ _ h => e _ _ h
def keyOf (x : Int × Addr) : Key × V := (Sum.inl x.1, V.ref x.2)
structure TrainAt (K : PySem.W.Frag) (H : Hp) (L : Lay) (t : Tr) : Prop where
  ob : H L.p = some (.ins (He.ga K "Train") L.dx (tf t.S t.N L.h L.d t.next))
  hh : H L.h = some (.lst (L.rows.map V.ref))
  rl : L.rows.length = t.held.length
  rn : L.rows.Nodup
  rw : ∀ (i : Nat) (a : Addr) (r : Row), L.rows[i]? = some a → t.held[i]? = some r → H a = some (.lst (r.map oV))
  dd : H L.d = some (.dK (L.ds.map keyOf))
  ll : Paired (fun (a : Int × Addr) (x : Int × List Part) => a.1 = x.1 ∧ PartsAt H a.2 x.2) L.ds t.sold
  s1 : 1 ≤ t.S
  s2 : t.S ≤ 60
  n1 : 2 ≤ t.N
  n2 : t.N ≤ 60
  hl : t.held.length = t.S
  hr : ∀ r ∈ t.held, r.length = t.N - 1
theorem TrainAt.ex {K : PySem.W.Frag} {H H' : Hp} {L : Lay} {t : Tr} (e : Ex H H') (x : TrainAt K H L t) : TrainAt K H' L t :=
  { x with ob := e _ _ x.ob, hh := e _ _ x.hh, rw := fun i a r h1 h2 => e _ _ (x.rw i a r h1 h2), dd := e _ _ x.dd, ll := Paired.mono x.ll fun _ _ q => ⟨q.1, q.2.ex e⟩ }
/-- what is the train's own -/
def Foot (L : Lay) (b : Addr) : Prop := b = L.p ∨ b = L.h ∨ b = L.d ∨ b ∈ L.rows ∨ b ∈ L.ds.map (·.2)
/-- from one state of a train to another: what is not its own stays; what becomes its own was not there -/
structure Step (L L' : Lay) (H H' : Hp) : Prop where
  p : L'.p = L.p
  kept : ∀ b o, H b = some o → ¬ Foot L b → H' b = some o
  grow : ∀ b, Foot L' b → Foot L b ∨ H b = none
  old : ∀ b, H' b = none → H b = none
theorem Step.ex {L : Lay} {H H' : Hp} (e : Ex H H') : Step L L H H' := ⟨rfl, fun b o h _ => e b o h, fun b h => Or.inl h, fun b h => fresh_back e h⟩
theorem Step.trans {L L1 L2 : Lay} {H H1 H2 : Hp} (a : Step L L1 H H1) (b : Step L1 L2 H1 H2) : Step L L2 H H2 where
  p := b.p.trans a.p
  kept := fun c o h n => b.kept c o (a.kept c o h n) fun z => (a.grow c z).elim n fun z => nomatch (h.symm.trans z)
  grow := fun c h => (b.grow c h).elim (fun h => a.grow c h) fun h => Or.inr (a.old c h)
  old := fun c h => a.old c (b.old c h)
theorem Step.out {L L' : Lay} {H H' : Hp} (s : Step L L' H H') {a : Addr} {o : HO} (h : H a = some o) (n : ¬ Foot L a) : ¬ Foot L' a := fun z => by
  rcases s.grow a z with z | z
  · exact n z
  · rw [h] at z
    cases z
theorem Step.rfl' {L : Lay} {H : Hp} : Step L L H H := Step.ex (Ex.refl H)
/-- a change of what is not the train's own -/
theorem TrainAt.keep {K : PySem.W.Frag} {H H' : Hp} {L : Lay} {t : Tr} (x : TrainAt K H L t) (e : ∀ b o, Foot L b → H b = some o → H' b = some o) (et : ∀ b xs, H b = some (.tup xs) → H' b = some (.tup xs)) : TrainAt K H' L t :=
  { x with ob := e _ _ (Or.inl rfl) x.ob, hh := e _ _ (Or.inr (Or.inl rfl)) x.hh, rw := fun i a r h1 h2 => e _ _ (Or.inr (Or.inr (Or.inr (Or.inl (List.mem_of_getElem? h1))))) (x.rw i a r h1 h2), dd := e _ _ (Or.inr (Or.inr (Or.inl rfl))) x.dd,
           ll := by
            have h : ∀ (l : List (Int × Addr)) (m : List (Int × List Part)), (∀ y ∈ l, y.2 ∈ L.ds.map (·.2)) → Paired (fun (a : Int × Addr) (x : Int × List Part) => a.1 = x.1 ∧ PartsAt H a.2 x.2) l m → Paired (fun (a : Int × Addr) (x : Int × List Part) => a.1 = x.1 ∧ PartsAt H' a.2 x.2) l m := by
              intro l m hl q
              induction q with
              | nil => exact .nil
              | cons r t ih => exact .cons ⟨r.1, r.2.keep (fun o h => e _ o (Or.inr (Or.inr (Or.inr (Or.inr (hl _ List.mem_cons_self))))) h) et⟩ (ih fun y hy => hl y (List.mem_cons_of_mem _ hy))
            exact h _ _ (fun y hy => List.mem_map.mpr ⟨y, hy, rfl⟩) x.ll }
/-- a list, not the train's own, is changed -/
theorem TrainAt.lst {K : PySem.W.Frag} {H : Hp} {L : Lay} {t : Tr} (x : TrainAt K H L t) {a : Addr} {xs ys : List V} (h : H a = some (.lst xs)) (n : ¬ Foot L a) : TrainAt K (upd H a (.lst ys)) L t :=
  x.keep (fun b o f e => by rw [upd_ne (fun z => n (by rw [← z]; exact f))]; exact e) fun b zs e => by
    rw [upd_ne (ne_of e h (by intro z; cases z))]
    exact e
/-! ### what is sold, by numbers -/
def putS {α : Type} (l : List (Int × α)) (k : Int) (a : α) : List (Int × α) := if (l.any fun x => decide (x.1 = k)) = true then l.map (fun x => if x.1 = k then (x.1, a) else x) else l ++ [(k, a)]
def dropS {α : Type} (l : List (Int × α)) (k : Int) : List (Int × α) := l.filter fun x => decide (x.1 ≠ k)
def atS {α : Type} (l : List (Int × α)) (k : Int) : Option α := (l.find? fun x => decide (x.1 = k)).map (·.2)
theorem inl_iff (a b : Int) : (Sum.inl a : Key) = Sum.inl b ↔ a = b := ⟨fun z => Sum.inl.inj z, fun z => by rw [z]⟩
theorem any_key (l : List (Int × Addr)) (k : Int) : ((l.map keyOf).any fun kv => decide (kv.1 = (Sum.inl k : Key))) = l.any fun x => decide (x.1 = k) := by
  rw [List.any_map]
  congr 1
  funext x
  exact decide_eq_decide.mpr (inl_iff x.1 k)
theorem put_key (l : List (Int × Addr)) (k : Int) (a : Addr) : putK (l.map keyOf) (Sum.inl k : Key) (V.ref a) = (putS l k a).map keyOf := by
  unfold putK putS
  rw [any_key]
  by_cases c : (l.any fun x => decide (x.1 = k)) = true
  · rw [if_pos c, if_pos c, List.map_map, List.map_map]
    congr 1
    funext x
    show (if (Sum.inl x.1 : Key) = Sum.inl k then ((Sum.inl x.1 : Key), V.ref a) else (Sum.inl x.1, V.ref x.2)) = keyOf (if x.1 = k then (x.1, a) else x)
    by_cases d : x.1 = k
    · rw [if_pos ((inl_iff _ _).mpr d), if_pos d]
      rfl
    · rw [if_neg (fun z => d ((inl_iff _ _).mp z)), if_neg d]
      rfl
  · rw [if_neg c, if_neg c, List.map_append]
    rfl
theorem drop_key (l : List (Int × Addr)) (k : Int) : dropK (l.map keyOf) (Sum.inl k : Key) = (dropS l k).map keyOf := by
  unfold dropK dropS
  rw [List.filter_map]
  congr 1
  congr 1
  funext x
  exact decide_eq_decide.mpr (not_congr (inl_iff x.1 k))
theorem val_key : ∀ (l : List (Int × Addr)) (k : Int), valV (l.map keyOf) (Sum.inl k : Key) = (atS l k).map V.ref := by
  intro l k
  unfold valV atS
  rw [List.find?_map, Option.map_map, Option.map_map]
  have e : ((fun kv : Key × V => decide (kv.1 = (Sum.inl k : Key))) ∘ keyOf) = fun x => decide (x.1 = k) := by
    funext x
    exact decide_eq_decide.mpr (inl_iff x.1 k)
  rw [e]
  rfl
section
variable {α β : Type} {F : α → β → Prop}
abbrev Par2 (F : α → β → Prop) : List (Int × α) → List (Int × β) → Prop := Paired fun a x => a.1 = x.1 ∧ F a.2 x.2
theorem par_any (k : Int) : ∀ {l : List (Int × α)} {m : List (Int × β)}, Par2 F l m → (l.any fun x => decide (x.1 = k)) = m.any fun x => decide (x.1 = k)
  | _, _, .nil => rfl
  | _, _, .cons r t => by
    rw [List.any_cons, List.any_cons, r.1, par_any k t]
theorem par_map {k : Int} {a : α} {b : β} (f : F a b) : ∀ {l : List (Int × α)} {m : List (Int × β)}, Par2 F l m → Par2 F (l.map fun x => if x.1 = k then (x.1, a) else x) (m.map fun x => if x.1 = k then (x.1, b) else x)
  | _, _, .nil => .nil
  | _, _, .cons (a := p) (b := q) r t => by
    refine .cons ?_ (par_map f t)
    show (if p.1 = k then (p.1, a) else p).1 = (if q.1 = k then (q.1, b) else q).1 ∧ F (if p.1 = k then (p.1, a) else p).2 (if q.1 = k then (q.1, b) else q).2
    by_cases d : p.1 = k
    · rw [if_pos d, if_pos (r.1.symm.trans d)]
      exact ⟨r.1, f⟩
    · rw [if_neg d, if_neg (fun z => d (r.1.trans z))]
      exact r
theorem par_app {a : Int × α} {b : Int × β} (f : a.1 = b.1 ∧ F a.2 b.2) : ∀ {l : List (Int × α)} {m : List (Int × β)}, Par2 F l m → Par2 F (l ++ [a]) (m ++ [b])
  | _, _, .nil => .cons f .nil
  | _, _, .cons r t => .cons r (par_app f t)
theorem par_put {k : Int} {a : α} {b : β} (f : F a b) {l : List (Int × α)} {m : List (Int × β)} (h : Par2 F l m) : Par2 F (putS l k a) (putS m k b) := by
  unfold putS
  rw [par_any k h]
  by_cases c : (m.any fun x => decide (x.1 = k)) = true
  · rw [if_pos c, if_pos c]
    exact par_map f h
  · rw [if_neg c, if_neg c]
    exact par_app (F := F) (a := (k, a)) (b := (k, b)) ⟨rfl, f⟩ h
theorem par_drop {k : Int} : ∀ {l : List (Int × α)} {m : List (Int × β)}, Par2 F l m → Par2 F (dropS l k) (dropS m k)
  | _, _, .nil => .nil
  | _, _, .cons (a := p) (b := q) r t => by
    unfold dropS
    rw [List.filter_cons, List.filter_cons, r.1]
    by_cases c : decide (q.1 ≠ k) = true
    · rw [if_pos c, if_pos c]
      exact .cons r (par_drop t)
    · rw [if_neg c, if_neg c]
      exact par_drop t
theorem par_at {k : Int} : ∀ {l : List (Int × α)} {m : List (Int × β)}, Par2 F l m → (atS m k = none → atS l k = none) ∧ ∀ b, atS m k = some b → ∃ a, atS l k = some a ∧ F a b ∧ a ∈ l.map (·.2)
  | _, _, .nil => ⟨fun _ => rfl, fun b h => by cases h⟩
  | _, _, .cons (a := p) (b := q) r t => by
    obtain ⟨h1, h2⟩ := par_at (k := k) t
    unfold atS at h1 h2 ⊢
    rw [List.find?_cons, List.find?_cons, r.1]
    by_cases c : q.1 = k
    · rw [decide_eq_true c]
      exact ⟨fun h => (by cases h), fun b h => ⟨p.2, rfl, by cases h; exact r.2, by simp⟩⟩
    · rw [decide_eq_false c]
      refine ⟨h1, fun b h => ?_⟩
      obtain ⟨a, x, y, z⟩ := h2 b h
      exact ⟨a, x, y, by rw [List.map_cons]; exact List.mem_cons_of_mem _ z⟩
end
/-- the row of a seat -/
theorem TrainAt.row {K : PySem.W.Frag} {H : Hp} {L : Lay} {t : Tr} (x : TrainAt K H L t) {i : Nat} (hi : i < t.S) : ∃ a r, L.rows[i]? = some a ∧ t.held[i]? = some r ∧ H a = some (.lst (r.map oV)) ∧ r.length = t.N - 1 := by
  have h1 : i < L.rows.length := by rw [x.rl, x.hl]; exact hi
  have h2 : i < t.held.length := by rw [x.hl]; exact hi
  exact ⟨_, _, List.getElem?_eq_getElem h1, List.getElem?_eq_getElem h2, x.rw i _ _ (List.getElem?_eq_getElem h1) (List.getElem?_eq_getElem h2), x.hr _ (List.getElem_mem h2)⟩
end Leg
namespace Leg
open PySem PySem.Spec PyProof.Rows L2 Evl
/-- a first comparison that is open; where it fails the chain is False -/
theorem chainI {p : Prop} [Decidable p] {A : Prop} {F : Bool → Prop} (h1 : p → A) (h2 : ¬ p → F false) : if decide p = true then A else ∃ k, V.bl false = V.bl k ∧ F k := by
  by_cases c : p
  · rw [if_pos (decide_eq_true c)]
    exact h1 c
  · rw [if_neg (by rw [decide_eq_false c]; decide)]
    exact ⟨false, rfl, h2 c⟩
/-- not t, t the last comparison -/
theorem iteN {p : Prop} [Decidable p] {A B : Prop} (h1 : p → B) (h2 : ¬ p → A) : if (!decide p) = true then A else B := by
  by_cases c : p
  · rw [if_neg (by rw [decide_eq_true c]; decide)]
    exact h1 c
  · rw [if_pos (by rw [decide_eq_false c]; decide)]
    exact h2 c
theorem flat_rep {α : Type} (x : α) : ∀ n : Nat, List.flatten (List.replicate n [x]) = List.replicate n x
  | 0 => rfl
  | n + 1 => by
    rw [List.replicate_succ, List.flatten_cons, flat_rep x n, List.replicate_succ]
    rfl
end Leg
namespace Leg
open PySem PySem.Spec PyProof.Rows L2 Evl
/-- a comprehension's turn without a test -/
theorem lc_yes {te : TE} {σ : L2.St} {H : Hp} {R : V → Hp → Prop} {N : Hp → Prop} (h : te σ H R) : tYes σ H fun b H3 => if b = true then te σ H3 R else N H3 := by
  show if true = true then te σ H R else N H
  exact iteT h
end Leg
namespace Leg
open PySem PySem.Spec PyProof.Rows L2 Evl
theorem chainI3 {p : Prop} [Decidable p] {A F : Prop} (h1 : p → A) (h2 : ¬ p → F) : if decide p = true then A else F := by
  by_cases c : p
  · rw [if_pos (decide_eq_true c)]
    exact h1 c
  · rw [if_neg (by rw [decide_eq_false c]; decide)]
    exact h2 c
end Leg
namespace Leg
open PySem PySem.Spec PyProof.Rows L2 Evl
/-- a value that is no object: its type -/
def flatQ : V → Option String
  | .int _ => some "int"
  | .non => some "NoneType"
  | .str _ => some "str"
  | .bl _ => some "bool"
  | _ => none
def isI : V → Bool
  | .int _ => true
  | _ => false
def isB : V → Bool
  | .bl _ => true
  | _ => false
theorem flat_ty {K : PySem.W.Frag} {H : Hp} {v : V} (h : (flatQ v).isSome = true) : ∃ s, flatQ v = some s ∧ TyOf K H v (.type s) := by
  cases v with
  | int i => exact ⟨_, rfl, .int i⟩
  | non => exact ⟨_, rfl, .non⟩
  | str s => exact ⟨_, rfl, .str s⟩
  | bl b => exact ⟨_, rfl, .bl b⟩
  | _ => cases h
theorem flat_int {v : V} {s : String} (h : flatQ v = some s) : kitB s "int" = some (isI v || isB v) := by
  cases v with
  | int i =>
    cases h
    show kitB "int" "int" = some true
    decide +kernel
  | non =>
    cases h
    show kitB "NoneType" "int" = some false
    decide +kernel
  | str x =>
    cases h
    show kitB "str" "int" = some false
    decide +kernel
  | bl b =>
    cases h
    show kitB "bool" "int" = some true
    decide +kernel
  | _ => cases h
theorem flat_bool {v : V} {s : String} (h : flatQ v = some s) : kitB s "bool" = some (isB v) := by
  cases v with
  | int i =>
    cases h
    show kitB "int" "bool" = some false
    decide +kernel
  | non =>
    cases h
    show kitB "NoneType" "bool" = some false
    decide +kernel
  | str x =>
    cases h
    show kitB "str" "bool" = some false
    decide +kernel
  | bl b =>
    cases h
    show kitB "bool" "bool" = some true
    decide +kernel
  | _ => cases h
theorem iteB {c : Bool} {A B : Prop} (h1 : c = true → A) (h2 : c = false → B) : if c = true then A else B := by
  cases c with
  | true => exact iteT (h1 rfl)
  | false => exact iteF (h2 rfl)
theorem iteTt {c : Bool} {A B : Prop} (e : c = true) (h : A) : if c = true then A else B := by
  subst e
  exact iteT h
theorem iteFf {c : Bool} {A B : Prop} (e : c = false) (h : B) : if c = true then A else B := by
  subst e
  exact iteF h
end Leg
namespace Leg
open PySem PySem.Spec PyProof.Rows L2 Evl
theorem decV (a b : Int) : decide (V.int a = V.int b) = decide (a = b) := by
  by_cases h : a = b
  · rw [decide_eq_true h, h, decide_eq_true rfl]
  · rw [decide_eq_false h, decide_eq_false fun z => h (V.int.inj z)]
theorem neV {a b : Int} (h : a ≠ b) : (!decide (V.int a = V.int b)) = true := by rw [decV, decide_eq_false h]; rfl
theorem eqV' {a b : Int} (h : a = b) : (!decide (V.int a = V.int b)) = false := by rw [decV, decide_eq_true h]; rfl
theorem eqT {a b : Int} (h : a = b) : decide (V.int a = V.int b) = true := by rw [decV, decide_eq_true h]
theorem eqF {a b : Int} (h : a ≠ b) : decide (V.int a = V.int b) = false := by rw [decV, decide_eq_false h]
end Leg
namespace Leg
open PySem PySem.Spec PyProof.Rows L2 Evl
/-- if isinstance(e, C): words.append(w) -/
theorem cls_step {K : PySem.W.Frag} {D C a p : Addr} {w : Str} {ws : List V} {Ds : Ends} {H : Hp} (b : Bool) (hk : PySem.W.kitOne K (.ref D) (.ref C) = some b) (hp : H p = some (.lst ws)) (hz : ws.length ≤ 1000)
    (k : ∀ H', H' p = some (.lst (if b = true then ws ++ [.str w] else ws)) → (∀ c o, c ≠ p → H c = some o → H' c = some o) → Ds.nx [some (.ref a), some (.ref p)] H') :
    tIfS (tB (tCB (rIsE K D a) (tCons (tVar 0) (tCons (tC (.ref C)) tNil)))) (tDrop (tBM K "list" rAppend (tVar 1) (tCons (tC (.str w)) tNil))) tNext Ds [some (.ref a), some (.ref p)] H := by
  refine ⟨_, rfl, V.ref C, .ref C, b, rfl, fun u r => r, hk, b, rfl, ?_⟩
  cases b with
  | false => exact iteF (k H hp fun c o _ e => e)
  | true => exact iteT ⟨_, rfl, .inl ⟨rfl, _, SqL.of hp⟩, p, ws, _, rfl, rfl, hp, sz_lt (by omega), k _ upd_same fun c o n e => by rw [upd_ne n]; exact e⟩
def wordOf (x : Str) : Str :=
  if x = "NoTrain" then "train" else if x = "NoStretch" then "stretch" else if x = "NoSeat" then "seat" else if x = "NoStop" then "stop" else if x = "NoLeg" then "leg" else if x = "NoTicket" then "ticket" else if x = "Full" then "full" else if x = "Shared" then "shared" else "text"
end Leg
namespace Leg
open PySem PySem.Spec PyProof.Rows L2 Evl
theorem pick_int {l : List Int} {c : Int} (h0 : 0 ≤ c) (h1 : c < l.length) : atI (l.map V.int) c = some (V.int (l.getD c.toNat 0)) := by
  have h : c.toNat < l.length := by omega
  refine at_of (j := c.toNat) (by omega) ?_
  rw [List.getElem?_map, List.getElem?_eq_getElem h, List.getD_eq_getElem?_getD, List.getElem?_eq_getElem h]
  rfl
end Leg
namespace Leg
open PySem PySem.Spec PyProof.Rows L2 Evl
/-- a leg of a seat is marked -/
theorem TrainAt.setCell {K : PySem.W.Frag} {H : Hp} {L : Lay} {t : Tr} (x : TrainAt K H L t) {i : Nat} {a : Addr} {r r' : Row} (ha : L.rows[i]? = some a) (hr : t.held[i]? = some r) (hl : r'.length = r.length) :
    TrainAt K (upd H a (.lst (r'.map oV))) L { t with held := t.held.set i r' } := by
  have hA := x.rw i a r ha hr
  have hil : i < t.held.length := (List.getElem?_eq_some_iff.mp hr).1
  have hrl := x.hr r (List.mem_of_getElem? hr)
  have n1 := x.n1
  have rne : r ≠ [] := fun z => by
    rw [z] at hrl
    have : 0 = t.N - 1 := hrl
    omega
  obtain ⟨y, r0, er⟩ := List.exists_cons_of_ne_nil rne
  have hna : ∀ ts : List Addr, ∀ b, H b = some (.lst (ts.map V.ref)) → b ≠ a := fun ts b hb z => by
    rw [z, hA] at hb
    have e := HO.lst.inj (Option.some.inj hb)
    rw [er, List.map_cons] at e
    cases ts with
    | nil => cases e
    | cons u us =>
      rw [List.map_cons] at e
      injection e with e1 _
      cases y <;> cases e1
  have keep : ∀ b o, H b = some o → (∀ xs, o ≠ .lst xs) → (upd H a (.lst (r'.map oV))) b = some o := fun b o hb n => by
    rw [upd_ne (ne_of hb hA (n _))]
    exact hb
  refine { x with ob := keep _ _ x.ob (by intro xs z; cases z), hh := by rw [upd_ne (hna _ _ x.hh)]; exact x.hh, rl := by show L.rows.length = (t.held.set i r').length; rw [List.length_set]; exact x.rl, rw := fun j b q h1 h2 => ?_, dd := keep _ _ x.dd (by intro xs z; cases z),
                  ll := Paired.mono x.ll fun u v q => ⟨q.1, ?_⟩, hl := by show (t.held.set i r').length = t.S; rw [List.length_set]; exact x.hl, hr := fun q hq => ?_ }
  · have h2 : (t.held.set i r')[j]? = some q := h2
    by_cases c : j = i
    · subst c
      have e : b = a := Option.some.inj (h1.symm.trans ha)
      rw [List.getElem?_set_self hil] at h2
      have e2 : r' = q := Option.some.inj h2
      rw [e, ← e2]
      exact upd_same
    · have nb : b ≠ a := fun z => c (nd_ix x.rn h1 (by rw [z]; exact ha))
      rw [List.getElem?_set_ne (fun z => c z.symm)] at h2
      rw [upd_ne nb]
      exact x.rw j b q h1 h2
  · obtain ⟨ts, h1, h2⟩ := q.2
    refine ⟨ts, by rw [upd_ne (hna _ _ h1)]; exact h1, Paired.mono h2 fun c p hp => keep _ _ hp (by intro xs z; cases z)⟩
  · have hq : q ∈ t.held.set i r' := hq
    rcases List.mem_or_eq_of_mem_set hq with h | h
    · exact x.hr q h
    · rw [h, hl]
      exact x.hr r (List.mem_of_getElem? hr)
theorem markOne_set {v : Option Int} {g : Grid} {p : Part} {r : Row} (h : g[p.1]? = some r) : markOne v g p = g.set p.1 (setN r p.2.1 v (p.2.2 - p.2.1)) := by
  obtain ⟨hi, e⟩ := List.getElem?_eq_some_iff.mp h
  apply List.ext_getElem?
  intro j
  rw [markOne_row, List.getElem?_set]
  by_cases c : p.1 = j
  · rw [if_pos c, ← c, h, if_pos hi]
    show some (if p.1 = p.1 then _ else r) = _
    rw [if_pos rfl]
  · rw [if_neg c]
    cases g[j]? with
    | none => rfl
    | some q =>
      show some (if p.1 = j then _ else q) = _
      rw [if_neg c]
theorem set_same {α : Type} {l : List α} {i : Nat} {x : α} (h : l[i]? = some x) : l.set i x = l := by
  obtain ⟨hi, e⟩ := List.getElem?_eq_some_iff.mp h
  rw [← e]
  exact List.set_getElem_self hi
theorem Paired.get {α β : Type} {F : α → β → Prop} : ∀ {l : List α} {m : List β} {i : Nat} {b : β}, Paired F l m → m[i]? = some b → ∃ a, l[i]? = some a ∧ F a b
  | _, _, _, _, .nil, h => by simp at h
  | _, _, 0, _, .cons r t, h => ⟨_, rfl, by cases h; exact r⟩
  | _, _, i + 1, _, .cons r t, h => Paired.get (i := i) t h
theorem Paired.len {α β : Type} {F : α → β → Prop} : ∀ {l : List α} {m : List β}, Paired F l m → l.length = m.length
  | _, _, .nil => rfl
  | _, _, .cons _ t => congrArg Nat.succ (Paired.len t)
theorem Paired.snoc {α β : Type} {F : α → β → Prop} {a : α} {b : β} (f : F a b) : ∀ {l : List α} {m : List β}, Paired F l m → Paired F (l ++ [a]) (m ++ [b])
  | _, _, .nil => .cons f .nil
  | _, _, .cons r t => .cons r (Paired.snoc f t)
/-- a list of parts is no row -/
theorem TrainAt.parts_no_row {K : PySem.W.Frag} {H : Hp} {L : Lay} {t : Tr} (x : TrainAt K H L t) {a : Addr} {ps : List Part} (h : PartsAt H a ps) : a ∉ L.rows := by
  intro hm
  obtain ⟨i, hi, e⟩ := List.mem_iff_getElem.mp hm
  have h1 : L.rows[i]? = some a := by rw [List.getElem?_eq_getElem hi, e]
  have hil : i < t.held.length := by rw [← x.rl]; exact hi
  have hA := x.rw i a _ h1 (List.getElem?_eq_getElem hil)
  have hrl := x.hr _ (List.getElem_mem hil)
  have n1 := x.n1
  obtain ⟨ts, h2, _⟩ := h
  rw [h2] at hA
  have e := HO.lst.inj (Option.some.inj hA)
  cases er : t.held[i] with
  | nil =>
    rw [er] at hrl
    have : 0 = t.N - 1 := hrl
    omega
  | cons y r0 =>
    rw [er, List.map_cons] at e
    cases ts with
    | nil => cases e
    | cons u us =>
      rw [List.map_cons] at e
      injection e with e1 _
      cases y <;> cases e1
end Leg
namespace Leg
open PySem PySem.Spec PyProof.Rows L2 Evl
theorem legs_text : ∀ l : Fin 60, (Str.empty ++ Str.ofString "no seat is free on leg ").length ≤ sizeLine ∧ ((Str.empty ++ Str.ofString "no seat is free on leg ") ++ Str.ofString (toString ((l.val : Nat) : Int))).length ≤ sizeLine := by decide +kernel
theorem leg_small {l : Nat} (h : l < 60) : ((l : Nat) : Int).natAbs.log2 < 1920 := by
  have : (⟨l, h⟩ : Fin 60).val.log2 < 1920 := (by decide +kernel : ∀ l : Fin 60, l.val.log2 < 1920) ⟨l, h⟩
  exact this
end Leg
namespace Leg
open PySem PySem.Spec PyProof.Rows L2 Evl
theorem ixN_of {n j : Nat} {i : Int} (e : i = (j : Int)) (h : j < n) : ixN n i = some j := by
  subst e
  exact ixN_nat h
/-- a tuple is no row -/
theorem TrainAt.tup_no_row {K : PySem.W.Frag} {H : Hp} {L : Lay} {t : Tr} (x : TrainAt K H L t) {u : Addr} {xs : List V} (h : H u = some (.tup xs)) : u ∉ L.rows := fun z => by
  obtain ⟨j, hj, ej⟩ := List.mem_iff_getElem.mp z
  have h1 : L.rows[j]? = some u := by rw [List.getElem?_eq_getElem hj, ej]
  have hjl : j < t.held.length := by rw [← x.rl]; exact hj
  have hA := x.rw j u _ h1 (List.getElem?_eq_getElem hjl)
  rw [h] at hA
  cases hA
/-- a list of parts stands where nothing but rows is changed -/
theorem TrainAt.parts_kept {K : PySem.W.Frag} {H H' : Hp} {L : Lay} {t : Tr} (x : TrainAt K H L t) {a : Addr} {ps : List Part} (h : PartsAt H a ps) (k : ∀ b o, H b = some o → b ∉ L.rows → H' b = some o) : PartsAt H' a ps := by
  have na := x.parts_no_row h
  obtain ⟨ts, h1, h2⟩ := h
  exact ⟨ts, k _ _ h1 na, Paired.mono (G := partV H') h2 fun u p hu => k u _ hu (x.tup_no_row hu)⟩
end Leg
namespace Leg
open PySem PySem.Spec PyProof.Rows L2 Evl
theorem put_mem {l : List (Int × Addr)} {k : Int} {a b : Addr} (h : b ∈ (putS l k a).map (·.2)) : b ∈ l.map (·.2) ∨ b = a := by
  unfold putS at h
  by_cases c : (l.any fun x => decide (x.1 = k)) = true
  · rw [if_pos c, List.map_map] at h
    obtain ⟨x, hx, e⟩ := List.mem_map.mp h
    have e : (if x.1 = k then (x.1, a) else x).2 = b := e
    by_cases d : x.1 = k
    · rw [if_pos d] at e
      exact Or.inr e.symm
    · rw [if_neg d] at e
      exact Or.inl (List.mem_map.mpr ⟨x, hx, e⟩)
  · rw [if_neg c, List.map_append] at h
    rcases List.mem_append.mp h with h | h
    · exact Or.inl h
    · exact Or.inr (by simpa using h)
theorem drop_mem {l : List (Int × Addr)} {k : Int} {b : Addr} (h : b ∈ (dropS l k).map (·.2)) : b ∈ l.map (·.2) := by
  obtain ⟨x, hx, e⟩ := List.mem_map.mp h
  exact List.mem_map.mpr ⟨x, (List.mem_filter.mp hx).1, e⟩
/-- what is the train's own stands in the heap -/
theorem TrainAt.foot_new {K : PySem.W.Frag} {H : Hp} {L : Lay} {t : Tr} (x : TrainAt K H L t) {a : Addr} (h : H a = none) : ¬ Foot L a := by
  intro f
  rcases f with f | f | f | f | f
  · rw [f, x.ob] at h
    cases h
  · rw [f, x.hh] at h
    cases h
  · rw [f, x.dd] at h
    cases h
  · obtain ⟨j, hj, ej⟩ := List.mem_iff_getElem.mp f
    have g1 : L.rows[j]? = some a := by rw [List.getElem?_eq_getElem hj, ej]
    have hjl : j < t.held.length := by rw [← x.rl]; exact hj
    rw [x.rw j _ _ g1 (List.getElem?_eq_getElem hjl)] at h
    cases h
  · obtain ⟨y, hy, e⟩ := List.mem_map.mp f
    obtain ⟨j, hj, ej⟩ := List.mem_iff_getElem.mp hy
    have hjl : j < t.sold.length := by rw [← Paired.len x.ll]; exact hj
    obtain ⟨z, hz, _, hp⟩ := Paired.get x.ll (List.getElem?_eq_getElem hjl)
    rw [List.getElem?_eq_getElem hj, ej] at hz
    have e2 : y = z := Option.some.inj hz
    obtain ⟨ts, h1, _⟩ := hp
    rw [← e2, e, h] at h1
    cases h1
end Leg
namespace Leg
open PySem PySem.Spec PyProof.Rows L2 Evl
theorem TrainAt.putSold {K : PySem.W.Frag} {H : Hp} {L : Lay} {t : Tr} (x : TrainAt K H L t) {a : Addr} {ps : List Part} (k : Int) (hp : PartsAt H a ps) :
    TrainAt K (upd H L.d (.dK ((putS L.ds k a).map keyOf))) { L with ds := putS L.ds k a } { t with sold := putS t.sold k ps } ∧ (∀ b qs, PartsAt H b qs → PartsAt (upd H L.d (.dK ((putS L.ds k a).map keyOf))) b qs) := by
  have kd : ∀ c o, H c = some o → (∀ es, o ≠ .dK es) → (upd H L.d (.dK ((putS L.ds k a).map keyOf))) c = some o := fun c o h n => by
    rw [upd_ne (ne_of h x.dd (n _))]
    exact h
  have keepP : ∀ b qs, PartsAt H b qs → PartsAt (upd H L.d (.dK ((putS L.ds k a).map keyOf))) b qs := fun b qs h => h.keep (fun o ho => by
    obtain ⟨ts, h1, _⟩ := h
    rw [h1] at ho
    cases ho
    exact kd _ _ h1 (by intro es z; cases z)) fun c xs hc => kd _ _ hc (by intro es z; cases z)
  refine ⟨{ x with ob := kd _ _ x.ob (by intro es z; cases z), hh := kd _ _ x.hh (by intro es z; cases z), rw := fun i b r h1 h2 => kd _ _ (x.rw i b r h1 h2) (by intro es z; cases z), dd := upd_same, ll := ?_ }, keepP⟩
  exact par_put (F := fun b ps => PartsAt (upd H L.d (.dK ((putS L.ds k a).map keyOf))) b ps) (keepP _ _ hp) (Paired.mono x.ll fun u v z => ⟨z.1, keepP _ _ z.2⟩)
theorem TrainAt.d_no_row {K : PySem.W.Frag} {H : Hp} {L : Lay} {t : Tr} (x : TrainAt K H L t) : L.d ∉ L.rows := fun z => by
  obtain ⟨j, hj, ej⟩ := List.mem_iff_getElem.mp z
  have g1 : L.rows[j]? = some L.d := by rw [List.getElem?_eq_getElem hj, ej]
  have hjl : j < t.held.length := by rw [← x.rl]; exact hj
  have hA := x.rw j _ _ g1 (List.getElem?_eq_getElem hjl)
  rw [x.dd] at hA
  cases hA
theorem atS_map {α : Type} {k : Int} {a : α} : ∀ {l : List (Int × α)}, (l.any fun x => decide (x.1 = k)) = true → atS (l.map fun x => if x.1 = k then (x.1, a) else x) k = some a
  | [], c => by cases c
  | x :: r, c => by
    unfold atS
    rw [List.map_cons, List.find?_cons]
    by_cases d : x.1 = k
    · rw [if_pos d]
      show (match decide (x.1 = k) with | true => some (x.1, a) | false => _).map _ = _
      rw [decide_eq_true d]
      rfl
    · rw [if_neg d, decide_eq_false d]
      rw [List.any_cons, decide_eq_false d, Bool.false_or] at c
      exact atS_map c
theorem atS_put {α : Type} (k : Int) (a : α) (l : List (Int × α)) : atS (putS l k a) k = some a := by
  unfold putS
  by_cases c : (l.any fun x => decide (x.1 = k)) = true
  · rw [if_pos c]
    exact atS_map c
  · rw [if_neg c]
    unfold atS
    rw [List.find?_append]
    have e : l.find? (fun x => decide (x.1 = k)) = none := by
      rw [List.find?_eq_none]
      intro x hx z
      exact c (List.any_eq_true.mpr ⟨x, hx, z⟩)
    rw [e]
    show (List.find? (fun x => decide (x.1 = k)) [(k, a)]).map _ = _
    rw [List.find?_cons, decide_eq_true rfl]
    rfl
theorem Paired.last {α β : Type} {F : α → β → Prop} {b : β} : ∀ {m : List β} {l : List α}, Paired F l (m ++ [b]) → ∃ l' a, l = l' ++ [a] ∧ F a b
  | [], _, .cons r .nil => ⟨[], _, rfl, r⟩
  | _ :: m, _, .cons r t => by
    obtain ⟨l', a, e, f⟩ := Paired.last (m := m) t
    exact ⟨_ :: l', a, by rw [e]; rfl, f⟩
theorem keptOf_snoc (ps : List Part) (p : Part) (s : Nat) : keptOf (ps ++ [p]) s = keptOf ps s ++ (if p.2.1 < s then [(p.1, p.2.1, min p.2.2 s)] else []) := by
  unfold keptOf
  rw [List.filter_append, List.map_append, List.filter_cons]
  by_cases c : p.2.1 < s
  · rw [if_pos c, if_pos (decide_eq_true c)]
    rfl
  · rw [if_neg c, if_neg (by rw [decide_eq_false c]; decide)]
    rfl
theorem goneOf_snoc (ps : List Part) (p : Part) (s : Nat) : goneOf (ps ++ [p]) s = goneOf ps s ++ (if s < p.2.2 then [(p.1, max p.2.1 s, p.2.2)] else []) := by
  unfold goneOf
  rw [List.filter_append, List.map_append, List.filter_cons]
  by_cases c : s < p.2.2
  · rw [if_pos c, if_pos (decide_eq_true c)]
    rfl
  · rw [if_neg c, if_neg (by rw [decide_eq_false c]; decide)]
    rfl
theorem goneOf_len (ps : List Part) (s : Nat) : (goneOf ps s).length ≤ ps.length := by
  unfold goneOf
  rw [List.length_map]
  exact List.length_filter_le _ _
theorem keptOf_len (ps : List Part) (s : Nat) : (keptOf ps s).length ≤ ps.length := by
  unfold keptOf
  rw [List.length_map]
  exact List.length_filter_le _ _
end Leg
namespace Leg
open PySem PySem.Spec PyProof.Rows L2 Evl
/-! ### data compared -/
def dPart (p : Part) : PyData := .tuple [.int (p.1 : Int), .int (p.2.1 : Int), .int (p.2.2 : Int)]
theorem dPart_shaped (p : Part) : SeqAt.shaped (dPart p) = true := rfl
theorem dPart_eqv (p q : Part) : PyData.eqv (dPart p) (dPart q) = decide (p = q) := by
  show ((p.1 : Int) == (q.1 : Int) && ((p.2.1 : Int) == (q.2.1 : Int) && ((p.2.2 : Int) == (q.2.2 : Int) && true))) = decide (p = q)
  by_cases c : p = q
  · subst c
    rw [decide_eq_true rfl]
    simp
  · rw [decide_eq_false c]
    obtain ⟨a, b, d⟩ := p
    obtain ⟨a', b', d'⟩ := q
    simp only [Prod.mk.injEq] at c
    simp only [Bool.and_eq_false_iff, beq_eq_false_iff_ne, Bool.and_true]
    omega
theorem dPart_at {K : PySem.W.Frag} {H : Hp} {a : Addr} {p : Part} (h : partV H a p) : Dp K H (.ref a) (dPart p) := .tup (SqT.of h) (.cons (.int _) (.cons (.int _) (.cons (.int _) .nil)))
/-! ### what the laws draw -/
def seatsOf (c : Int) : Int := if c / 5 % 8 = 1 then 50 + c / 40 % 11 else if c / 5 % 8 = 2 then 6 + c / 40 % 44 else 1 + c % 5
def stopsOf (c : Int) : Int := if c / 8 % 8 = 1 then 50 + c / 64 % 11 else if c / 8 % 8 = 2 then 10 + c / 64 % 40 else 2 + c % 8
theorem seatsOf_ok (c : Int) : 1 ≤ seatsOf c ∧ seatsOf c ≤ 60 := by
  unfold seatsOf
  split
  · omega
  · split <;> omega
theorem stopsOf_ok (c : Int) : 2 ≤ stopsOf c ∧ stopsOf c ≤ 60 := by
  unfold stopsOf
  split
  · omega
  · split <;> omega
def someOf : List Int := [99991, 99989, 99971, 99961, 99929, 99923, 99907, 99901, 99881, 99877, 99871]
def madeOf (c k : Int) : Int := (c + 7 * k) * 48271 % someOf.getD (k % 11).toNat 0
def mixedOf (c k m : Int) : Int := (madeOf c k * madeOf c k * 7 + madeOf c k + k) % 1000003 % m
theorem someOf_ok : ∀ j : Fin 11, 0 < someOf.getD j.val 0 ∧ someOf.getD j.val 0 ≤ 99991 := by decide +kernel
theorem someOf_pos (k : Int) : 0 < someOf.getD (k % 11).toNat 0 ∧ someOf.getD (k % 11).toNat 0 ≤ 99991 := someOf_ok ⟨(k % 11).toNat, by omega⟩
theorem madeOf_ok (c k : Int) : 0 ≤ madeOf c k ∧ madeOf c k < 99991 := by
  obtain ⟨h1, h2⟩ := someOf_pos k
  unfold madeOf
  have a := Int.emod_nonneg ((c + 7 * k) * 48271) (show someOf.getD (k % 11).toNat 0 ≠ 0 by omega)
  have b := Int.emod_lt_of_pos ((c + 7 * k) * 48271) h1
  omega
theorem mixedOf_ok (c k : Int) {m : Int} (h : 0 < m) : 0 ≤ mixedOf c k m ∧ mixedOf c k m < m := ⟨Int.emod_nonneg _ (by omega), Int.emod_lt_of_pos _ h⟩
end Leg
/-! What a deed makes of a train; a new train. -/
namespace Leg
open PySem PySem.Spec PyProof.Rows L2 Evl
def nV : Option Nat → V
  | none => .non
  | some i => .int (i : Int)
/-- what the parts stand on is there -/
def Fits (t : Tr) (ps : List Part) : Prop := ∀ p ∈ ps, p.1 < t.S ∧ p.2.1 < p.2.2 ∧ p.2.2 ≤ t.N - 1
def sellT (t : Tr) (i j : Nat) : Tr := { t with held := mark t.held (found t.held i j) (some t.next), sold := putS t.sold t.next (found t.held i j), next := t.next + 1 }
def backT (t : Tr) (k : Int) (ps : List Part) : Tr := { t with held := mark t.held ps none, sold := dropS t.sold k }
def leaveT (t : Tr) (k : Int) (ps : List Part) (s : Nat) : Tr := { t with held := mark t.held (goneOf ps s) none, sold := putS t.sold k (keptOf ps s) }
/-- the parts that a ticket has behind it is seated anew -/
def anew (t : Tr) (ps : List Part) : List Part := found (mark t.held ps none) (firstOf ps) (lastOf ps)
def reseatT (t : Tr) (k : Int) (ps : List Part) : Tr := { t with held := mark (mark t.held ps none) (anew t ps) (some k), sold := putS t.sold k (anew t ps) }
def freshTr (S N : Nat) : Tr := ⟨S, N, List.replicate S (List.replicate (N - 1) none), [], 0⟩
theorem fresh_row {S N : Nat} {i : Nat} {r : List (Option Int)} (h : (freshTr S N).held[i]? = some r) : r = List.replicate (N - 1) none := List.eq_of_mem_replicate (List.mem_of_getElem? h)
theorem fresh_reach {n s : Nat} (h : s ≤ n) : reach (List.replicate n none) s = n := by
  unfold reach
  rw [List.drop_replicate, List.takeWhile_replicate, if_pos (show (none : Option Int).isNone = true from rfl), List.length_replicate]
  omega
theorem fresh_load {S N l : Nat} : loadOf (freshTr S N).held l = 0 := by
  unfold loadOf freshTr
  dsimp only
  rw [List.filter_replicate, if_neg]
  · rfl
  · rw [List.getElem?_replicate]
    split <;> decide
theorem fresh_full {S N b n : Nat} (hS : 1 ≤ S) : fullFrom (freshTr S N).held b n = none := fullFrom_none fun j _ _ => by
  rw [fresh_load]
  show 0 ≠ (List.replicate S (List.replicate (N - 1) (none : Option Int))).length
  rw [List.length_replicate]
  omega
theorem fresh_found {S N b e : Nat} (hS : 1 ≤ S) (h : b < e) (he : e ≤ N - 1) : found (freshTr S N).held b e = [(0, b, e)] := by
  have hl : ∀ r ∈ (freshTr S N).held, r.length = N - 1 := fun r hr => by
    rw [List.eq_of_mem_replicate hr, List.length_replicate]
  have hf : ∀ l, loadOf (freshTr S N).held l ≠ (freshTr S N).held.length := fun l => by
    rw [fresh_load]
    show 0 ≠ (List.replicate S (List.replicate (N - 1) (none : Option Int))).length
    rw [List.length_replicate]
    omega
  have g0 : (freshTr S N).held[0]? = some (List.replicate (N - 1) none) := by
    show (List.replicate S (List.replicate (N - 1) (none : Option Int)))[0]? = _
    rw [List.getElem?_replicate, if_pos (by omega)]
  have rr : reach (List.replicate (N - 1) (none : Option Int)) b = N - 1 := fresh_reach (by omega)
  obtain ⟨h1, h2, h3, r, h4, h5, h6⟩ := best_is h (fun r hr => by rw [hl r hr]; omega) (hf b)
  have h3 := h3 0 _ g0
  rw [rr] at h3
  have e2 : (best (freshTr S N).held b e).2 = e := by omega
  have e1 : (best (freshTr S N).held b e).1 = 0 := by
    by_cases c : 0 < (best (freshTr S N).held b e).1
    · have h6 := h6 0 _ g0 c
      rw [rr] at h6
      omega
    · omega
  rw [found_cons (goes_of (fun r hr => by rw [hl r hr]; omega) fun l _ _ => hf l) h, e1, e2, found_nil (by omega)]
end Leg
namespace Leg
open PySem PySem.Spec PyProof.Rows L2
def top (i : Nat) : Stmt := PySem.Challenge.pw_legseats_k01_a_new_train.main.body.getD i (.Pass ⟨0, 0, 0, 0⟩)
abbrev s_Train_init : Stmt := inClass (top 17) 0
abbrev s_Train_tickets : Stmt := inClass (top 17) 6
abbrev s_Train_blocked : Stmt := inClass (top 17) 8
abbrev s_Train_farthest : Stmt := inClass (top 17) 9
abbrev s_Train_holder : Stmt := inClass (top 17) 10
abbrev s_Train_load : Stmt := inClass (top 17) 11
abbrev s_Train_size : Stmt := inClass (top 17) 12
abbrev s_Train__check_seat : Stmt := inClass (top 17) 16
abbrev s_Train__check_leg : Stmt := inClass (top 17) 17
abbrev s_Train__check_stretch : Stmt := inClass (top 17) 18
abbrev s_law_cell_at : Stmt := top 19
abbrev s_law_whole : Stmt := top 20
abbrev s_law_mixed : Stmt := top 21
abbrev s_law_class : Stmt := top 22
abbrev s_law_numbers : Stmt := top 23
abbrev s_law_size_by : Stmt := top 24
abbrev s_law_empty : Stmt := top 25
abbrev s_law : Stmt := top 26
theorem sc_Train_init : FnScope ["self", "seats", "stops", "_"] ["self", "seats", "stops"] (defScope s_Train_init) := ⟨rfl, rfl, rfl, by decide +kernel, rfl, by decide +kernel, by decide +kernel⟩
theorem sc_Train_tickets : FnScope ["self"] ["self"] (defScope s_Train_tickets) := ⟨rfl, rfl, rfl, by decide +kernel, rfl, by decide +kernel, by decide +kernel⟩
theorem sc_Train_blocked : FnScope ["self", "begin", "end", "leg"] ["self", "begin", "end"] (defScope s_Train_blocked) := ⟨rfl, rfl, rfl, by decide +kernel, rfl, by decide +kernel, by decide +kernel⟩
theorem sc_Train_farthest : FnScope ["self", "seat", "stop", "held", "reached"] ["self", "seat", "stop"] (defScope s_Train_farthest) := ⟨rfl, rfl, rfl, by decide +kernel, rfl, by decide +kernel, by decide +kernel⟩
theorem sc_Train_holder : FnScope ["self", "seat", "leg"] ["self", "seat", "leg"] (defScope s_Train_holder) := ⟨rfl, rfl, rfl, by decide +kernel, rfl, by decide +kernel, by decide +kernel⟩
theorem sc_Train_load : FnScope ["self", "leg", "held"] ["self", "leg"] (defScope s_Train_load) := ⟨rfl, rfl, rfl, by decide +kernel, rfl, by decide +kernel, by decide +kernel⟩
theorem sc_Train_size : FnScope ["self"] ["self"] (defScope s_Train_size) := ⟨rfl, rfl, rfl, by decide +kernel, rfl, by decide +kernel, by decide +kernel⟩
theorem sc_Train__check_seat : FnScope ["self", "seat"] ["self", "seat"] (defScope s_Train__check_seat) := ⟨rfl, rfl, rfl, by decide +kernel, rfl, by decide +kernel, by decide +kernel⟩
theorem sc_Train__check_leg : FnScope ["self", "leg"] ["self", "leg"] (defScope s_Train__check_leg) := ⟨rfl, rfl, rfl, by decide +kernel, rfl, by decide +kernel, by decide +kernel⟩
theorem sc_Train__check_stretch : FnScope ["self", "begin", "end"] ["self", "begin", "end"] (defScope s_Train__check_stretch) := ⟨rfl, rfl, rfl, by decide +kernel, rfl, by decide +kernel, by decide +kernel⟩
theorem sc_law_cell_at : FnScope ["_law_script", "_law_k"] ["_law_script", "_law_k"] (defScope s_law_cell_at) := ⟨rfl, rfl, rfl, by decide +kernel, rfl, by decide +kernel, by decide +kernel⟩
theorem sc_law_whole : FnScope ["_law_found"] ["_law_found"] (defScope s_law_whole) := ⟨rfl, rfl, rfl, by decide +kernel, rfl, by decide +kernel, by decide +kernel⟩
theorem sc_law_mixed : FnScope ["_law_cell", "_law_k", "_law_many", "_law_some", "_law_made"] ["_law_cell", "_law_k", "_law_many"] (defScope s_law_mixed) := ⟨rfl, rfl, rfl, by decide +kernel, rfl, by decide +kernel, by decide +kernel⟩
theorem sc_law_class : FnScope ["_law_e", "_law_words"] ["_law_e"] (defScope s_law_class) := ⟨rfl, rfl, rfl, by decide +kernel, rfl, by decide +kernel, by decide +kernel⟩
theorem sc_law_numbers : FnScope ["_law_found", "_law_due", "_law_k"] ["_law_found", "_law_due"] (defScope s_law_numbers) := ⟨rfl, rfl, rfl, by decide +kernel, rfl, by decide +kernel, by decide +kernel⟩
theorem sc_law_size_by : FnScope ["_law_cell"] ["_law_cell"] (defScope s_law_size_by) := ⟨rfl, rfl, rfl, by decide +kernel, rfl, by decide +kernel, by decide +kernel⟩
theorem sc_law_empty : FnScope ["_law_train", "_law_seats", "_law_stops", "_law_seat", "_law_stop", "_law_found", "_law_leg"] ["_law_train", "_law_seats", "_law_stops"] (defScope s_law_empty) := ⟨rfl, rfl, rfl, by decide +kernel, rfl, by decide +kernel, by decide +kernel⟩
theorem sc_law : FnScope ["_law_script", "_law_seats", "_law_stops", "_law_word", "_law_train", "_law_e", "_law_size"] ["_law_script"] (defScope s_law) := ⟨rfl, rfl, rfl, by decide +kernel, rfl, by decide +kernel, by decide +kernel⟩
structure Facts (K : PySem.W.Frag) (mg : Str → Option Value) : Prop where
  cT : Cls K (He.ga K "Train")
  gT : mg "Train" = some (.ref (He.ga K "Train"))
  mkT : Mk K (He.ga K "Train") (He.ma K (He.ga K "Train") "__init__")
  na_seats : NoAttr K (He.ga K "Train") "_seats"
  na_stops : NoAttr K (He.ga K "Train") "_stops"
  na_legs : NoAttr K (He.ga K "Train") "_legs"
  na_held : NoAttr K (He.ga K "Train") "_held"
  na_sold : NoAttr K (He.ga K "Train") "_sold"
  na_next : NoAttr K (He.ga K "Train") "_next"
  fu_Train_init : ∃ fd, Fun K "__init__" "Train.__init__" s_Train_init (He.ma K (He.ga K "Train") "__init__") fd
  me_Train_tickets : Meth K (He.ga K "Train") "tickets" (He.ma K (He.ga K "Train") "tickets")
  fu_Train_tickets : ∃ fd, Fun K "tickets" "Train.tickets" s_Train_tickets (He.ma K (He.ga K "Train") "tickets") fd
  me_Train_blocked : Meth K (He.ga K "Train") "blocked" (He.ma K (He.ga K "Train") "blocked")
  fu_Train_blocked : ∃ fd, Fun K "blocked" "Train.blocked" s_Train_blocked (He.ma K (He.ga K "Train") "blocked") fd
  me_Train_farthest : Meth K (He.ga K "Train") "farthest" (He.ma K (He.ga K "Train") "farthest")
  fu_Train_farthest : ∃ fd, Fun K "farthest" "Train.farthest" s_Train_farthest (He.ma K (He.ga K "Train") "farthest") fd
  me_Train_holder : Meth K (He.ga K "Train") "holder" (He.ma K (He.ga K "Train") "holder")
  fu_Train_holder : ∃ fd, Fun K "holder" "Train.holder" s_Train_holder (He.ma K (He.ga K "Train") "holder") fd
  me_Train_load : Meth K (He.ga K "Train") "load" (He.ma K (He.ga K "Train") "load")
  fu_Train_load : ∃ fd, Fun K "load" "Train.load" s_Train_load (He.ma K (He.ga K "Train") "load") fd
  me_Train_size : Meth K (He.ga K "Train") "size" (He.ma K (He.ga K "Train") "size")
  fu_Train_size : ∃ fd, Fun K "size" "Train.size" s_Train_size (He.ma K (He.ga K "Train") "size") fd
  me_Train__check_seat : Meth K (He.ga K "Train") "_check_seat" (He.ma K (He.ga K "Train") "_check_seat")
  fu_Train__check_seat : ∃ fd, Fun K "_check_seat" "Train._check_seat" s_Train__check_seat (He.ma K (He.ga K "Train") "_check_seat") fd
  me_Train__check_leg : Meth K (He.ga K "Train") "_check_leg" (He.ma K (He.ga K "Train") "_check_leg")
  fu_Train__check_leg : ∃ fd, Fun K "_check_leg" "Train._check_leg" s_Train__check_leg (He.ma K (He.ga K "Train") "_check_leg") fd
  me_Train__check_stretch : Meth K (He.ga K "Train") "_check_stretch" (He.ma K (He.ga K "Train") "_check_stretch")
  fu_Train__check_stretch : ∃ fd, Fun K "_check_stretch" "Train._check_stretch" s_Train__check_stretch (He.ma K (He.ga K "Train") "_check_stretch") fd
  g_law_cell_at : mg "_law_cell_at" = some (.ref (He.ga K "_law_cell_at"))
  fu_law_cell_at : ∃ fd, Fun K "_law_cell_at" "_law_cell_at" s_law_cell_at (He.ga K "_law_cell_at") fd
  g_law_whole : mg "_law_whole" = some (.ref (He.ga K "_law_whole"))
  fu_law_whole : ∃ fd, Fun K "_law_whole" "_law_whole" s_law_whole (He.ga K "_law_whole") fd
  g_law_mixed : mg "_law_mixed" = some (.ref (He.ga K "_law_mixed"))
  fu_law_mixed : ∃ fd, Fun K "_law_mixed" "_law_mixed" s_law_mixed (He.ga K "_law_mixed") fd
  g_law_class : mg "_law_class" = some (.ref (He.ga K "_law_class"))
  fu_law_class : ∃ fd, Fun K "_law_class" "_law_class" s_law_class (He.ga K "_law_class") fd
  g_law_numbers : mg "_law_numbers" = some (.ref (He.ga K "_law_numbers"))
  fu_law_numbers : ∃ fd, Fun K "_law_numbers" "_law_numbers" s_law_numbers (He.ga K "_law_numbers") fd
  g_law_size_by : mg "_law_size_by" = some (.ref (He.ga K "_law_size_by"))
  fu_law_size_by : ∃ fd, Fun K "_law_size_by" "_law_size_by" s_law_size_by (He.ga K "_law_size_by") fd
  g_law_empty : mg "_law_empty" = some (.ref (He.ga K "_law_empty"))
  fu_law_empty : ∃ fd, Fun K "_law_empty" "_law_empty" s_law_empty (He.ga K "_law_empty") fd
  g_law : mg "law" = some (.ref (He.ga K "law"))
  fu_law : ∃ fd, Fun K "law" "law" s_law (He.ga K "law") fd
  b_len : mg "len" = none
  b_range : mg "range" = none
  b_isinstance : mg "isinstance" = none
  b_sorted : mg "sorted" = none
  b_list : mg "list" = none
  b_int : mg "int" = none
  b_bool : mg "bool" = none
  b_tuple : mg "tuple" = none
  b_ValueError : mg "ValueError" = none
  i_LEAST_SEATS : ∃ t, mg "LEAST_SEATS" = some (.int 1 t)
  i_MOST_SEATS : ∃ t, mg "MOST_SEATS" = some (.int 60 t)
  i_LEAST_STOPS : ∃ t, mg "LEAST_STOPS" = some (.int 2 t)
  i_MOST_STOPS : ∃ t, mg "MOST_STOPS" = some (.int 60 t)
  gx_SeatError : mg "SeatError" = some (.ref (He.ga K "SeatError"))
  x_SeatError : PySem.W.excIn K (He.ga K "SeatError") He.veBase "ValueError.__new__" = true ∧ PySem.W.keepIn K (.ref (He.ga K "SeatError")) = true ∧ PySem.W.subIn K (.ref (He.ga K "SeatError")) (.type "BaseException") = some true ∧ PySem.W.typeIn K (.ref (He.ga K "SeatError")) = some (.type "type")
  gx_NoTrain : mg "NoTrain" = some (.ref (He.ga K "NoTrain"))
  x_NoTrain : PySem.W.excIn K (He.ga K "NoTrain") He.veBase "ValueError.__new__" = true ∧ PySem.W.keepIn K (.ref (He.ga K "NoTrain")) = true ∧ PySem.W.subIn K (.ref (He.ga K "NoTrain")) (.type "BaseException") = some true ∧ PySem.W.typeIn K (.ref (He.ga K "NoTrain")) = some (.type "type")
  gx_NoStretch : mg "NoStretch" = some (.ref (He.ga K "NoStretch"))
  x_NoStretch : PySem.W.excIn K (He.ga K "NoStretch") He.veBase "ValueError.__new__" = true ∧ PySem.W.keepIn K (.ref (He.ga K "NoStretch")) = true ∧ PySem.W.subIn K (.ref (He.ga K "NoStretch")) (.type "BaseException") = some true ∧ PySem.W.typeIn K (.ref (He.ga K "NoStretch")) = some (.type "type")
  gx_NoSeat : mg "NoSeat" = some (.ref (He.ga K "NoSeat"))
  x_NoSeat : PySem.W.excIn K (He.ga K "NoSeat") He.veBase "ValueError.__new__" = true ∧ PySem.W.keepIn K (.ref (He.ga K "NoSeat")) = true ∧ PySem.W.subIn K (.ref (He.ga K "NoSeat")) (.type "BaseException") = some true ∧ PySem.W.typeIn K (.ref (He.ga K "NoSeat")) = some (.type "type")
  gx_NoStop : mg "NoStop" = some (.ref (He.ga K "NoStop"))
  x_NoStop : PySem.W.excIn K (He.ga K "NoStop") He.veBase "ValueError.__new__" = true ∧ PySem.W.keepIn K (.ref (He.ga K "NoStop")) = true ∧ PySem.W.subIn K (.ref (He.ga K "NoStop")) (.type "BaseException") = some true ∧ PySem.W.typeIn K (.ref (He.ga K "NoStop")) = some (.type "type")
  gx_NoLeg : mg "NoLeg" = some (.ref (He.ga K "NoLeg"))
  x_NoLeg : PySem.W.excIn K (He.ga K "NoLeg") He.veBase "ValueError.__new__" = true ∧ PySem.W.keepIn K (.ref (He.ga K "NoLeg")) = true ∧ PySem.W.subIn K (.ref (He.ga K "NoLeg")) (.type "BaseException") = some true ∧ PySem.W.typeIn K (.ref (He.ga K "NoLeg")) = some (.type "type")
  gx_NoTicket : mg "NoTicket" = some (.ref (He.ga K "NoTicket"))
  x_NoTicket : PySem.W.excIn K (He.ga K "NoTicket") He.veBase "ValueError.__new__" = true ∧ PySem.W.keepIn K (.ref (He.ga K "NoTicket")) = true ∧ PySem.W.subIn K (.ref (He.ga K "NoTicket")) (.type "BaseException") = some true ∧ PySem.W.typeIn K (.ref (He.ga K "NoTicket")) = some (.type "type")
  gx_Full : mg "Full" = some (.ref (He.ga K "Full"))
  x_Full : PySem.W.excIn K (He.ga K "Full") He.veBase "ValueError.__new__" = true ∧ PySem.W.keepIn K (.ref (He.ga K "Full")) = true ∧ PySem.W.subIn K (.ref (He.ga K "Full")) (.type "BaseException") = some true ∧ PySem.W.typeIn K (.ref (He.ga K "Full")) = some (.type "type")
  gx_Shared : mg "Shared" = some (.ref (He.ga K "Shared"))
  x_Shared : PySem.W.excIn K (He.ga K "Shared") He.veBase "ValueError.__new__" = true ∧ PySem.W.keepIn K (.ref (He.ga K "Shared")) = true ∧ PySem.W.subIn K (.ref (He.ga K "Shared")) (.type "BaseException") = some true ∧ PySem.W.typeIn K (.ref (He.ga K "Shared")) = some (.type "type")
  gx_NoText : mg "NoText" = some (.ref (He.ga K "NoText"))
  x_NoText : PySem.W.excIn K (He.ga K "NoText") He.veBase "ValueError.__new__" = true ∧ PySem.W.keepIn K (.ref (He.ga K "NoText")) = true ∧ PySem.W.subIn K (.ref (He.ga K "NoText")) (.type "BaseException") = some true ∧ PySem.W.typeIn K (.ref (He.ga K "NoText")) = some (.type "type")
  ex_NoTrain : PySem.W.exmOne K (.ref (He.ga K "NoTrain")) (.ref (He.ga K "SeatError")) = some true
  ex_NoStretch : PySem.W.exmOne K (.ref (He.ga K "NoStretch")) (.ref (He.ga K "SeatError")) = some true
  ex_NoSeat : PySem.W.exmOne K (.ref (He.ga K "NoSeat")) (.ref (He.ga K "SeatError")) = some true
  ex_NoStop : PySem.W.exmOne K (.ref (He.ga K "NoStop")) (.ref (He.ga K "SeatError")) = some true
  ex_NoLeg : PySem.W.exmOne K (.ref (He.ga K "NoLeg")) (.ref (He.ga K "SeatError")) = some true
  ex_NoTicket : PySem.W.exmOne K (.ref (He.ga K "NoTicket")) (.ref (He.ga K "SeatError")) = some true
  ex_Full : PySem.W.exmOne K (.ref (He.ga K "Full")) (.ref (He.ga K "SeatError")) = some true
  ex_Shared : PySem.W.exmOne K (.ref (He.ga K "Shared")) (.ref (He.ga K "SeatError")) = some true
  ex_NoText : PySem.W.exmOne K (.ref (He.ga K "NoText")) (.ref (He.ga K "SeatError")) = some true
  hot : ∀ x ∈ (["NoTrain"] : List Str), HotF K ["NoTrain", "NoStretch", "NoSeat", "NoStop", "NoLeg", "NoTicket", "Full", "Shared", "NoText"] x
end Leg
set_option maxHeartbeats 4000000
namespace Leg
open PySem PySem.Spec PyProof.Rows L2 Evl
/-! ### the promises -/
def spInitTr (K : PySem.W.Frag) : Sp := fun vs H Q E => ∃ (p dx : Addr) (S N : Int), vs = [.ref p, .int S, .int N] ∧ H p = some (.ins (He.ga K "Train") dx []) ∧
  ((1 ≤ S ∧ S ≤ 60 ∧ 2 ≤ N ∧ N ≤ 60) → ∀ (L : Lay) (H' : Hp), L.p = p → L.dx = dx → TrainAt K H' L ⟨S.toNat, N.toNat, List.replicate S.toNat (List.replicate (N.toNat - 1) none), [], 0⟩ → (∀ b o, H b = some o → b ≠ p → H' b = some o) →
    (H L.h = none ∧ H L.d = none ∧ ∀ a ∈ L.rows, H a = none) → Q .non H') ∧
  (¬ (1 ≤ S ∧ S ≤ 60 ∧ 2 ≤ N ∧ N ≤ 60) → E (.ref (He.ga K "NoTrain")) none H)
def spCheckSeat (K : PySem.W.Frag) : Sp := fun vs H Q E => ∃ (L : Lay) (t : Tr) (i : Int), vs = [.ref L.p, .int i] ∧ TrainAt K H L t ∧ ((0 ≤ i ∧ i < t.S) → Q .non H) ∧ (¬ (0 ≤ i ∧ i < t.S) → E (.ref (He.ga K "NoSeat")) none H)
def spCheckLeg (K : PySem.W.Frag) : Sp := fun vs H Q E => ∃ (L : Lay) (t : Tr) (i : Int), vs = [.ref L.p, .int i] ∧ TrainAt K H L t ∧ ((0 ≤ i ∧ i < t.N - 1) → Q .non H) ∧ (¬ (0 ≤ i ∧ i < t.N - 1) → E (.ref (He.ga K "NoLeg")) none H)
def spFarthest (K : PySem.W.Frag) : Sp := fun vs H Q E => ∃ (L : Lay) (t : Tr) (i j : Int), vs = [.ref L.p, .int i, .int j] ∧ TrainAt K H L t ∧
  (∀ r, 0 ≤ i → t.held[i.toNat]? = some r → 0 ≤ j → j < t.N → Q (.int (reach r j.toNat)) H) ∧ (¬ (0 ≤ i ∧ i < t.S) → E (.ref (He.ga K "NoSeat")) none H) ∧ ((0 ≤ i ∧ i < t.S) → ¬ (0 ≤ j ∧ j < t.N) → E (.ref (He.ga K "NoStop")) none H)
def spHolder (K : PySem.W.Frag) : Sp := fun vs H Q E => ∃ (L : Lay) (t : Tr) (i j : Int), vs = [.ref L.p, .int i, .int j] ∧ TrainAt K H L t ∧
  (∀ r x, 0 ≤ i → t.held[i.toNat]? = some r → 0 ≤ j → r[j.toNat]? = some x → Q (oV x) H) ∧ (¬ (0 ≤ i ∧ i < t.S) → E (.ref (He.ga K "NoSeat")) none H) ∧ ((0 ≤ i ∧ i < t.S) → ¬ (0 ≤ j ∧ j < t.N - 1) → E (.ref (He.ga K "NoLeg")) none H)
def spLoad (K : PySem.W.Frag) : Sp := fun vs H Q E => ∃ (L : Lay) (t : Tr) (j : Int), vs = [.ref L.p, .int j] ∧ TrainAt K H L t ∧
  ((0 ≤ j ∧ j < t.N - 1) → ∀ H', Ex H H' → Q (.int (loadOf t.held j.toNat)) H') ∧ (¬ (0 ≤ j ∧ j < t.N - 1) → E (.ref (He.ga K "NoLeg")) none H)
def spCheckStretch (K : PySem.W.Frag) : Sp := fun vs H Q E => ∃ (L : Lay) (t : Tr) (i j : Int), vs = [.ref L.p, .int i, .int j] ∧ TrainAt K H L t ∧ ((0 ≤ i ∧ i < j ∧ j < t.N) → Q .non H) ∧ (¬ (0 ≤ i ∧ i < j ∧ j < t.N) → E (.ref (He.ga K "NoStretch")) none H)
def spBlocked (K : PySem.W.Frag) : Sp := fun vs H Q E => ∃ (L : Lay) (t : Tr) (i j : Int), vs = [.ref L.p, .int i, .int j] ∧ TrainAt K H L t ∧
  ((0 ≤ i ∧ i < j ∧ j < t.N) → ∀ H', Ex H H' → Q (nV (fullFrom t.held i.toNat (j.toNat - i.toNat))) H') ∧ (¬ (0 ≤ i ∧ i < j ∧ j < t.N) → E (.ref (He.ga K "NoStretch")) none H)
def spSize (K : PySem.W.Frag) : Sp := fun vs H Q _ => ∃ (L : Lay) (t : Tr), vs = [.ref L.p] ∧ TrainAt K H L t ∧ ∀ a, H a = none → Q (.ref a) (upd H a (.tup [.int t.S, .int t.N]))
def spTickets (K : PySem.W.Frag) : Sp := fun vs H Q _ => ∃ (L : Lay) (t : Tr), vs = [.ref L.p] ∧ TrainAt K H L t ∧ ∀ (a : Addr) (ns : List Int), H a = none → ns.Perm (t.sold.map (·.1)) → ns.Pairwise (· ≤ ·) → Q (.ref a) (upd H a (.lst (ns.map V.int)))
section
variable {P : Program} {w : World} {K : PySem.W.Frag} {mg : Str → Option Value} {base : Heap}

theorem good_Train_init (T : Facts K mg) : Good P w K mg base (CN P w) 1 (He.ma K (He.ga K "Train") "__init__") ["self", "seats", "stops"] (spInitTr K) := by
  obtain ⟨fd, F⟩ := T.fu_Train_init
  obtain ⟨_, hm_LEAST_SEATS⟩ := T.i_LEAST_SEATS
  obtain ⟨_, hm_MOST_SEATS⟩ := T.i_MOST_SEATS
  obtain ⟨_, hm_LEAST_STOPS⟩ := T.i_LEAST_STOPS
  obtain ⟨_, hm_MOST_STOPS⟩ := T.i_MOST_STOPS
  refine ⟨fd, ?_, F.binds (ps := ["self", "seats", "stops"]) fun _ _ _ _ _ _ us hl => match us, hl with | [_, _, _], _ => rfl, F.kp⟩
  refine okN F sc_Train_init (fun vs H Q E h => ?_) (fun cdv A outer s H vs Q E hr h => ?_)
  · obtain ⟨p, dx, S, N, rfl, hp, hy, hn⟩ := h
    rfl
  · obtain ⟨p, dx, S, N, rfl, hp, hy, hn⟩ := h
    refine ⟨_, (pss_cons (ps_if (pt_not (pt_chain op_le op_le (pe_glob (v := .int 1) rfl hm_LEAST_SEATS ⟨_, rfl⟩) (pv 1) (pe_glob (v := .int 60) rfl hm_MOST_SEATS ⟨_, rfl⟩))) (pss_one (L2N.ps_raise rfl (L2N.takes_of rfl rfl rfl rfl) (L2N.pmk_own PySem.F.excBase_ValueError T.x_NoTrain.1 T.gx_NoTrain T.x_NoTrain.2.1 (raises_own T.x_NoTrain.2.2.1 T.x_NoTrain.2.2.2) (by exact rfl)))) pss_nil) (pss_cons (ps_if (pt_not (pt_chain op_le op_le (pe_glob (v := .int 2) rfl hm_LEAST_STOPS ⟨_, rfl⟩) (pv 2) (pe_glob (v := .int 60) rfl hm_MOST_STOPS ⟨_, rfl⟩))) (pss_one (L2N.ps_raise rfl (L2N.takes_of rfl rfl rfl rfl) (L2N.pmk_own PySem.F.excBase_ValueError T.x_NoTrain.1 T.gx_NoTrain T.x_NoTrain.2.1 (raises_own T.x_NoTrain.2.2.1 T.x_NoTrain.2.2.2) (by exact rfl)))) pss_nil) (pss_cons (ps_fld (pv 0) (pv 1) rfl) (pss_cons (ps_fld (pv 0) (pv 2) rfl) (pss_cons (ps_fld (pv 0) (pe_op op_sub (pv 2) pe_int) rfl) (pss_cons (ps_fld (pv 0) (pe_lc (own := [("_", 3)]) (te := (tOp rRep (tLst (tCons (tC .non) tNil)) (tFld K (tVar 0) "_legs"))) (tt := tYes) (by rfl) sc_Train_init.nd (pi_range1 (by rfl) T.b_range (pa_cons (pv 1) pa_nil)) (blkOk_by (own := [("_", 3)]) (N := ["self", "seats", "stops", "_"]) (sc := defScope s_Train_init) (by decide +kernel)) (fun _ _ _ _ _ => pg_name (i := 3) sc_Train_init.nd rfl (by first | exact Or.inl rfl | exact Or.inr rfl)) (fun _ _ _ _ _ => pts_nil) (fun _ _ _ _ _ => (pe_op op_rep (pe_lst (pa_cons pe_non pa_nil)) (pe_fld (pv 0) rfl)))) rfl) (pss_cons (ps_fld (pv 0) pe_dnewK rfl) (pss_one (ps_fld (pv 0) pe_int rfl))))))))), ?_⟩
    refine ⟨_, rfl, _, _, rfl, rfl, _, rfl, ?_⟩
    refine chainI (fun h0 => ⟨_, _, rfl, rfl, _, rfl, ?_⟩) (fun h0 => iteT (hn fun z => h0 z.1))
    refine iteN (fun h1 => ?_) (fun h1 => hn fun z => h1 z.2.1)
    refine ⟨_, rfl, _, _, rfl, rfl, _, rfl, ?_⟩
    refine chainI (fun h02 => ⟨_, _, rfl, rfl, _, rfl, ?_⟩) (fun h02 => iteT (hn fun z => h02 z.2.2.1))
    refine iteN (fun h2 => ?_) (fun h2 => hn fun z => h2 z.2.2.2)
    have hy := hy ⟨h0, h1, h02, h2⟩
    refine ⟨_, rfl, _, rfl, p, _, dx, _, rfl, hp, T.cT, T.na_seats, (by show 0 < 1000; decide), ?_⟩
    refine ⟨_, rfl, _, rfl, p, _, dx, _, rfl, upd_same, T.cT, T.na_stops, (by show 1 < 1000; decide), ?_⟩
    refine ⟨_, rfl, _, _, rfl, rfl, _, rfl, p, _, dx, _, rfl, upd_same, T.cT, T.na_legs, (by show 2 < 1000; decide), ?_⟩
    rw [upd_upd, upd_upd]
    generalize e3 : upd H p (HO.ins (He.ga K "Train") dx (putF "_legs" (V.int (N - 1)) (putF "_stops" (V.int N) (putF "_seats" (V.int S) [])))) = H3
    have p3 : H3 p = some (HO.ins (He.ga K "Train") dx (putF "_legs" (V.int (N - 1)) (putF "_stops" (V.int N) (putF "_seats" (V.int S) [])))) := by
      rw [← e3]
      exact upd_same
    have k3 : ∀ b o, H b = some o → b ≠ p → H3 b = some o := fun b o e nb => by
      rw [← e3, upd_ne nb]
      exact e
    have f3 : ∀ b, H3 b = none → H b = none := fun b e => by
      have nb : b ≠ p := fun z => by
        rw [z, p3] at e
        cases e
      rw [← e3, upd_ne nb] at e
      exact e
    refine ⟨_, rfl, _, rfl, by omega, by omega, fun D hD => ?_⟩
    refine lc_range (lo := 0) (n := S.toNat) (fun i H' => ∃ as : List Addr, as.length = i ∧ H' D = some (.lst (as.map V.ref)) ∧ as.Nodup ∧ Ex H3 H' ∧ ∀ a ∈ as, H3 a = none ∧ a ≠ D ∧ H' a = some (.lst ((List.replicate (N.toNat - 1) (none : Option Int)).map oV)))
      ⟨[], rfl, upd_same, List.nodup_nil, Ex.new hD, fun a ha => by cases ha⟩ ?_ ?_
    · rintro i H' hi ⟨as, hl, hd, nd, ex, ha⟩
      refine ⟨rfl, lc_yes ?_⟩
      refine ⟨(by show 1 ≤ sizeLine; decide), fun l nl => ?_⟩
      have npl : p ≠ l := ne_of_none (ex _ _ p3) nl
      refine ⟨_, rfl, p, _, dx, _, _, rfl, (by rw [upd_ne npl]; exact ex _ _ p3), T.cT, T.na_legs, tf_made2l, ?_⟩
      refine ⟨l, N - 1, [.non], rfl, rfl, upd_same, by omega, by omega, ?_, fun q nq => ?_⟩
      · rw [List.length_singleton]
        exact sz_of (by omega)
      have nDl : D ≠ l := ne_of_none hd nl
      have hDl : (upd H' l (.lst [.non])) D = some (.lst (as.map V.ref)) := by
        rw [upd_ne nDl]
        exact hd
      have nDq : D ≠ q := ne_of_none hDl nq
      have nq' : H' q = none := by
        have n : q ≠ l := fun z => by
          rw [z, upd_same] at nq
          cases nq
        rw [upd_ne n] at nq
        exact nq
      have hq : List.flatten (List.replicate (N - 1).toNat [V.non]) = (List.replicate (N.toNat - 1) (none : Option Int)).map oV := by
        rw [show (N - 1).toNat = N.toNat - 1 by omega, List.map_replicate]
        exact flat_rep _ _
      have hDq : (upd (upd H' l (.lst [.non])) q (.lst (List.flatten (List.replicate (N - 1).toNat [V.non])))) D = some (.lst (as.map V.ref)) := by
        rw [upd_ne nDq]
        exact hDl
      refine ⟨as.map V.ref, hDq, ?_, as ++ [q], by rw [List.length_append, hl]; rfl, ?_, ?_, ?_, ?_⟩
      · rw [List.length_map]
        exact sz_lt (by omega)
      · rw [upd_same, List.map_append]
        rfl
      · refine nd_snoc nd fun z => ?_
        have e := (ha q z).2.2
        rw [nq'] at e
        cases e
      · exact Ex.mut ((ex.trans (Ex.new nl)).trans (Ex.new nq)) hD
      · intro a hm
        rcases List.mem_append.mp hm with hm | hm
        · obtain ⟨a1, a2, a3⟩ := ha a hm
          refine ⟨a1, a2, ?_⟩
          rw [upd_ne a2, upd_ne (ne_of_none (o := .lst ((List.replicate (N.toNat - 1) (none : Option Int)).map oV)) (by rw [upd_ne (ne_of_none a3 nl)]; exact a3) nq), upd_ne (ne_of_none a3 nl)]
          exact a3
        · have e : a = q := by simpa using hm
          subst e
          refine ⟨fresh_back ex nq', nDq.symm, ?_⟩
          rw [upd_ne nDq.symm, upd_same, hq]
    rintro H4 ⟨as, hl, hd, nd, ex, ha⟩
    have p4 := ex _ _ p3
    refine ⟨_, rfl, p, _, dx, _, rfl, p4, T.cT, T.na_held, (by rw [tf_made2]; show 3 < 1000; decide), ?_⟩
    intro d nd4
    have npd : p ≠ d := fun z => by
      rw [← z, upd_same] at nd4
      cases nd4
    have d4 : H4 d = none := by
      rw [upd_ne npd.symm] at nd4
      exact nd4
    refine ⟨_, rfl, p, _, dx, _, rfl, (by rw [upd_ne npd]; exact upd_same), T.cT, T.na_sold, (by rw [tf_made3]; show 4 < 1000; decide), ?_⟩
    refine ⟨_, rfl, p, _, dx, _, rfl, upd_same, T.cT, T.na_next, (by rw [tf_made4]; show 5 < 1000; decide), ?_⟩
    rw [tf_made]
    have npD : D ≠ p := fun z => by
      rw [z, p3] at hD
      cases hD
    have nDd : D ≠ d := ne_of_none hd d4
    have nap : ∀ a ∈ as, a ≠ p := fun a hm z => by
      have q := (ha a hm).1
      rw [z, p3] at q
      cases q
    have nad : ∀ a ∈ as, a ≠ d := fun a hm => ne_of_none (ha a hm).2.2 d4
    refine hy ⟨p, dx, D, d, as, []⟩ _ rfl rfl ?_ (fun b o e nb => ?_) ⟨f3 _ hD, f3 _ (fresh_back ex d4), fun a hm => f3 _ (ha a hm).1⟩
    · refine ⟨?_, ?_, ?_, nd, ?_, ?_, .nil, by show 1 ≤ S.toNat; omega, by show S.toNat ≤ 60; omega, by show 2 ≤ N.toNat; omega, by show N.toNat ≤ 60; omega, ?_, ?_⟩
      · show _ = some (HO.ins _ _ (tf (S.toNat : Int) (N.toNat : Int) D d 0))
        rw [show (S.toNat : Int) = S by omega, show (N.toNat : Int) = N by omega]
        exact upd_same
      · show _ = some (HO.lst (as.map V.ref))
        rw [upd_ne npD, upd_ne npD, upd_ne nDd, upd_ne npD]
        exact hd
      · show as.length = (List.replicate S.toNat (List.replicate (N.toNat - 1) (none : Option Int))).length
        rw [List.length_replicate, hl]
      · intro i a r h1 h2
        have hm : a ∈ as := List.mem_of_getElem? h1
        have er : r = List.replicate (N.toNat - 1) (none : Option Int) := List.eq_of_mem_replicate (List.mem_of_getElem? h2)
        subst er
        rw [upd_ne (nap a hm), upd_ne (nap a hm), upd_ne (nad a hm), upd_ne (nap a hm)]
        exact (ha a hm).2.2
      · show _ = some (HO.dK [])
        rw [upd_ne npd.symm, upd_ne npd.symm, upd_same]
      · show (List.replicate S.toNat (List.replicate (N.toNat - 1) (none : Option Int))).length = S.toNat
        exact List.length_replicate
      · intro r hm
        rw [List.eq_of_mem_replicate hm, List.length_replicate]
    · have e4 := ex _ _ (k3 b o e nb)
      rw [upd_ne nb, upd_ne nb, upd_ne (ne_of_none e4 d4), upd_ne nb]
      exact e4
theorem good_Train__check_seat (T : Facts K mg) : Good P w K mg base (CN P w) 1 (He.ma K (He.ga K "Train") "_check_seat") ["self", "seat"] (spCheckSeat K) := by
  obtain ⟨fd, F⟩ := T.fu_Train__check_seat
  refine ⟨fd, ?_, F.binds (ps := ["self", "seat"]) fun _ _ _ _ _ _ us hl => match us, hl with | [_, _], _ => rfl, F.kp⟩
  refine okN F sc_Train__check_seat (fun vs H Q E h => ?_) (fun cdv A outer s H vs Q E hr h => ?_)
  · obtain ⟨L, t, i, rfl, x, hy, hn⟩ := h
    rfl
  · obtain ⟨L, t, i, rfl, x, hy, hn⟩ := h
    refine ⟨_, (pss_one (ps_if (pt_not (pt_chain op_le op_lt pe_int (pv 1) (pe_fld (pv 0) rfl))) (pss_one (L2N.ps_raise rfl (L2N.takes_of rfl rfl rfl rfl) (L2N.pmk_own PySem.F.excBase_ValueError T.x_NoSeat.1 T.gx_NoSeat T.x_NoSeat.2.1 (raises_own T.x_NoSeat.2.2.1 T.x_NoSeat.2.2.2) (by exact rfl)))) pss_nil)), ?_⟩
    refine ⟨_, rfl, _, _, rfl, rfl, _, rfl, ?_⟩
    refine chainI (fun h0 => ⟨_, rfl, L.p, _, L.dx, _, _, rfl, x.ob, T.cT, T.na_seats, tf_seats, _, _, rfl, rfl, _, rfl, ?_⟩) (fun h0 => iteT (hn fun z => h0 z.1))
    exact iteN (fun h1 => hy ⟨h0, h1⟩) (fun h1 => hn fun z => h1 z.2)
theorem good_Train__check_leg (T : Facts K mg) : Good P w K mg base (CN P w) 1 (He.ma K (He.ga K "Train") "_check_leg") ["self", "leg"] (spCheckLeg K) := by
  obtain ⟨fd, F⟩ := T.fu_Train__check_leg
  refine ⟨fd, ?_, F.binds (ps := ["self", "leg"]) fun _ _ _ _ _ _ us hl => match us, hl with | [_, _], _ => rfl, F.kp⟩
  refine okN F sc_Train__check_leg (fun vs H Q E h => ?_) (fun cdv A outer s H vs Q E hr h => ?_)
  · obtain ⟨L, t, i, rfl, x, hy, hn⟩ := h
    rfl
  · obtain ⟨L, t, i, rfl, x, hy, hn⟩ := h
    refine ⟨_, (pss_one (ps_if (pt_not (pt_chain op_le op_lt pe_int (pv 1) (pe_fld (pv 0) rfl))) (pss_one (L2N.ps_raise rfl (L2N.takes_of rfl rfl rfl rfl) (L2N.pmk_own PySem.F.excBase_ValueError T.x_NoLeg.1 T.gx_NoLeg T.x_NoLeg.2.1 (raises_own T.x_NoLeg.2.2.1 T.x_NoLeg.2.2.2) (by exact rfl)))) pss_nil)), ?_⟩
    refine ⟨_, rfl, _, _, rfl, rfl, _, rfl, ?_⟩
    refine chainI (fun h0 => ⟨_, rfl, L.p, _, L.dx, _, _, rfl, x.ob, T.cT, T.na_legs, tf_legs, _, _, rfl, rfl, _, rfl, ?_⟩) (fun h0 => iteT (hn fun z => h0 z.1))
    exact iteN (fun h1 => hy ⟨h0, h1⟩) (fun h1 => hn fun z => h1 z.2)
theorem good_Train_farthest (T : Facts K mg) : Good P w K mg base (CN P w) 2 (He.ma K (He.ga K "Train") "farthest") ["self", "seat", "stop"] (spFarthest K) := by
  obtain ⟨fd, F⟩ := T.fu_Train_farthest
  obtain ⟨_, G_Train__check_seat, b_Train__check_seat, k_Train__check_seat⟩ := good_Train__check_seat (P := P) (w := w) (base := base) T
  refine ⟨fd, ?_, F.binds (ps := ["self", "seat", "stop"]) fun _ _ _ _ _ _ us hl => match us, hl with | [_, _, _], _ => rfl, F.kp⟩
  refine okN F sc_Train_farthest (fun vs H Q E h => ?_) (fun cdv A outer s H vs Q E hr h => ?_)
  · obtain ⟨L, t, i, j, rfl, x, hy, hn, hm⟩ := h
    rfl
  · obtain ⟨L, t, i, j, rfl, x, hy, hn, hm⟩ := h
    refine ⟨_, (pss_cons (ps_expr (pe_meth (pv 0) T.cT T.me_Train__check_seat G_Train__check_seat (hr.mono (by decide)) b_Train__check_seat .nil (L2N.passes_call (L2N.takes_of rfl rfl rfl rfl) (fun _ _ _ _ h => h)) (pa_cons (pv 1) pa_nil))) (pss_cons (ps_if (pt_not (pt_chain op_le op_lt pe_int (pv 2) (pe_fld (pv 0) rfl))) (pss_one (L2N.ps_raise rfl (L2N.takes_of rfl rfl rfl rfl) (L2N.pmk_own PySem.F.excBase_ValueError T.x_NoStop.1 T.gx_NoStop T.x_NoStop.2.1 (raises_own T.x_NoStop.2.2.1 T.x_NoStop.2.2.2) (by exact rfl)))) pss_nil) (pss_cons (ps_set (i := 3) sc_Train_farthest.nd rfl (by first | exact Or.inl rfl | exact Or.inr rfl) (pe_ix ix_list (pe_fld (pv 0) rfl) (pv 1) (fun _ _ => rfl))) (pss_cons (ps_set (i := 4) sc_Train_farthest.nd rfl (by first | exact Or.inl rfl | exact Or.inr rfl) (pv 2)) (pss_cons (ps_while (passes_of rfl) (PW.pt (pw_and (pt_cmpR op_lt (pv 4) (pe_fld (pv 0) rfl) (nomark _)) (pw_and1 (pt_cmpR op_isN1 (pe_ix ix_list (pv 3) (pv 4) (fun _ _ => rfl)) pe_non (nomark _))))) (pss_one (ps_aug (i := 4) sc_Train_farthest.nd rfl (by first | exact Or.inl rfl | exact Or.inr rfl) pe_int ip_add))) (pss_one (ps_ret (pv 4)))))))), ?_⟩
    refine ⟨_, rfl, L.p, L.dx, _, rfl, x.ob, tf_no (by kernel_rfl), _, rfl, L, t, i, rfl, x, fun hi => ?_, fun hi => hn hi⟩
    refine ⟨_, rfl, _, _, rfl, rfl, _, rfl, ?_⟩
    refine chainI (fun h0 => ⟨_, rfl, L.p, _, L.dx, _, _, rfl, x.ob, T.cT, T.na_stops, tf_stops, _, _, rfl, rfl, _, rfl, ?_⟩) (fun h0 => iteT (hm hi fun z => h0 z.1))
    refine iteN (fun h1 => ?_) (fun h1 => hm hi fun z => h1 z.2)
    obtain ⟨a, r, ha, hr', hA, hl⟩ := x.row (i := i.toNat) (by omega)
    have hy := hy r hi.1 hr' h0 h1
    refine ⟨_, rfl, L.p, _, L.dx, _, _, rfl, x.ob, T.cT, T.na_held, tf_held, _, rfl, L.h, _, _, _, rfl, rfl, SqL.of x.hh, at_of (j := i.toNat) (v := V.ref a) (by omega) (by rw [List.getElem?_map, ha]; rfl), ?_⟩
    refine ⟨_, rfl, ?_⟩
    refine ⟨fun m σ H' => ∃ k : Nat, σ = [some (.ref L.p), some (.int i), some (.int j), some (.ref a), some (.int k)] ∧ H = H' ∧ k ≤ t.N - 1 ∧ reach r j.toNat = reach r k ∧ m = t.N - 1 - k, ⟨_, j.toNat, ?_, rfl, by omega, rfl, rfl⟩, ?_⟩
    · rw [show ((j.toNat : Nat) : Int) = j by omega]
      rfl
    rintro m σ H' ⟨k, rfl, rfl, hk, hre, rfl⟩
    refine ⟨_, rfl, _, rfl, L.p, _, L.dx, _, _, rfl, x.ob, T.cT, T.na_legs, tf_legs, _, _, rfl, rfl, _, rfl, ?_⟩
    refine ite2 (fun c => ?_) (fun c => ?_)
    · have hk2 : k < t.N - 1 := by
        have := of_decide_eq_true c
        omega
      have hk3 : k < r.length := by omega
      have hky : r[k]? = some r[k] := List.getElem?_eq_getElem hk3
      refine ⟨_, rfl, _, rfl, a, _, _, _, rfl, rfl, SqL.of hA, atI_nat (j := k) (v := oV r[k]) (by rw [List.getElem?_map, hky]; rfl), rfl, _, rfl, ?_⟩
      cases e : r[k] with
      | none =>
        rw [e] at hky
        refine iteT ?_
        refine ⟨fun σ' H' => σ' = [some (.ref L.p), some (.int i), some (.int j), some (.ref a), some (.int ((k + 1 : Nat) : Int))] ∧ H = H', ?_, ?_⟩
        · rintro σ' H' ⟨rfl, rfl⟩
          exact ⟨_, by omega, k + 1, rfl, rfl, by omega, by rw [hre, reach_free hky], rfl⟩
        · exact ⟨_, rfl, _, _, rfl, rfl, rfl, rfl⟩
      | some q =>
        rw [e] at hky
        refine iteF ?_
        refine ⟨_, rfl, ?_⟩
        rw [hre, reach_held hky] at hy
        exact hy
    · have hk2 : k = t.N - 1 := by
        have z : ¬ ((k : Int) < (t.N : Int) - 1) := fun q => c (decide_eq_true q)
        omega
      refine iteF ?_
      refine ⟨_, rfl, ?_⟩
      rw [hre, reach_end (by omega)] at hy
      exact hy
theorem good_Train_holder (T : Facts K mg) : Good P w K mg base (CN P w) 2 (He.ma K (He.ga K "Train") "holder") ["self", "seat", "leg"] (spHolder K) := by
  obtain ⟨fd, F⟩ := T.fu_Train_holder
  obtain ⟨_, G_Train__check_seat, b_Train__check_seat, k_Train__check_seat⟩ := good_Train__check_seat (P := P) (w := w) (base := base) T
  obtain ⟨_, G_Train__check_leg, b_Train__check_leg, k_Train__check_leg⟩ := good_Train__check_leg (P := P) (w := w) (base := base) T
  refine ⟨fd, ?_, F.binds (ps := ["self", "seat", "leg"]) fun _ _ _ _ _ _ us hl => match us, hl with | [_, _, _], _ => rfl, F.kp⟩
  refine okN F sc_Train_holder (fun vs H Q E h => ?_) (fun cdv A outer s H vs Q E hr h => ?_)
  · obtain ⟨L, t, i, j, rfl, x, hy, hn, hm⟩ := h
    rfl
  · obtain ⟨L, t, i, j, rfl, x, hy, hn, hm⟩ := h
    refine ⟨_, (pss_cons (ps_expr (pe_meth (pv 0) T.cT T.me_Train__check_seat G_Train__check_seat (hr.mono (by decide)) b_Train__check_seat .nil (L2N.passes_call (L2N.takes_of rfl rfl rfl rfl) (fun _ _ _ _ h => h)) (pa_cons (pv 1) pa_nil))) (pss_cons (ps_expr (pe_meth (pv 0) T.cT T.me_Train__check_leg G_Train__check_leg (hr.mono (by decide)) b_Train__check_leg .nil (L2N.passes_call (L2N.takes_of rfl rfl rfl rfl) (fun _ _ _ _ h => h)) (pa_cons (pv 2) pa_nil))) (pss_one (ps_ret (pe_ix ix_list (pe_ix ix_list (pe_fld (pv 0) rfl) (pv 1) (fun _ _ => rfl)) (pv 2) (fun _ _ => rfl)))))), ?_⟩
    refine ⟨_, rfl, L.p, L.dx, _, rfl, x.ob, tf_no (by kernel_rfl), _, rfl, L, t, i, rfl, x, fun hi => ?_, fun hi => hn hi⟩
    refine ⟨_, rfl, L.p, L.dx, _, rfl, x.ob, tf_no (by kernel_rfl), _, rfl, L, t, j, rfl, x, fun hj => ?_, fun hj => hm hi hj⟩
    obtain ⟨a, r, ha, hr', hA, hl⟩ := x.row (i := i.toNat) (by omega)
    have hjl : j.toNat < r.length := by omega
    have hjr : r[j.toNat]? = some r[j.toNat] := List.getElem?_eq_getElem hjl
    refine ⟨_, rfl, L.p, _, L.dx, _, _, rfl, x.ob, T.cT, T.na_held, tf_held, _, rfl, L.h, _, _, _, rfl, rfl, SqL.of x.hh, at_of (j := i.toNat) (v := V.ref a) (by omega) (by rw [List.getElem?_map, ha]; rfl), ?_⟩
    refine ⟨_, rfl, a, _, _, _, rfl, rfl, SqL.of hA, at_of (j := j.toNat) (v := oV r[j.toNat]) (by omega) (by rw [List.getElem?_map, hjr]; rfl), ?_⟩
    exact hy r _ hi.1 hr' hj.1 hjr
theorem good_Train_load (T : Facts K mg) : Good P w K mg base (CN P w) 2 (He.ma K (He.ga K "Train") "load") ["self", "leg"] (spLoad K) := by
  obtain ⟨fd, F⟩ := T.fu_Train_load
  obtain ⟨_, G_Train__check_leg, b_Train__check_leg, k_Train__check_leg⟩ := good_Train__check_leg (P := P) (w := w) (base := base) T
  refine ⟨fd, ?_, F.binds (ps := ["self", "leg"]) fun _ _ _ _ _ _ us hl => match us, hl with | [_, _], _ => rfl, F.kp⟩
  refine okN F sc_Train_load (fun vs H Q E h => ?_) (fun cdv A outer s H vs Q E hr h => ?_)
  · obtain ⟨L, t, j, rfl, x, hy, hn⟩ := h
    rfl
  · obtain ⟨L, t, j, rfl, x, hy, hn⟩ := h
    refine ⟨_, (pss_cons (ps_expr (pe_meth (pv 0) T.cT T.me_Train__check_leg G_Train__check_leg (hr.mono (by decide)) b_Train__check_leg .nil (L2N.passes_call (L2N.takes_of rfl rfl rfl rfl) (fun _ _ _ _ h => h)) (pa_cons (pv 1) pa_nil))) (pss_one (ps_ret (pe_callB call_len_seq (by rfl) T.b_len PySem.boot_len (pa_cons (pe_lc (own := [("held", 2)]) (te := (tVar 2)) (tt := (tTest (tOp rNotN (tOp (rIxL K) (tVar 2) (tVar 1)) (tC .non)))) (by rfl) sc_Train_load.nd (pi_list (pe_fld (pv 0) rfl)) (blkOk_by (own := [("held", 2)]) (N := ["self", "leg", "held"]) (sc := defScope s_Train_load) (by decide +kernel)) (fun _ _ _ _ _ => pg_name (i := 2) sc_Train_load.nd rfl (by first | exact Or.inl rfl | exact Or.inr rfl)) (fun _ _ _ _ _ => (pts_one (pt_cmpR op_notN1 (pe_ix ix_list (pv 2) (pv 1) (fun _ _ => rfl)) pe_non (nomark _)))) (fun _ _ _ _ _ => (pv 2))) pa_nil))))), ?_⟩
    refine ⟨_, rfl, L.p, L.dx, _, rfl, x.ob, tf_no (by kernel_rfl), _, rfl, L, t, j, rfl, x, fun hj => ?_, fun hj => hn hj⟩
    have hy := hy hj
    refine ⟨_, rfl, L.p, _, L.dx, _, _, rfl, x.ob, T.cT, T.na_held, tf_held, L.h, rfl, ⟨_, SqL.of x.hh⟩, fun D hD => ?_⟩
    refine lc_list (K := K) (a := L.h) (xs := L.rows.map V.ref) (fun i H' => ∃ as : List V, H' D = some (.lst as) ∧ as.length = loadOf (t.held.take i) j.toNat ∧ Ex H H')
      ⟨[], upd_same, rfl, Ex.new hD⟩ (fun i H' _ ⟨_, _, _, ex⟩ => SqL.of (ex _ _ x.hh)) ?_ ?_
    · rintro i v H' hi ⟨as, hd, hl, ex⟩
      obtain ⟨a, ha, rfl⟩ : ∃ a, L.rows[i]? = some a ∧ v = V.ref a := by
        rw [List.getElem?_map] at hi
        obtain ⟨a, h1, h2⟩ := Option.map_eq_some_iff.mp hi
        exact ⟨a, h1, h2.symm⟩
      have hil : i < t.S := by
        rw [← x.hl, ← x.rl]
        exact (List.getElem?_eq_some_iff.mp ha).1
      obtain ⟨a', r, ha', hr', hA, hl'⟩ := x.row hil
      have ea : a' = a := Option.some.inj (ha'.symm.trans ha)
      subst ea
      have hjl : j.toNat < r.length := by omega
      have hjr : r[j.toNat]? = some r[j.toNat] := List.getElem?_eq_getElem hjl
      have step : loadOf (t.held.take (i + 1)) j.toNat = loadOf (t.held.take i) j.toNat + (if (r[j.toNat]).isSome then 1 else 0) := by
        rw [List.take_add_one, hr']
        exact loadOf_snoc _ rfl hjr
      refine ⟨rfl, ?_⟩
      refine ⟨_, rfl, _, rfl, a', _, _, _, rfl, rfl, SqL.of (ex _ _ hA), at_of (j := j.toNat) (v := oV r[j.toNat]) (by omega) (by rw [List.getElem?_map, hjr]; rfl), rfl, _, rfl, ?_⟩
      cases e : r[j.toNat] with
      | none =>
        refine iteF ⟨as, hd, ?_, ex⟩
        rw [step, e, hl]
        rfl
      | some q =>
        refine iteT ⟨_, rfl, as, hd, ?_, as ++ [V.ref a'], upd_same, ?_, Ex.mut ex hD⟩
        · rw [hl]
          exact sz_lt (Nat.lt_of_le_of_lt (loadOf_le _ _) (by rw [List.length_take, x.hl]; have := x.s2; omega))
        · rw [List.length_append, step, e, hl]
          rfl
    rintro H' ⟨as, hd, hl, ex⟩
    refine ⟨D, as, rfl, .inl (SqL.of hd), ?_⟩
    have e : List.take (L.rows.map V.ref).length t.held = t.held := List.take_of_length_le (by rw [List.length_map, x.rl]; exact Nat.le_refl _)
    rw [hl, e]
    exact hy H' ex
theorem good_Train_size (T : Facts K mg) : Good P w K mg base CX0 1 (He.ma K (He.ga K "Train") "size") ["self"] (spSize K) := by
  obtain ⟨fd, F⟩ := T.fu_Train_size
  refine ⟨fd, ?_, F.binds (ps := ["self"]) fun _ _ _ _ _ _ us hl => match us, hl with | [_], _ => rfl, F.kp⟩
  refine Fun.ok F sc_Train_size (fun vs H Q E h => ?_) (fun cdv A outer s H vs Q E hr h => ?_)
  · obtain ⟨L, t, rfl, x, hy⟩ := h
    rfl
  · obtain ⟨L, t, rfl, x, hy⟩ := h
    refine ⟨_, (pss_one (ps_ret (pe_tup (pa_cons (pe_fld (pv 0) rfl) (pa_cons (pe_fld (pv 0) rfl) pa_nil))))), ?_⟩
    exact ⟨_, rfl, L.p, _, L.dx, _, _, rfl, x.ob, T.cT, T.na_seats, tf_seats, _, rfl, L.p, _, L.dx, _, _, rfl, x.ob, T.cT, T.na_stops, tf_stops, (by show 2 ≤ sizeLine; decide), hy⟩
theorem good_Train_tickets (T : Facts K mg) : Good P w K mg base CX0 1 (He.ma K (He.ga K "Train") "tickets") ["self"] (spTickets K) := by
  obtain ⟨fd, F⟩ := T.fu_Train_tickets
  refine ⟨fd, ?_, F.binds (ps := ["self"]) fun _ _ _ _ _ _ us hl => match us, hl with | [_], _ => rfl, F.kp⟩
  refine Fun.ok F sc_Train_tickets (fun vs H Q E h => ?_) (fun cdv A outer s H vs Q E hr h => ?_)
  · obtain ⟨L, t, rfl, x, hy⟩ := h
    rfl
  · obtain ⟨L, t, rfl, x, hy⟩ := h
    refine ⟨_, (pss_one (ps_ret (pe_callB (cr_sortD rfl) (by rfl) T.b_sorted (by decide +kernel) (pa_cons (pe_fld (pv 0) rfl) pa_nil)))), ?_⟩
    refine ⟨_, rfl, L.p, _, L.dx, _, _, rfl, x.ob, T.cT, T.na_sold, tf_sold, L.d, _, t.sold.map (·.1), rfl, .inl x.dd, ?_, fun ms b h1 h2 h3 => hy b ms h3 h1 h2⟩
    rw [List.map_map]
    have h : ∀ (l : List (Int × Addr)) (m : List (Int × List Part)), Paired (fun (a : Int × Addr) (x : Int × List Part) => a.1 = x.1 ∧ PartsAt H a.2 x.2) l m → l.map ((fun x => x.1) ∘ keyOf) = (m.map (·.1)).map Sum.inl := by
      intro l m q
      induction q with
      | nil => rfl
      | cons r t ih =>
        rw [List.map_cons, List.map_cons, List.map_cons, ih, ← r.1]
        rfl
    exact h _ _ x.ll
theorem good_Train__check_stretch (T : Facts K mg) : Good P w K mg base (CN P w) 1 (He.ma K (He.ga K "Train") "_check_stretch") ["self", "begin", "end"] (spCheckStretch K) := by
  obtain ⟨fd, F⟩ := T.fu_Train__check_stretch
  refine ⟨fd, ?_, F.binds (ps := ["self", "begin", "end"]) fun _ _ _ _ _ _ us hl => match us, hl with | [_, _, _], _ => rfl, F.kp⟩
  refine okN F sc_Train__check_stretch (fun vs H Q E h => ?_) (fun cdv A outer s H vs Q E hr h => ?_)
  · obtain ⟨L, t, i, j, rfl, x, hy, hn⟩ := h
    rfl
  · obtain ⟨L, t, i, j, rfl, x, hy, hn⟩ := h
    refine ⟨_, (pss_one (ps_if (pt_not (pt_chain3 op_le op_lt op_lt pe_int (pv 1) (pv 2) (pe_fld (pv 0) rfl))) (pss_one (L2N.ps_raise rfl (L2N.takes_of rfl rfl rfl rfl) (L2N.pmk_own PySem.F.excBase_ValueError T.x_NoStretch.1 T.gx_NoStretch T.x_NoStretch.2.1 (raises_own T.x_NoStretch.2.2.1 T.x_NoStretch.2.2.2) (by exact rfl)))) pss_nil)), ?_⟩
    refine ⟨_, rfl, _, _, rfl, rfl, _, rfl, ?_⟩
    refine chainI3 (fun h0 => ⟨_, rfl, _, _, rfl, rfl, _, rfl, ?_⟩) (fun h0 => iteT (hn fun z => h0 z.1))
    refine chainI3 (fun h1 => ⟨_, rfl, L.p, _, L.dx, _, _, rfl, x.ob, T.cT, T.na_stops, tf_stops, _, _, rfl, rfl, _, rfl, ?_⟩) (fun h1 => iteT (hn fun z => h1 z.2.1))
    exact iteN (fun h2 => hy ⟨h0, h1, h2⟩) (fun h2 => hn fun z => h2 z.2.2)
theorem good_Train_blocked (T : Facts K mg) : Good P w K mg base (CN P w) 3 (He.ma K (He.ga K "Train") "blocked") ["self", "begin", "end"] (spBlocked K) := by
  obtain ⟨fd, F⟩ := T.fu_Train_blocked
  obtain ⟨_, G_Train__check_stretch, b_Train__check_stretch, k_Train__check_stretch⟩ := good_Train__check_stretch (P := P) (w := w) (base := base) T
  obtain ⟨_, G_Train_load, b_Train_load, k_Train_load⟩ := good_Train_load (P := P) (w := w) (base := base) T
  refine ⟨fd, ?_, F.binds (ps := ["self", "begin", "end"]) fun _ _ _ _ _ _ us hl => match us, hl with | [_, _, _], _ => rfl, F.kp⟩
  refine okN F sc_Train_blocked (fun vs H Q E h => ?_) (fun cdv A outer s H vs Q E hr h => ?_)
  · obtain ⟨L, t, i, j, rfl, x, hy, hn⟩ := h
    rfl
  · obtain ⟨L, t, i, j, rfl, x, hy, hn⟩ := h
    refine ⟨_, (pss_cons (ps_expr (pe_meth (pv 0) T.cT T.me_Train__check_stretch G_Train__check_stretch (hr.mono (by decide)) b_Train__check_stretch .nil (L2N.passes_call (L2N.takes_of rfl rfl rfl rfl) (fun _ _ _ _ h => h)) (pa_cons (pv 1) (pa_cons (pv 2) pa_nil)))) (pss_cons (ps_for (passes_of rfl) rfl (pi_range2 (by rfl) T.b_range (pa_cons (pv 1) (pa_cons (pv 2) pa_nil))) (pg_name (i := 3) sc_Train_blocked.nd rfl (by first | exact Or.inl rfl | exact Or.inr rfl)) (pss_one (ps_if (pt_cmpR op_eq (pe_meth (pv 0) T.cT T.me_Train_load G_Train_load (hr.mono (by decide)) b_Train_load .nil passN (pa_cons (pv 3) pa_nil)) (pe_fld (pv 0) rfl) (nomark _)) (pss_one (ps_ret (pv 3))) pss_nil))) (pss_one (ps_ret pe_non)))), ?_⟩
    refine ⟨_, rfl, L.p, L.dx, _, rfl, x.ob, tf_no (by kernel_rfl), _, rfl, _, rfl, L, t, i, j, rfl, x, fun hst => ?_, fun hst => hn hst⟩
    obtain ⟨h0, h1, h2⟩ := hst
    have hy := hy ⟨h0, h1, h2⟩
    have n2 := x.n2
    refine ⟨_, rfl, _, rfl, i, j, rfl, ⟨by omega, by omega, by omega, by omega⟩, ?_⟩
    refine for_range (lo := i) (n := (j - i).toNat) (fun m σ H' => ∃ y, σ = [some (.ref L.p), some (.int i), some (.int j), y] ∧ Ex H H' ∧ ∀ l : Nat, i.toNat ≤ l → l < i.toNat + m → loadOf t.held l ≠ t.held.length)
      ⟨none, rfl, Ex.refl H, fun l a b => by omega⟩ ?_ ?_
    · rintro m σ H' hm ⟨y, rfl, ex, hq⟩
      have x := x.ex ex
      refine ⟨_, rfl, L.p, L.dx, _, rfl, x.ob, tf_no (by kernel_rfl), _, rfl, L, t, i + m, rfl, x, fun hb H2 ex2 => ?_, fun hb => ?_⟩
      · have x2 := x.ex ex2
        have em : (i + (m : Int)).toNat = i.toNat + m := by omega
        rw [em]
        have x := x2
        refine ⟨_, rfl, L.p, _, L.dx, _, _, rfl, x.ob, T.cT, T.na_seats, tf_seats, rfl, _, rfl, ?_⟩
        refine ite2 (fun c => ?_) (fun c => ?_)
        · have e1 : loadOf t.held (i.toNat + m) = t.held.length := by
            have z := V.int.inj (of_decide_eq_true c)
            rw [x.hl]
            omega
          refine ⟨_, rfl, ?_⟩
          have q := hy H2 (ex.trans ex2)
          rw [fullFrom_some (i := m) (fun l a b => hq l a b) (by omega) e1] at q
          have e2 : V.int (i + (m : Int)) = nV (some (i.toNat + m)) := by
            show V.int (i + (m : Int)) = V.int ((i.toNat + m : Nat) : Int)
            congr 1
            omega
          rw [e2]
          exact q
        · refine ⟨_, rfl, ex.trans ex2, fun l a b => ?_⟩
          by_cases hl : l = i.toNat + m
          · subst hl
            intro z
            refine c (decide_eq_true ?_)
            rw [x.hl] at z
            rw [z]
          · exact hq l a (by omega)
      · exact absurd ⟨by omega, by omega⟩ hb
    · rintro σ H' ⟨y, rfl, ex, hq⟩
      have q := hy H' ex
      rw [fullFrom_none (fun l a b => hq l a (by omega))] at q
      exact q

/-! ### the law's own helpers -/
def cellAt (ns : List Int) (k : Nat) : Int := (ns[k]?).getD 0
def spCell (K : PySem.W.Frag) : Sp := fun vs H Q _ => ∃ (a : Addr) (ns : List Int) (k : Int), vs = [.ref a, .int k] ∧ SqL K H a (ns.map V.int) ∧ 0 ≤ k ∧ Q (.int (cellAt ns k.toNat)) H
def spWhole (K : PySem.W.Frag) : Sp := fun vs H Q _ => ∃ v, vs = [v] ∧ (flatQ v).isSome = true ∧ Q (.bl (isI v)) H
def spNumbers (K : PySem.W.Frag) : Sp := fun vs H Q _ => ∃ (a b : Addr) (ns ms : List Int), vs = [.ref a, .ref b] ∧ H a = some (.lst (ns.map V.int)) ∧ SqL K H b (ms.map V.int) ∧ ms.length ≤ 100000 ∧ Q (.bl (decide (ns = ms))) H

theorem good_law_cell_at (T : Facts K mg) : Good P w K mg base CX0 1 (He.ga K "_law_cell_at") ["_law_script", "_law_k"] (spCell K) := by
  obtain ⟨fd, F⟩ := T.fu_law_cell_at
  refine ⟨fd, ?_, F.binds (ps := ["_law_script", "_law_k"]) fun _ _ _ _ _ _ us hl => match us, hl with | [_, _], _ => rfl, F.kp⟩
  refine Fun.ok F sc_law_cell_at (fun vs H Q E h => ?_) (fun cdv A outer s H vs Q E hr h => ?_)
  · obtain ⟨a, ns, k, rfl, hS, hk, q⟩ := h
    rfl
  · obtain ⟨a, ns, k, rfl, hS, hk, q⟩ := h
    refine ⟨_, (pss_cons (ps_if (pt_cmpR op_lt (pv 1) (pe_callB call_len_seq (by rfl) T.b_len PySem.boot_len (pa_cons (pv 0) pa_nil)) (nomark _)) (pss_one (ps_ret (pe_ix ix_list (pv 0) (pv 1) (fun _ _ => rfl)))) pss_nil) (pss_one (ps_ret pe_int))), ?_⟩
    refine ⟨_, rfl, _, rfl, a, _, rfl, .inl hS, _, _, rfl, rfl, _, rfl, ?_⟩
    refine ite2 (fun c => ?_) (fun c => ?_)
    · have hl : k.toNat < ns.length := by
        have z := of_decide_eq_true c
        rw [List.length_map] at z
        omega
      have e : ns[k.toNat]? = some ns[k.toNat] := List.getElem?_eq_getElem hl
      unfold cellAt at q
      rw [e] at q
      exact ⟨_, rfl, _, rfl, a, _, _, _, rfl, rfl, hS, at_of (j := k.toNat) (v := V.int ns[k.toNat]) (by omega) (by rw [List.getElem?_map, e]; rfl), q⟩
    · have hl : ns.length ≤ k.toNat := by
        have z : ¬ (k < ((ns.map V.int).length : Int)) := fun z => c (decide_eq_true z)
        rw [List.length_map] at z
        omega
      unfold cellAt at q
      rw [List.getElem?_eq_none_iff.mpr hl] at q
      exact q
theorem good_law_whole (T : Facts K mg) : Good P w K mg base CX0 1 (He.ga K "_law_whole") ["_law_found"] (spWhole K) := by
  obtain ⟨fd, F⟩ := T.fu_law_whole
  refine ⟨fd, ?_, F.binds (ps := ["_law_found"]) fun _ _ _ _ _ _ us hl => match us, hl with | [_], _ => rfl, F.kp⟩
  refine Fun.ok F sc_law_whole (fun vs H Q E h => ?_) (fun cdv A outer s H vs Q E hr h => ?_)
  · obtain ⟨v, rfl, hv, q⟩ := h
    rfl
  · obtain ⟨v, rfl, hv, q⟩ := h
    refine ⟨_, (pss_one (ps_ret (pe_and (pe_callB call_isi (by rfl) T.b_isinstance (by decide +kernel) (pa_cons (pv 0) (pa_cons (pe_bltn (v := .ty "int") rfl T.b_int (by decide +kernel) rfl) pa_nil))) (pe_one (pe_not (pe_callB call_isi (by rfl) T.b_isinstance (by decide +kernel) (pa_cons (pv 0) (pa_cons (pe_bltn (v := .ty "bool") rfl T.b_bool (by decide +kernel) rfl) pa_nil)))))))), ?_⟩
    obtain ⟨ty, e1, e2⟩ := flat_ty (K := K) (H := H) hv
    refine ⟨_, rfl, v, .ty "int", _, _, isI v || isB v, rfl, .ty "int", .base e2, kit_ty (flat_int e1), _, rfl, ?_⟩
    refine ite2 (fun c => ?_) (fun c => ?_)
    · refine ⟨_, rfl, v, .ty "bool", _, _, isB v, rfl, .ty "bool", .base e2, kit_ty (flat_bool e1), _, rfl, ?_⟩
      have z : (!isB v) = isI v := by
        cases v <;> first | rfl | cases c
      rw [z]
      exact q
    · have z : false = isI v := by
        cases v <;> first | rfl | exact absurd rfl c
      rw [z]
      exact q
theorem good_law_numbers (T : Facts K mg) : Good P w K mg base CX0 2 (He.ga K "_law_numbers") ["_law_found", "_law_due"] (spNumbers K) := by
  obtain ⟨fd, F⟩ := T.fu_law_numbers
  obtain ⟨_, G_law_whole, b_law_whole, k_law_whole⟩ := good_law_whole (P := P) (w := w) (base := base) T
  refine ⟨fd, ?_, F.binds (ps := ["_law_found", "_law_due"]) fun _ _ _ _ _ _ us hl => match us, hl with | [_, _], _ => rfl, F.kp⟩
  refine Fun.ok F sc_law_numbers (fun vs H Q E h => ?_) (fun cdv A outer s H vs Q E hr h => ?_)
  · obtain ⟨a, b, ns, ms, rfl, ha, hb, hz, q⟩ := h
    rfl
  · obtain ⟨a, b, ns, ms, rfl, ha, hb, hz, q⟩ := h
    refine ⟨_, (pss_cons (ps_if (PW.pt (pw_or (pt_not (pt_val (pe_callB call_isi (by rfl) T.b_isinstance (by decide +kernel) (pa_cons (pv 0) (pa_cons (pe_bltn (v := .ty "list") rfl T.b_list (by decide +kernel) rfl) pa_nil))))) (pw_or1 (pt_cmpR op_ne (pe_callB call_len_seq (by rfl) T.b_len PySem.boot_len (pa_cons (pv 0) pa_nil)) (pe_callB call_len_seq (by rfl) T.b_len PySem.boot_len (pa_cons (pv 1) pa_nil)) (nomark _))))) (pss_one (ps_ret pe_bl)) pss_nil) (pss_cons (ps_for PassesOwn.never rfl (pi_range1 (by rfl) T.b_range (pa_cons (pe_callB call_len_seq (by rfl) T.b_len PySem.boot_len (pa_cons (pv 1) pa_nil)) pa_nil)) (pg_name (i := 2) sc_law_numbers.nd rfl (by first | exact Or.inl rfl | exact Or.inr rfl)) (pss_one (ps_if (PW.pt (pw_or (pt_not (pt_val (pe_call G_law_whole (hr.mono (by decide)) rfl T.g_law_whole k_law_whole b_law_whole .nil pass0 (pa_cons (pe_ix ix_list (pv 0) (pv 2) (fun _ _ => rfl)) pa_nil)))) (pw_or1 (pt_cmpR op_ne (pe_ix ix_list (pv 0) (pv 2) (fun _ _ => rfl)) (pe_ix ix_list (pv 1) (pv 2) (fun _ _ => rfl)) (nomark _))))) (pss_one (ps_ret pe_bl)) pss_nil))) (pss_one (ps_ret pe_bl)))), ?_⟩
    refine ⟨_, rfl, .ref a, .ty "list", _, _, true, rfl, .ty "list", .base (.lst ha), kit_ty (by decide +kernel), true, rfl, ?_⟩
    refine iteF ⟨_, rfl, a, _, rfl, .inl (SqL.of ha), _, rfl, b, _, rfl, .inl hb, rfl, _, rfl, ?_⟩
    rw [List.length_map, List.length_map]
    by_cases hl : ns.length = ms.length
    rotate_left
    · refine iteTt (neV (by omega)) ?_
      rw [decide_eq_false (fun z => hl (by rw [z]))] at q
      exact q
    refine iteFf (eqV' (by omega)) ?_
    refine ⟨_, rfl, b, _, rfl, .inl hb, _, rfl, by omega, by rw [List.length_map]; omega, ?_⟩
    rw [List.length_map]
    refine for_range (lo := 0) (n := ((ms.length : Nat) : Int).toNat) (fun m σ H' => ∃ y, σ = [some (.ref a), some (.ref b), y] ∧ H = H' ∧ ns.take m = ms.take m) ⟨none, rfl, rfl, rfl⟩ ?_ ?_
    · rintro m σ H' hm ⟨y, rfl, rfl, ht⟩
      have hm2 : m < ms.length := by omega
      have e1 : ns[m]? = some ns[m] := List.getElem?_eq_getElem (by omega)
      have e2 : ms[m]? = some ms[m] := List.getElem?_eq_getElem hm2
      have g1 : atI (ns.map V.int) (0 + (m : Int)) = some (V.int ns[m]) := at_of (j := m) (by omega) (by rw [List.getElem?_map, e1]; rfl)
      have g2 : atI (ms.map V.int) (0 + (m : Int)) = some (V.int ms[m]) := at_of (j := m) (by omega) (by rw [List.getElem?_map, e2]; rfl)
      refine ⟨_, rfl, _, rfl, a, _, _, _, rfl, rfl, SqL.of ha, g1, V.int ns[m], rfl, rfl, true, rfl, ?_⟩
      refine iteF ⟨_, rfl, _, rfl, a, _, _, _, rfl, rfl, SqL.of ha, g1, _, rfl, _, rfl, b, _, _, _, rfl, rfl, hb, g2, rfl, _, rfl, ?_⟩
      by_cases he : ns[m] = ms[m]
      · refine iteFf (eqV' he) ⟨_, rfl, rfl, ?_⟩
        rw [List.take_add_one, List.take_add_one, e1, e2, ht, he]
      · refine iteTt (neV he) ?_
        rw [decide_eq_false (fun z => he (by subst z; rfl))] at q
        exact q
    · rintro σ H' ⟨y, rfl, rfl, ht⟩
      have e : ns = ms := by
        rw [List.take_of_length_le (by omega), List.take_of_length_le (by omega)] at ht
        exact ht
      rw [decide_eq_true e] at q
      exact q
theorem goodE_law_class (T : Facts K mg) {x : Str} (hx : x ∈ (["NoTrain"] : List Str)) : ∃ fd, FnE P w K mg base 1 (He.ga K "_law_class") fd "_law_e" (He.ga K x) (.str (wordOf x)) ∧ Binds K fd ["_law_e"] [] ∧ PySem.W.keepIn K (.ref (He.ga K "_law_class")) = true := by
  obtain ⟨fd, F⟩ := T.fu_law_class
  have HF := T.hot x hx
  refine ⟨fd, ?_, F.binds (ps := ["_law_e"]) fun _ _ _ _ _ _ us hl => match us, hl with | [_], _ => rfl, F.kp⟩
  refine fnE_of F sc_law_class fun cdv A outer s H p Q hr hz hf q => ?_
  refine ⟨_, (pss_cons (ps_set (i := 1) sc_law_class.nd rfl (by first | exact Or.inl rfl | exact Or.inr rfl) (pe_lst pa_nil)) (pss_cons (ps_if (pt_val (pe_callB (call_isP HF.c hz hf (by exact List.mem_cons_self)) (by rfl) T.b_isinstance (by decide +kernel) (pa_cons (pv 0) (pa_cons (pe_glob (v := .ref (He.ga K "NoTrain")) rfl T.gx_NoTrain rfl) pa_nil)))) (pss_one (ps_expr (pe_bm PySem.F.plainAttrs_list PySem.F.slot_list_append PySem.F.type_list_append mt_append (pv 1) (pa_cons pe_str pa_nil)))) pss_nil) (pss_cons (ps_if (pt_val (pe_callB (call_isP HF.c hz hf (by exact List.mem_cons_self)) (by rfl) T.b_isinstance (by decide +kernel) (pa_cons (pv 0) (pa_cons (pe_glob (v := .ref (He.ga K "NoStretch")) rfl T.gx_NoStretch rfl) pa_nil)))) (pss_one (ps_expr (pe_bm PySem.F.plainAttrs_list PySem.F.slot_list_append PySem.F.type_list_append mt_append (pv 1) (pa_cons pe_str pa_nil)))) pss_nil) (pss_cons (ps_if (pt_val (pe_callB (call_isP HF.c hz hf (by exact List.mem_cons_self)) (by rfl) T.b_isinstance (by decide +kernel) (pa_cons (pv 0) (pa_cons (pe_glob (v := .ref (He.ga K "NoSeat")) rfl T.gx_NoSeat rfl) pa_nil)))) (pss_one (ps_expr (pe_bm PySem.F.plainAttrs_list PySem.F.slot_list_append PySem.F.type_list_append mt_append (pv 1) (pa_cons pe_str pa_nil)))) pss_nil) (pss_cons (ps_if (pt_val (pe_callB (call_isP HF.c hz hf (by exact List.mem_cons_self)) (by rfl) T.b_isinstance (by decide +kernel) (pa_cons (pv 0) (pa_cons (pe_glob (v := .ref (He.ga K "NoStop")) rfl T.gx_NoStop rfl) pa_nil)))) (pss_one (ps_expr (pe_bm PySem.F.plainAttrs_list PySem.F.slot_list_append PySem.F.type_list_append mt_append (pv 1) (pa_cons pe_str pa_nil)))) pss_nil) (pss_cons (ps_if (pt_val (pe_callB (call_isP HF.c hz hf (by exact List.mem_cons_self)) (by rfl) T.b_isinstance (by decide +kernel) (pa_cons (pv 0) (pa_cons (pe_glob (v := .ref (He.ga K "NoLeg")) rfl T.gx_NoLeg rfl) pa_nil)))) (pss_one (ps_expr (pe_bm PySem.F.plainAttrs_list PySem.F.slot_list_append PySem.F.type_list_append mt_append (pv 1) (pa_cons pe_str pa_nil)))) pss_nil) (pss_cons (ps_if (pt_val (pe_callB (call_isP HF.c hz hf (by exact List.mem_cons_self)) (by rfl) T.b_isinstance (by decide +kernel) (pa_cons (pv 0) (pa_cons (pe_glob (v := .ref (He.ga K "NoTicket")) rfl T.gx_NoTicket rfl) pa_nil)))) (pss_one (ps_expr (pe_bm PySem.F.plainAttrs_list PySem.F.slot_list_append PySem.F.type_list_append mt_append (pv 1) (pa_cons pe_str pa_nil)))) pss_nil) (pss_cons (ps_if (pt_val (pe_callB (call_isP HF.c hz hf (by exact List.mem_cons_self)) (by rfl) T.b_isinstance (by decide +kernel) (pa_cons (pv 0) (pa_cons (pe_glob (v := .ref (He.ga K "Full")) rfl T.gx_Full rfl) pa_nil)))) (pss_one (ps_expr (pe_bm PySem.F.plainAttrs_list PySem.F.slot_list_append PySem.F.type_list_append mt_append (pv 1) (pa_cons pe_str pa_nil)))) pss_nil) (pss_cons (ps_if (pt_val (pe_callB (call_isP HF.c hz hf (by exact List.mem_cons_self)) (by rfl) T.b_isinstance (by decide +kernel) (pa_cons (pv 0) (pa_cons (pe_glob (v := .ref (He.ga K "Shared")) rfl T.gx_Shared rfl) pa_nil)))) (pss_one (ps_expr (pe_bm PySem.F.plainAttrs_list PySem.F.slot_list_append PySem.F.type_list_append mt_append (pv 1) (pa_cons pe_str pa_nil)))) pss_nil) (pss_cons (ps_if (pt_val (pe_callB (call_isP HF.c hz hf (by exact List.mem_cons_self)) (by rfl) T.b_isinstance (by decide +kernel) (pa_cons (pv 0) (pa_cons (pe_glob (v := .ref (He.ga K "NoText")) rfl T.gx_NoText rfl) pa_nil)))) (pss_one (ps_expr (pe_bm PySem.F.plainAttrs_list PySem.F.slot_list_append PySem.F.type_list_append mt_append (pv 1) (pa_cons pe_str pa_nil)))) pss_nil) (pss_cons (ps_if (PW.pt (pw_and (pt_cmpR op_eq (pe_callB call_len_seq (by rfl) T.b_len PySem.boot_len (pa_cons (pv 1) pa_nil)) pe_int (nomark _)) (pw_and1 (pt_val (pe_callB (call_isP HF.c hz hf (by exact List.mem_cons_self)) (by rfl) T.b_isinstance (by decide +kernel) (pa_cons (pv 0) (pa_cons (pe_bltn (v := .ty "ValueError") rfl T.b_ValueError (by decide +kernel) rfl) pa_nil))))))) (pss_one (ps_ret (pe_ix ix_list (pv 1) pe_int (fun _ _ => rfl)))) pss_nil) (pss_one (ps_ret pe_str))))))))))))), ?_⟩
  refine ⟨Nat.zero_le _, fun l hl => ?_⟩
  have s0 : Ex H (upd H l (.lst [])) := Ex.new hl
  have ex : x = "NoTrain" := by simpa using hx
  subst ex
  · have v := HF.v
    refine cls_step true ((HF.k "NoTrain" (by decide +kernel)).trans (by decide +kernel)) upd_same (by decide) fun H0 h0 k0 => ?_
    have s1 : Ex H H0 := fun c o e => k0 c o (ne_of_none e hl) (s0 c o e)
    refine cls_step false ((HF.k "NoStretch" (by decide +kernel)).trans (by decide +kernel)) h0 (by decide) fun H1 h1 k1 => ?_
    have s2 : Ex H H1 := fun c o e => k1 c o (ne_of_none e hl) (s1 c o e)
    refine cls_step false ((HF.k "NoSeat" (by decide +kernel)).trans (by decide +kernel)) h1 (by decide) fun H2 h2 k2 => ?_
    have s3 : Ex H H2 := fun c o e => k2 c o (ne_of_none e hl) (s2 c o e)
    refine cls_step false ((HF.k "NoStop" (by decide +kernel)).trans (by decide +kernel)) h2 (by decide) fun H3 h3 k3 => ?_
    have s4 : Ex H H3 := fun c o e => k3 c o (ne_of_none e hl) (s3 c o e)
    refine cls_step false ((HF.k "NoLeg" (by decide +kernel)).trans (by decide +kernel)) h3 (by decide) fun H4 h4 k4 => ?_
    have s5 : Ex H H4 := fun c o e => k4 c o (ne_of_none e hl) (s4 c o e)
    refine cls_step false ((HF.k "NoTicket" (by decide +kernel)).trans (by decide +kernel)) h4 (by decide) fun H5 h5 k5 => ?_
    have s6 : Ex H H5 := fun c o e => k5 c o (ne_of_none e hl) (s5 c o e)
    refine cls_step false ((HF.k "Full" (by decide +kernel)).trans (by decide +kernel)) h5 (by decide) fun H6 h6 k6 => ?_
    have s7 : Ex H H6 := fun c o e => k6 c o (ne_of_none e hl) (s6 c o e)
    refine cls_step false ((HF.k "Shared" (by decide +kernel)).trans (by decide +kernel)) h6 (by decide) fun H7 h7 k7 => ?_
    have s8 : Ex H H7 := fun c o e => k7 c o (ne_of_none e hl) (s7 c o e)
    refine cls_step false ((HF.k "NoText" (by decide +kernel)).trans (by decide +kernel)) h7 (by decide) fun H8 h8 k8 => ?_
    have s9 : Ex H H8 := fun c o e => k8 c o (ne_of_none e hl) (s8 c o e)
    refine ⟨_, rfl, l, _, rfl, .inl (SqL.of h8), rfl, _, rfl, iteT ?_⟩
    refine ⟨_, rfl, V.ty "ValueError", .type "ValueError", true, rfl, fun u r => r, v, true, rfl, iteT ?_⟩
    exact ⟨_, rfl, l, _, 0, _, rfl, rfl, SqL.of h8, rfl, q _ s9⟩
end
end Leg
set_option maxHeartbeats 4000000
namespace Leg
open PySem PySem.Spec PyProof.Rows L2 Evl
section
variable {P : Program} {w : World} {K : PySem.W.Frag} {mg : Str → Option Value} {base : Heap}

/-! ### the law of a new train -/
def sizeBy (c : Int) : Int := if c % 5 = 0 then ([-1, 0, 1, 2, 59, 60, 61, 62, 10 ^ 9 + c % 10 ^ 30, -c % 10 ^ 30 - 10 ^ 31] : List Int).getD (c / 5 % 10).toNat 0 else c % 64 - 1
def spSizeBy (K : PySem.W.Frag) : Sp := fun vs H Q _ => ∃ c : Int, vs = [.int c] ∧ ∀ H', Ex H H' → Q (.int (sizeBy c)) H'
def spEmpty (K : PySem.W.Frag) : Sp := fun vs H Q _ => ∃ (L : Lay) (S N : Nat), vs = [.ref L.p, .int S, .int N] ∧ TrainAt K H L (freshTr S N) ∧ ∀ H', Ex H H' → Q (.bl true) H'
def spLaw (K : PySem.W.Frag) : Sp := fun vs H Q _ => ∃ (a : Addr) (ns : List Int), vs = [.ref a] ∧ SqL K H a (ns.map V.int) ∧ ∀ H', Q (.bl true) H'
theorem eighths : ∀ S : Fin 61, 1 ≤ S.val → Builtin.Range.small 0 (S.val : Int) (1 + (S.val : Int) / 8) = true ∧ ∀ i : Fin 61, (i.val : Int) < Builtin.Range.rangeSize 0 (S.val : Int) (1 + (S.val : Int) / 8) → (i.val : Int) * (1 + (S.val : Int) / 8) < S.val := by decide +kernel
theorem eighths_len : ∀ S : Fin 61, 1 ≤ S.val → 0 ≤ Builtin.Range.rangeSize 0 (S.val : Int) (1 + (S.val : Int) / 8) ∧ Builtin.Range.rangeSize 0 (S.val : Int) (1 + (S.val : Int) / 8) ≤ 60 := by decide +kernel

theorem good_law_size_by (T : Facts K mg) : Good P w K mg base CX0 1 (He.ga K "_law_size_by") ["_law_cell"] (spSizeBy K) := by
  obtain ⟨fd, F⟩ := T.fu_law_size_by
  refine ⟨fd, ?_, F.binds (ps := ["_law_cell"]) fun _ _ _ _ _ _ us hl => match us, hl with | [_], _ => rfl, F.kp⟩
  refine Fun.ok F sc_law_size_by (fun vs H Q E h => ?_) (fun cdv A outer s H vs Q E hr h => ?_)
  · obtain ⟨c, rfl, q⟩ := h
    rfl
  · obtain ⟨c, rfl, q⟩ := h
    refine ⟨_, (pss_cons (ps_if (pt_cmpR op_eq (pe_op op_mod (pv 0) pe_int) pe_int (nomark _)) (pss_one (ps_ret (pe_ix ix_list (pe_lst (pa_cons (pe_un un_neg pe_int) (pa_cons pe_int (pa_cons pe_int (pa_cons pe_int (pa_cons pe_int (pa_cons pe_int (pa_cons pe_int (pa_cons pe_int (pa_cons (pe_op op_add (pe_op op_pow pe_int pe_int) (pe_op op_mod (pv 0) (pe_op op_pow pe_int pe_int))) (pa_cons (pe_op op_sub (pe_op op_mod (pe_un un_neg (pv 0)) (pe_op op_pow pe_int pe_int)) (pe_op op_pow pe_int pe_int)) pa_nil))))))))))) (pe_op op_mod (pe_op op_fdiv (pv 0) pe_int) pe_int) (fun _ _ => rfl)))) pss_nil) (pss_one (ps_ret (pe_op op_sub (pe_op op_mod (pv 0) pe_int) pe_int)))), ?_⟩
    refine ⟨_, rfl, _, _, rfl, rfl, (by show (0 : Int) < 5; decide), rfl, _, rfl, ?_⟩
    unfold sizeBy at q
    refine iteB (fun h => ?_) (fun h => ?_)
    · rw [decV] at h
      rw [if_pos (of_decide_eq_true h)] at q
      refine ⟨_, rfl, _, _, rfl, rfl, ⟨by decide, by decide, by decide⟩, _, rfl, _, _, rfl, rfl, ⟨by decide, by decide, by decide⟩, _, _, rfl, rfl, (by show (0 : Int) < 10 ^ 30; decide), _, _, rfl, rfl, ?_⟩
      refine ⟨_, rfl, _, rfl, _, _, rfl, rfl, ⟨by decide, by decide, by decide⟩, _, _, rfl, rfl, (by show (0 : Int) < 10 ^ 30; decide), _, _, rfl, rfl, ⟨by decide, by decide, by decide⟩, _, _, rfl, rfl, (by show 10 ≤ sizeLine; decide), fun l hl => ?_⟩
      refine ⟨_, rfl, _, _, rfl, rfl, ⟨by decide, by decide⟩, _, _, rfl, rfl, (by show (0 : Int) < 10; decide), l, _, _, _, rfl, rfl, SqL.of upd_same, pick_int (l := [-1, 0, 1, 2, 59, 60, 61, 62, 10 ^ 9 + c % 10 ^ 30, -c % 10 ^ 30 - 10 ^ 31]) (by omega) (by show _ < (10 : Int); omega), q _ (Ex.new hl)⟩
    · rw [decV] at h
      rw [if_neg (of_decide_eq_false h)] at q
      exact ⟨_, rfl, _, _, rfl, rfl, (by show (0 : Int) < 64; decide), _, _, rfl, rfl, q H (Ex.refl H)⟩
theorem good_law_empty (T : Facts K mg) : Good P w K mg base CX0 4 (He.ga K "_law_empty") ["_law_train", "_law_seats", "_law_stops"] (spEmpty K) := by
  obtain ⟨fd, F⟩ := T.fu_law_empty
  obtain ⟨_, G_Train_farthest, b_Train_farthest, k_Train_farthest⟩ := good_Train_farthest (P := P) (w := w) (base := base) T
  obtain ⟨_, G_law_whole, b_law_whole, k_law_whole⟩ := good_law_whole (P := P) (w := w) (base := base) T
  obtain ⟨_, G_Train_holder, b_Train_holder, k_Train_holder⟩ := good_Train_holder (P := P) (w := w) (base := base) T
  obtain ⟨_, G_Train_load, b_Train_load, k_Train_load⟩ := good_Train_load (P := P) (w := w) (base := base) T
  obtain ⟨_, G_Train_blocked, b_Train_blocked, k_Train_blocked⟩ := good_Train_blocked (P := P) (w := w) (base := base) T
  obtain ⟨_, G_law_numbers, b_law_numbers, k_law_numbers⟩ := good_law_numbers (P := P) (w := w) (base := base) T
  obtain ⟨_, G_Train_tickets, b_Train_tickets, k_Train_tickets⟩ := good_Train_tickets (P := P) (w := w) (base := base) T
  refine ⟨fd, ?_, F.binds (ps := ["_law_train", "_law_seats", "_law_stops"]) fun _ _ _ _ _ _ us hl => match us, hl with | [_, _, _], _ => rfl, F.kp⟩
  refine Fun.ok F sc_law_empty (fun vs H Q E h => ?_) (fun cdv A outer s H vs Q E hr h => ?_)
  · obtain ⟨L, S, N, rfl, x, q⟩ := h
    rfl
  · obtain ⟨L, S, N, rfl, x, q⟩ := h
    refine ⟨_, (pss_cons (ps_for PassesOwn.never rfl (pi_range3 (by rfl) T.b_range (pa_cons pe_int (pa_cons (pv 1) (pa_cons (pe_op op_add pe_int (pe_op op_fdiv (pv 1) pe_int)) pa_nil)))) (pg_name (i := 3) sc_law_empty.nd rfl (by first | exact Or.inl rfl | exact Or.inr rfl)) (pss_one (ps_for PassesOwn.never rfl (pi_range1 (by rfl) T.b_range (pa_cons (pv 2) pa_nil)) (pg_name (i := 4) sc_law_empty.nd rfl (by first | exact Or.inl rfl | exact Or.inr rfl)) (pss_cons (ps_set (i := 5) sc_law_empty.nd rfl (by first | exact Or.inl rfl | exact Or.inr rfl) (pe_meth (pv 0) T.cT T.me_Train_farthest G_Train_farthest (hr.mono (by decide)) b_Train_farthest .nil passN (pa_cons (pv 3) (pa_cons (pv 4) pa_nil)))) (pss_cons (ps_if (PW.pt (pw_or (pt_not (pt_val (pe_call G_law_whole (hr.mono (by decide)) rfl T.g_law_whole k_law_whole b_law_whole .nil pass0 (pa_cons (pv 5) pa_nil)))) (pw_or1 (pt_cmpR op_ne (pv 5) (pe_op op_sub (pv 2) pe_int) (nomark _))))) (pss_one (ps_ret pe_bl)) pss_nil) (pss_one (ps_if (PW.pt (pw_and (pt_cmpR op_lt (pv 4) (pe_op op_sub (pv 2) pe_int) (nomark _)) (pw_and1 (pt_cmpR op_notN1 (pe_meth (pv 0) T.cT T.me_Train_holder G_Train_holder (hr.mono (by decide)) b_Train_holder .nil passN (pa_cons (pv 3) (pa_cons (pv 4) pa_nil))) pe_non (nomark _))))) (pss_one (ps_ret pe_bl)) pss_nil))))))) (pss_cons (ps_if (PW.pt (pw_or (pt_cmpR op_ne (pe_meth (pv 0) T.cT T.me_Train_farthest G_Train_farthest (hr.mono (by decide)) b_Train_farthest .nil passN (pa_cons (pe_op op_sub (pv 1) pe_int) (pa_cons pe_int pa_nil))) (pe_op op_sub (pv 2) pe_int) (nomark _)) (pw_or1 (pt_cmpR op_notN1 (pe_meth (pv 0) T.cT T.me_Train_holder G_Train_holder (hr.mono (by decide)) b_Train_holder .nil passN (pa_cons (pe_op op_sub (pv 1) pe_int) (pa_cons pe_int pa_nil))) pe_non (nomark _))))) (pss_one (ps_ret pe_bl)) pss_nil) (pss_cons (ps_for PassesOwn.never rfl (pi_range1 (by rfl) T.b_range (pa_cons (pe_op op_sub (pv 2) pe_int) pa_nil)) (pg_name (i := 6) sc_law_empty.nd rfl (by first | exact Or.inl rfl | exact Or.inr rfl)) (pss_cons (ps_set (i := 5) sc_law_empty.nd rfl (by first | exact Or.inl rfl | exact Or.inr rfl) (pe_meth (pv 0) T.cT T.me_Train_load G_Train_load (hr.mono (by decide)) b_Train_load .nil passN (pa_cons (pv 6) pa_nil))) (pss_one (ps_if (PW.pt (pw_or (pt_not (pt_val (pe_call G_law_whole (hr.mono (by decide)) rfl T.g_law_whole k_law_whole b_law_whole .nil pass0 (pa_cons (pv 5) pa_nil)))) (pw_or (pt_cmpR op_ne (pv 5) pe_int (nomark _)) (pw_or1 (pt_cmpR op_notN1 (pe_meth (pv 0) T.cT T.me_Train_blocked G_Train_blocked (hr.mono (by decide)) b_Train_blocked .nil passN (pa_cons (pv 6) (pa_cons (pe_op op_sub (pv 2) pe_int) pa_nil))) pe_non (nomark _)))))) (pss_one (ps_ret pe_bl)) pss_nil)))) (pss_one (ps_ret (pe_call G_law_numbers (hr.mono (by decide)) rfl T.g_law_numbers k_law_numbers b_law_numbers .nil pass0 (pa_cons (pe_meth0 (pv 0) T.cT T.me_Train_tickets G_Train_tickets (hr.mono (by decide)) b_Train_tickets .nil pass0) (pa_cons (pe_lst pa_nil) pa_nil)))))))), ?_⟩
    have s1 : 1 ≤ S := x.s1
    have s2 : S ≤ 60 := x.s2
    have n1 : 2 ≤ N := x.n1
    have n2 : N ≤ 60 := x.n2
    have far : ∀ {i : Nat} {j : Int} {r : List (Option Int)}, (freshTr S N).held[i]? = some r → 0 ≤ j → j < N → ((reach r j.toNat : Nat) : Int) = (N : Int) - 1 := fun hr a b => by
      rw [fresh_row hr, fresh_reach (by omega)]
      omega
    have hol : ∀ {i j : Nat} {r : List (Option Int)} {y : Option Int}, (freshTr S N).held[i]? = some r → r[j]? = some y → y = none := fun hr hy => by
      rw [fresh_row hr] at hy
      exact List.eq_of_mem_replicate (List.mem_of_getElem? hy)
    have g1 : Builtin.Range.small 0 (S : Int) (1 + (S : Int) / 8) = true := (eighths ⟨S, by omega⟩ s1).1
    have g2 : ∀ i : Fin 61, (i.val : Int) < Builtin.Range.rangeSize 0 (S : Int) (1 + (S : Int) / 8) → (i.val : Int) * (1 + (S : Int) / 8) < S := (eighths ⟨S, by omega⟩ s1).2
    have g3 : 0 ≤ Builtin.Range.rangeSize 0 (S : Int) (1 + (S : Int) / 8) := (eighths_len ⟨S, by omega⟩ s1).1
    have g4 : Builtin.Range.rangeSize 0 (S : Int) (1 + (S : Int) / 8) ≤ 60 := (eighths_len ⟨S, by omega⟩ s1).2
    refine ⟨_, rfl, _, rfl, _, _, rfl, rfl, ⟨by decide, by decide⟩, _, _, rfl, rfl, 0, (S : Int), 1 + (S : Int) / 8, (Builtin.Range.rangeSize 0 (S : Int) (1 + (S : Int) / 8)).toNat, rfl, ⟨by omega, by omega, g1, by omega⟩, ?_⟩
    refine for_rangeC (lo := 0) (c := 1 + (S : Int) / 8) (n := (Builtin.Range.rangeSize 0 (S : Int) (1 + (S : Int) / 8)).toNat) (fun m σ H' => ∃ y3 y4 y5, σ = [some (.ref L.p), some (.int S), some (.int N), y3, y4, y5, none] ∧ H = H') ⟨none, none, none, rfl, rfl⟩ ?_ ?_
    · rintro m σ H' hm ⟨y3, y4, y5, rfl, rfl⟩
      have hm1 : m < 61 := by omega
      have hseat : (m : Int) * (1 + (S : Int) / 8) < S := g2 ⟨m, hm1⟩ (by show (m : Int) < _; omega)
      have hseat0 : 0 ≤ (m : Int) * (1 + (S : Int) / 8) := Int.mul_nonneg (by omega) (by omega)
      generalize hw : (0 : Int) + (m : Int) * (1 + (S : Int) / 8) = seat
      have hs0 : 0 ≤ seat := by omega
      have hs1 : seat < S := by omega
      refine ⟨_, rfl, _, rfl, by omega, by omega, ?_⟩
      refine for_range (lo := 0) (n := ((N : Nat) : Int).toNat) (fun l σ H' => ∃ y4 y5, σ = [some (.ref L.p), some (.int S), some (.int N), some (.int seat), y4, y5, none] ∧ H = H') ⟨y4, y5, rfl, rfl⟩ ?_ ?_
      · rintro l σ H' hl ⟨y4, y5, rfl, rfl⟩
        refine ⟨_, rfl, L.p, L.dx, _, rfl, x.ob, tf_no (by kernel_rfl), _, rfl, _, rfl, L, freshTr S N, _, _, rfl, x, fun r _ hr _ _ => ?_, fun z => z ⟨hs0, hs1⟩, fun _ z => z ⟨by omega, by show _ < (N : Int); omega⟩⟩
        rw [far hr (by omega) (by omega)]
        refine ⟨_, rfl, _, rfl, rfl, true, rfl, iteFf rfl ?_⟩
        refine ⟨_, rfl, _, rfl, _, _, rfl, rfl, rfl, _, rfl, iteFf (eqV' rfl) ?_⟩
        refine ⟨_, rfl, _, rfl, _, _, rfl, rfl, _, _, rfl, rfl, _, rfl, ?_⟩
        refine chainI3 (fun c => ?_) (fun c => iteFf rfl ⟨_, _, rfl, rfl⟩)
        refine ⟨_, rfl, L.p, L.dx, _, rfl, x.ob, tf_no (by kernel_rfl), _, rfl, _, rfl, L, freshTr S N, _, _, rfl, x, fun r y _ hr _ hy => ?_, fun z => z ⟨hs0, hs1⟩, fun _ z => z ⟨by omega, by show _ < (N : Int) - 1; omega⟩⟩
        rw [hol hr hy]
        exact ⟨rfl, _, rfl, iteFf rfl ⟨_, _, rfl, rfl⟩⟩
      · rintro σ H' ⟨y4, y5, rfl, rfl⟩
        exact ⟨_, _, _, rfl, rfl⟩
    rintro σ H' ⟨y3, y4, y5, rfl, rfl⟩
    refine ⟨_, rfl, L.p, L.dx, _, rfl, x.ob, tf_no (by kernel_rfl), _, rfl, _, _, rfl, rfl, L, freshTr S N, _, _, rfl, x, fun r _ hr _ _ => ?_, fun z => z ⟨by omega, by show _ < (S : Int); omega⟩, fun _ z => z ⟨by omega, by show _ < (N : Int); omega⟩⟩
    rw [far hr (by omega) (by omega)]
    refine ⟨_, rfl, _, _, rfl, rfl, rfl, _, rfl, iteFf (eqV' rfl) ?_⟩
    refine ⟨_, rfl, L.p, L.dx, _, rfl, x.ob, tf_no (by kernel_rfl), _, rfl, _, _, rfl, rfl, L, freshTr S N, _, _, rfl, x, fun r y _ hr _ hy => ?_, fun z => z ⟨by omega, by show _ < (S : Int); omega⟩, fun _ z => z ⟨by omega, by show _ < (N : Int) - 1; omega⟩⟩
    rw [hol hr hy]
    refine ⟨rfl, _, rfl, iteFf rfl ?_⟩
    refine ⟨_, rfl, _, _, rfl, rfl, _, rfl, by omega, by omega, ?_⟩
    refine for_range (lo := 0) (n := ((N : Int) - 1).toNat) (fun l σ H' => ∃ y5 y6, σ = [some (.ref L.p), some (.int S), some (.int N), y3, y4, y5, y6] ∧ Ex H H') ⟨y5, none, rfl, Ex.refl H⟩ ?_ ?_
    · rintro l σ H' hl ⟨y5', y6, rfl, ex⟩
      have x := x.ex ex
      refine ⟨_, rfl, L.p, L.dx, _, rfl, x.ob, tf_no (by kernel_rfl), _, rfl, L, freshTr S N, _, rfl, x, fun hb H2 e2 => ?_, fun z => z ⟨by omega, by show _ < (N : Int) - 1; omega⟩⟩
      have x := x.ex e2
      rw [fresh_load]
      refine ⟨_, rfl, _, rfl, rfl, true, rfl, iteFf rfl ?_⟩
      refine ⟨_, rfl, rfl, _, rfl, iteFf rfl ?_⟩
      refine ⟨_, rfl, L.p, L.dx, _, rfl, x.ob, tf_no (by kernel_rfl), _, rfl, _, rfl, _, _, rfl, rfl, L, freshTr S N, _, _, rfl, x, fun hb2 H3 e3 => ?_, fun z => z ⟨by omega, by omega, by show _ < (N : Int); omega⟩⟩
      rw [fresh_full s1]
      exact ⟨rfl, _, rfl, iteFf rfl ⟨_, _, rfl, (ex.trans e2).trans e3⟩⟩
    rintro σ H' ⟨y5', y6, rfl, ex⟩
    have x := x.ex ex
    refine ⟨_, rfl, L.p, L.dx, _, rfl, x.ob, tf_no (by kernel_rfl), L, freshTr S N, rfl, x, fun a ns ha hp _ => ?_⟩
    have en : ns = [] := hp.eq_nil
    subst en
    refine ⟨Nat.zero_le _, fun b hb => ?_⟩
    have nab : a ≠ b := ne_of_none upd_same hb
    refine ⟨a, b, [], [], rfl, by rw [upd_ne nab]; exact upd_same, SqL.of upd_same, Nat.zero_le _, ?_⟩
    exact q _ ((ex.trans (Ex.new ha)).trans (Ex.new hb))
theorem law_ok (T : Facts K mg) {fd : FuncData} (F : Fun K "law" "law" s_law (He.ga K "law") fd) : FnOk P w K mg base CX0 5 (He.ga K "law") fd ["_law_script"] (spLaw K) := by
  obtain ⟨_, G_law_size_by, b_law_size_by, k_law_size_by⟩ := good_law_size_by (P := P) (w := w) (base := base) T
  obtain ⟨_, G_law_cell_at, b_law_cell_at, k_law_cell_at⟩ := good_law_cell_at (P := P) (w := w) (base := base) T
  obtain ⟨_, G_Train_init, b_Train_init, k_Train_init⟩ := good_Train_init (P := P) (w := w) (base := base) T
  obtain ⟨_, G_Train_size, b_Train_size, k_Train_size⟩ := good_Train_size (P := P) (w := w) (base := base) T
  obtain ⟨_, G_law_numbers, b_law_numbers, k_law_numbers⟩ := good_law_numbers (P := P) (w := w) (base := base) T
  obtain ⟨_, G_law_empty, b_law_empty, k_law_empty⟩ := good_law_empty (P := P) (w := w) (base := base) T
  have GE_law_class := fun x (hx : x ∈ (["NoTrain"] : List Str)) => goodE_law_class (P := P) (w := w) (base := base) T (x := x) hx
  have kE_law_class : PySem.W.keepIn K (.ref (He.ga K "_law_class")) = true := (let ⟨_, F⟩ := T.fu_law_class; F.kp)
  refine Fun.ok F sc_law (fun vs H Q E h => ?_) (fun cdv A outer s H vs Q E hr h => ?_)
  · obtain ⟨a, ns, rfl, hS, q⟩ := h
    rfl
  · obtain ⟨a, ns, rfl, hS, q⟩ := h
    refine ⟨_, (pss_cons (ps_set (i := 1) sc_law.nd rfl (by first | exact Or.inl rfl | exact Or.inr rfl) (pe_call G_law_size_by (hr.mono (by decide)) rfl T.g_law_size_by k_law_size_by b_law_size_by .nil pass0 (pa_cons (pe_call G_law_cell_at (hr.mono (by decide)) rfl T.g_law_cell_at k_law_cell_at b_law_cell_at .nil pass0 (pa_cons (pv 0) (pa_cons pe_int pa_nil))) pa_nil))) (pss_cons (ps_set (i := 2) sc_law.nd rfl (by first | exact Or.inl rfl | exact Or.inr rfl) (pe_call G_law_size_by (hr.mono (by decide)) rfl T.g_law_size_by k_law_size_by b_law_size_by .nil pass0 (pa_cons (pe_call G_law_cell_at (hr.mono (by decide)) rfl T.g_law_cell_at k_law_cell_at b_law_cell_at .nil pass0 (pa_cons (pv 0) (pa_cons pe_int pa_nil))) pa_nil))) (pss_cons (ps_set (i := 3) sc_law.nd rfl (by first | exact Or.inl rfl | exact Or.inr rfl) pe_str) (pss_cons (ps_set (i := 4) sc_law.nd rfl (by first | exact Or.inl rfl | exact Or.inr rfl) pe_non) (pss_cons (L2N.ps_try_as (i := 5) rfl rfl sc_law.nd rfl rfl ⟨rfl, by decide, Or.inl T.gx_SeatError⟩ takesNone (fun W pn xe tk po => (pss_one (ps_set (i := 4) sc_law.nd rfl (by first | exact Or.inl rfl | exact Or.inr rfl) (pe_makeT T.mkT G_Train_init (hr.mono (by decide)) rfl T.gT b_Train_init (fun σ => L2N.passAt tk σ) (pa_cons (pv 1) (pa_cons (pv 2) pa_nil)))))) (fun a oe cls d pn hz hf => (pss_one (ps_set (i := 3) sc_law.nd rfl (by first | exact Or.inl rfl | exact Or.inr rfl) (pe_callE (zw := fun x => .str (wordOf x)) GE_law_class (hr.mono (by decide)) hz hf rfl T.g_law_class kE_law_class (pv 5)))))) (pss_cons (ps_if (PW.pt (pw_or (pt_cmpR op_lt (pv 1) pe_int (nomark _)) (pw_or (pt_cmpR op_gt (pv 1) pe_int (nomark _)) (pw_or (pt_cmpR op_lt (pv 2) pe_int (nomark _)) (pw_or1 (pt_cmpR op_gt (pv 2) pe_int (nomark _))))))) (pss_one (ps_ret (pe_cmpR op_eq (pv 3) pe_str (nomark _)))) pss_nil) (pss_cons (ps_set (i := 6) sc_law.nd rfl (by first | exact Or.inl rfl | exact Or.inr rfl) (pe_lst (pa_cons pe_int (pa_cons pe_int pa_nil)))) (pss_cons (ps_if (pt_cmpR op_eq (pv 3) pe_str (nomark _)) (pss_one (ps_set (i := 6) sc_law.nd rfl (by first | exact Or.inl rfl | exact Or.inr rfl) (pe_meth0 (pv 4) T.cT T.me_Train_size G_Train_size (hr.mono (by decide)) b_Train_size .nil pass0))) pss_nil) (pss_cons (ps_if (PW.pt (pw_or (pt_cmpR op_ne (pv 3) pe_str (nomark _)) (pw_or (pt_not (pt_val (pe_callB call_isi (by rfl) T.b_isinstance (by decide +kernel) (pa_cons (pv 6) (pa_cons (pe_bltn (v := .ty "tuple") rfl T.b_tuple (by decide +kernel) rfl) pa_nil))))) (pw_or (pt_cmpR op_ne (pe_callB call_len_seq (by rfl) T.b_len PySem.boot_len (pa_cons (pv 6) pa_nil)) pe_int (nomark _)) (pw_or1 (pt_not (pt_val (pe_call G_law_numbers (hr.mono (by decide)) rfl T.g_law_numbers k_law_numbers b_law_numbers .nil pass0 (pa_cons (pe_callTy call_list_of (by rfl) T.b_list (by decide +kernel) (pa_cons (pv 6) pa_nil)) (pa_cons (pe_lst (pa_cons (pv 1) (pa_cons (pv 2) pa_nil))) pa_nil)))))))))) (pss_one (ps_ret pe_bl)) pss_nil) (pss_one (ps_ret (pe_call G_law_empty (hr.mono (by decide)) rfl T.g_law_empty k_law_empty b_law_empty .nil pass0 (pa_cons (pv 4) (pa_cons (pv 1) (pa_cons (pv 2) pa_nil))))))))))))))), ?_⟩
    refine ⟨_, rfl, a, ns, 0, rfl, hS, by omega, _, rfl, fun H1 e1 => ?_⟩
    refine ⟨_, rfl, a, ns, 1, rfl, ex_l e1 hS, by omega, _, rfl, fun H2 e2 => ?_⟩
    generalize sizeBy (cellAt ns (Int.toNat 0)) = S
    generalize sizeBy (cellAt ns (Int.toNat 1)) = N
    have test : ∀ (σ : L2.St) (H' : Hp), σ[1]? = some (some (.int S)) → σ[2]? = some (some (.int N)) →
        EvT (tOr (tTest (tOp (rI0 fun i j => V.bl (decide (i < j))) (tVar 1) (tC (V.int 1)))) (tOr (tTest (tOp (rI0 fun i j => V.bl (decide (j < i))) (tVar 1) (tC (V.int 60)))) (tOr (tTest (tOp (rI0 fun i j => V.bl (decide (i < j))) (tVar 2) (tC (V.int 2))))
          (tTest (tOp (rI0 fun i j => V.bl (decide (j < i))) (tVar 2) (tC (V.int 60))))))) σ H' (decide (S < 1) || (decide (60 < S) || (decide (N < 2) || decide (60 < N)))) := fun σ H' g1 g2 =>
      et_or (et_test (ev_op (ev_var g1) ev_c rv_I0)) fun _ => et_or (et_test (ev_op (ev_var g1) ev_c rv_I0)) fun _ => et_or (et_test (ev_op (ev_var g2) ev_c rv_I0)) fun _ => et_test (ev_op (ev_var g2) ev_c rv_I0)
    refine ⟨_, rfl, _, rfl, fun x dx hx hdx hne => ?_⟩
    refine ⟨x, dx, S, N, rfl, upd_same, fun hok L H3 ep edx X3 kp fr => ⟨rfl, ?_⟩, fun hno => ?_⟩
    · subst ep
      obtain ⟨S, rfl⟩ := Int.eq_ofNat_of_zero_le (show 0 ≤ S by omega)
      obtain ⟨N, rfl⟩ := Int.eq_ofNat_of_zero_le (show 0 ≤ N by omega)
      rw [Int.toNat_natCast, Int.toNat_natCast] at X3
      refine test _ H3 rfl rfl H3 (Ex.refl H3) _ fun H4 e4 => ?_
      refine iteFf (by rw [decide_eq_false (by omega), decide_eq_false (by omega), decide_eq_false (by omega), decide_eq_false (by omega)]; rfl) ?_
      have X4 := X3.ex e4
      refine ⟨(by show 2 ≤ sizeLine; decide), fun l hl => ?_⟩
      have x := X4.ex (Ex.new (o := .lst [.int 0, .int 0]) hl)
      refine ⟨_, rfl, rfl, _, rfl, iteTt (decide_eq_true rfl) ?_⟩
      refine ⟨_, rfl, L.p, L.dx, _, rfl, x.ob, tf_no (by kernel_rfl), L, _, rfl, x, fun b hb => ?_⟩
      refine ⟨_, rfl, rfl, _, rfl, iteFf (by rw [decide_eq_true rfl]; rfl) ?_⟩
      refine ⟨_, rfl, .ref b, .ty "tuple", _, _, true, rfl, .ty "tuple", .base (.tup upd_same), kit_ty (by decide +kernel), true, rfl, iteFf rfl ?_⟩
      refine ⟨_, rfl, b, _, rfl, .inr (SqT.of upd_same), rfl, _, rfl, iteFf (eqV' rfl) ?_⟩
      refine ⟨_, rfl, b, _, rfl, .inr (SqT.of upd_same), fun c hc => ?_⟩
      refine ⟨_, rfl, _, rfl, (by show 2 ≤ sizeLine; decide), fun d hd => ?_⟩
      have ncd : c ≠ d := ne_of_none upd_same hd
      refine ⟨c, d, [(S : Int), (N : Int)], [(S : Int), (N : Int)], rfl, by rw [upd_ne ncd]; exact upd_same, SqL.of upd_same, by show 2 ≤ 100000; decide, ?_⟩
      refine ⟨_, rfl, iteFf (by rw [decide_eq_true rfl]; rfl) ?_⟩
      refine ⟨_, rfl, _, rfl, _, rfl, L, S, N, rfl, ((x.ex (Ex.new hb)).ex (Ex.new hc)).ex (Ex.new hd), fun H' _ => q H'⟩
    · refine ⟨true, T.ex_NoTrain, fun _ b hb => ?_, fun z => nomatch z⟩
      refine ⟨_, rfl, rfl, "NoTrain", by simp, rfl, rfl, fun H4 e4 => ?_⟩
      refine test _ H4 rfl rfl H4 (Ex.refl H4) _ fun H5 e5 => ?_
      have w : wordOf "NoTrain" = "train" := by decide +kernel
      refine iteTt ?_ ⟨_, rfl, rfl, ?_⟩
      · by_cases c1 : S < 1
        · rw [decide_eq_true c1]
          rfl
        by_cases c2 : 60 < S
        · rw [decide_eq_true c2, Bool.true_or, Bool.or_true]
        by_cases c3 : N < 2
        · rw [decide_eq_true c3, Bool.true_or, Bool.or_true, Bool.or_true]
        rw [decide_eq_true (show 60 < N by omega), Bool.or_true, Bool.or_true, Bool.or_true]
      · show Q (V.bl (decide (V.str (wordOf "NoTrain") = V.str "train"))) H5
        rw [w, decide_eq_true rfl]
        exact q H5
end
end Leg
set_option maxHeartbeats 4000000
namespace Leg
open PySem PySem.Spec PyProof.Rows L2 Evl
set_option maxHeartbeats 0
def d_Train_init : He.DefD := ⟨("Train", some "__init__"), "__init__", "Train.__init__", defArgs s_Train_init, defBody s_Train_init, defScope s_Train_init, [], []⟩
def d_Train_tickets : He.DefD := ⟨("Train", some "tickets"), "tickets", "Train.tickets", defArgs s_Train_tickets, defBody s_Train_tickets, defScope s_Train_tickets, [], []⟩
def d_Train_blocked : He.DefD := ⟨("Train", some "blocked"), "blocked", "Train.blocked", defArgs s_Train_blocked, defBody s_Train_blocked, defScope s_Train_blocked, [], []⟩
def d_Train_farthest : He.DefD := ⟨("Train", some "farthest"), "farthest", "Train.farthest", defArgs s_Train_farthest, defBody s_Train_farthest, defScope s_Train_farthest, [], []⟩
def d_Train_holder : He.DefD := ⟨("Train", some "holder"), "holder", "Train.holder", defArgs s_Train_holder, defBody s_Train_holder, defScope s_Train_holder, [], []⟩
def d_Train_load : He.DefD := ⟨("Train", some "load"), "load", "Train.load", defArgs s_Train_load, defBody s_Train_load, defScope s_Train_load, [], []⟩
def d_Train_size : He.DefD := ⟨("Train", some "size"), "size", "Train.size", defArgs s_Train_size, defBody s_Train_size, defScope s_Train_size, [], []⟩
def d_Train__check_seat : He.DefD := ⟨("Train", some "_check_seat"), "_check_seat", "Train._check_seat", defArgs s_Train__check_seat, defBody s_Train__check_seat, defScope s_Train__check_seat, [], []⟩
def d_Train__check_leg : He.DefD := ⟨("Train", some "_check_leg"), "_check_leg", "Train._check_leg", defArgs s_Train__check_leg, defBody s_Train__check_leg, defScope s_Train__check_leg, [], []⟩
def d_Train__check_stretch : He.DefD := ⟨("Train", some "_check_stretch"), "_check_stretch", "Train._check_stretch", defArgs s_Train__check_stretch, defBody s_Train__check_stretch, defScope s_Train__check_stretch, [], []⟩
def d_law_cell_at : He.DefD := ⟨("_law_cell_at", none), "_law_cell_at", "_law_cell_at", defArgs s_law_cell_at, defBody s_law_cell_at, defScope s_law_cell_at, [], []⟩
def d_law_whole : He.DefD := ⟨("_law_whole", none), "_law_whole", "_law_whole", defArgs s_law_whole, defBody s_law_whole, defScope s_law_whole, [], []⟩
def d_law_mixed : He.DefD := ⟨("_law_mixed", none), "_law_mixed", "_law_mixed", defArgs s_law_mixed, defBody s_law_mixed, defScope s_law_mixed, [], []⟩
def d_law_class : He.DefD := ⟨("_law_class", none), "_law_class", "_law_class", defArgs s_law_class, defBody s_law_class, defScope s_law_class, [], []⟩
def d_law_numbers : He.DefD := ⟨("_law_numbers", none), "_law_numbers", "_law_numbers", defArgs s_law_numbers, defBody s_law_numbers, defScope s_law_numbers, [], []⟩
def d_law_size_by : He.DefD := ⟨("_law_size_by", none), "_law_size_by", "_law_size_by", defArgs s_law_size_by, defBody s_law_size_by, defScope s_law_size_by, [], []⟩
def d_law_empty : He.DefD := ⟨("_law_empty", none), "_law_empty", "_law_empty", defArgs s_law_empty, defBody s_law_empty, defScope s_law_empty, [], []⟩
def d_law : He.DefD := ⟨("law", none), "law", "law", defArgs s_law, defBody s_law, defScope s_law, [], []⟩
def fn : List He.DefD := [d_Train_init, d_Train_tickets, d_Train_blocked, d_Train_farthest, d_Train_holder, d_Train_load, d_Train_size, d_Train__check_seat, d_Train__check_leg, d_Train__check_stretch, d_law_cell_at, d_law_whole, d_law_mixed, d_law_class, d_law_numbers, d_law_size_by, d_law_empty, d_law]
def fa : List He.Fa := [.cls "Train", .glo "Train", .mkr "Train", .noat "Train" "_seats", .noat "Train" "_stops", .noat "Train" "_legs", .noat "Train" "_held", .noat "Train" "_sold", .noat "Train" "_next", .meth "Train" "tickets", .meth "Train" "blocked", .meth "Train" "farthest", .meth "Train" "holder", .meth "Train" "load", .meth "Train" "size", .meth "Train" "_check_seat", .meth "Train" "_check_leg", .meth "Train" "_check_stretch", .glo "_law_cell_at", .glo "_law_whole", .glo "_law_mixed", .glo "_law_class", .glo "_law_numbers", .glo "_law_size_by", .glo "_law_empty", .glo "law", .free "len", .free "range", .free "isinstance", .free "sorted", .free "list", .free "int", .free "bool", .free "tuple", .free "ValueError", .int "LEAST_SEATS" 1, .int "MOST_SEATS" 60, .int "LEAST_STOPS" 2, .int "MOST_STOPS" 60, .glo "SeatError", .exc "SeatError", .glo "NoTrain", .exc "NoTrain", .glo "NoStretch", .exc "NoStretch", .glo "NoSeat", .exc "NoSeat", .glo "NoStop", .exc "NoStop", .glo "NoLeg", .exc "NoLeg", .glo "NoTicket", .exc "NoTicket", .glo "Full", .exc "Full", .glo "Shared", .exc "Shared", .glo "NoText", .exc "NoText", .exm "NoTrain" "SeatError" true, .exm "NoStretch" "SeatError" true, .exm "NoSeat" "SeatError" true, .exm "NoStop" "SeatError" true, .exm "NoLeg" "SeatError" true, .exm "NoTicket" "SeatError" true, .exm "Full" "SeatError" true, .exm "Shared" "SeatError" true, .exm "NoText" "SeatError" true]
def ex : PySem.W.Frag → Bool := hotB ["NoTrain", "NoStretch", "NoSeat", "NoStop", "NoLeg", "NoTicket", "Full", "Shared", "NoText"] ["NoTrain"]
theorem facts_of {w : World} {h0 : Heap} {K : PySem.W.Frag} {mg : Str → Option Value} (X : K.In h0) (G : h0.Ns mainGlobals mg) (c0 : He.SaysX fa fn [] [] ex w h0 K) : Facts K mg := by
  have c : He.SaysD fa fn K := c0.t.d
  exact ⟨He.cls_ok (c.fact 0 (f := .cls "Train") rfl),
    He.glo_ok X G (c.fact 1 (f := .glo "Train") rfl),
    He.mkr_ok (c.fact 2 (f := .mkr "Train") rfl),
    He.noat_ok (c.fact 3 (f := .noat "Train" "_seats") rfl),
    He.noat_ok (c.fact 4 (f := .noat "Train" "_stops") rfl),
    He.noat_ok (c.fact 5 (f := .noat "Train" "_legs") rfl),
    He.noat_ok (c.fact 6 (f := .noat "Train" "_held") rfl),
    He.noat_ok (c.fact 7 (f := .noat "Train" "_sold") rfl),
    He.noat_ok (c.fact 8 (f := .noat "Train" "_next") rfl),
    (let ⟨fd, F⟩ := c.def_ 0 (d := d_Train_init) rfl; ⟨fd, He5.fun_of F⟩),
    He.meth_ok (c.fact 9 (f := .meth "Train" "tickets") rfl),
    (let ⟨fd, F⟩ := c.def_ 1 (d := d_Train_tickets) rfl; ⟨fd, He5.fun_of F⟩),
    He.meth_ok (c.fact 10 (f := .meth "Train" "blocked") rfl),
    (let ⟨fd, F⟩ := c.def_ 2 (d := d_Train_blocked) rfl; ⟨fd, He5.fun_of F⟩),
    He.meth_ok (c.fact 11 (f := .meth "Train" "farthest") rfl),
    (let ⟨fd, F⟩ := c.def_ 3 (d := d_Train_farthest) rfl; ⟨fd, He5.fun_of F⟩),
    He.meth_ok (c.fact 12 (f := .meth "Train" "holder") rfl),
    (let ⟨fd, F⟩ := c.def_ 4 (d := d_Train_holder) rfl; ⟨fd, He5.fun_of F⟩),
    He.meth_ok (c.fact 13 (f := .meth "Train" "load") rfl),
    (let ⟨fd, F⟩ := c.def_ 5 (d := d_Train_load) rfl; ⟨fd, He5.fun_of F⟩),
    He.meth_ok (c.fact 14 (f := .meth "Train" "size") rfl),
    (let ⟨fd, F⟩ := c.def_ 6 (d := d_Train_size) rfl; ⟨fd, He5.fun_of F⟩),
    He.meth_ok (c.fact 15 (f := .meth "Train" "_check_seat") rfl),
    (let ⟨fd, F⟩ := c.def_ 7 (d := d_Train__check_seat) rfl; ⟨fd, He5.fun_of F⟩),
    He.meth_ok (c.fact 16 (f := .meth "Train" "_check_leg") rfl),
    (let ⟨fd, F⟩ := c.def_ 8 (d := d_Train__check_leg) rfl; ⟨fd, He5.fun_of F⟩),
    He.meth_ok (c.fact 17 (f := .meth "Train" "_check_stretch") rfl),
    (let ⟨fd, F⟩ := c.def_ 9 (d := d_Train__check_stretch) rfl; ⟨fd, He5.fun_of F⟩),
    He.glo_ok X G (c.fact 18 (f := .glo "_law_cell_at") rfl),
    (let ⟨fd, F⟩ := c.def_ 10 (d := d_law_cell_at) rfl; ⟨fd, He5.fun_of F⟩),
    He.glo_ok X G (c.fact 19 (f := .glo "_law_whole") rfl),
    (let ⟨fd, F⟩ := c.def_ 11 (d := d_law_whole) rfl; ⟨fd, He5.fun_of F⟩),
    He.glo_ok X G (c.fact 20 (f := .glo "_law_mixed") rfl),
    (let ⟨fd, F⟩ := c.def_ 12 (d := d_law_mixed) rfl; ⟨fd, He5.fun_of F⟩),
    He.glo_ok X G (c.fact 21 (f := .glo "_law_class") rfl),
    (let ⟨fd, F⟩ := c.def_ 13 (d := d_law_class) rfl; ⟨fd, He5.fun_of F⟩),
    He.glo_ok X G (c.fact 22 (f := .glo "_law_numbers") rfl),
    (let ⟨fd, F⟩ := c.def_ 14 (d := d_law_numbers) rfl; ⟨fd, He5.fun_of F⟩),
    He.glo_ok X G (c.fact 23 (f := .glo "_law_size_by") rfl),
    (let ⟨fd, F⟩ := c.def_ 15 (d := d_law_size_by) rfl; ⟨fd, He5.fun_of F⟩),
    He.glo_ok X G (c.fact 24 (f := .glo "_law_empty") rfl),
    (let ⟨fd, F⟩ := c.def_ 16 (d := d_law_empty) rfl; ⟨fd, He5.fun_of F⟩),
    He.glo_ok X G (c.fact 25 (f := .glo "law") rfl),
    (let ⟨fd, F⟩ := c.def_ 17 (d := d_law) rfl; ⟨fd, He5.fun_of F⟩),
    He.free_ok X G (c.fact 26 (f := .free "len") rfl),
    He.free_ok X G (c.fact 27 (f := .free "range") rfl),
    He.free_ok X G (c.fact 28 (f := .free "isinstance") rfl),
    He.free_ok X G (c.fact 29 (f := .free "sorted") rfl),
    He.free_ok X G (c.fact 30 (f := .free "list") rfl),
    He.free_ok X G (c.fact 31 (f := .free "int") rfl),
    He.free_ok X G (c.fact 32 (f := .free "bool") rfl),
    He.free_ok X G (c.fact 33 (f := .free "tuple") rfl),
    He.free_ok X G (c.fact 34 (f := .free "ValueError") rfl),
    He.int_ok X G (c.fact 35 (f := .int "LEAST_SEATS" 1) rfl),
    He.int_ok X G (c.fact 36 (f := .int "MOST_SEATS" 60) rfl),
    He.int_ok X G (c.fact 37 (f := .int "LEAST_STOPS" 2) rfl),
    He.int_ok X G (c.fact 38 (f := .int "MOST_STOPS" 60) rfl),
    He.glo_ok X G (c.fact 39 (f := .glo "SeatError") rfl),
    He.exc_ok (c.fact 40 (f := .exc "SeatError") rfl),
    He.glo_ok X G (c.fact 41 (f := .glo "NoTrain") rfl),
    He.exc_ok (c.fact 42 (f := .exc "NoTrain") rfl),
    He.glo_ok X G (c.fact 43 (f := .glo "NoStretch") rfl),
    He.exc_ok (c.fact 44 (f := .exc "NoStretch") rfl),
    He.glo_ok X G (c.fact 45 (f := .glo "NoSeat") rfl),
    He.exc_ok (c.fact 46 (f := .exc "NoSeat") rfl),
    He.glo_ok X G (c.fact 47 (f := .glo "NoStop") rfl),
    He.exc_ok (c.fact 48 (f := .exc "NoStop") rfl),
    He.glo_ok X G (c.fact 49 (f := .glo "NoLeg") rfl),
    He.exc_ok (c.fact 50 (f := .exc "NoLeg") rfl),
    He.glo_ok X G (c.fact 51 (f := .glo "NoTicket") rfl),
    He.exc_ok (c.fact 52 (f := .exc "NoTicket") rfl),
    He.glo_ok X G (c.fact 53 (f := .glo "Full") rfl),
    He.exc_ok (c.fact 54 (f := .exc "Full") rfl),
    He.glo_ok X G (c.fact 55 (f := .glo "Shared") rfl),
    He.exc_ok (c.fact 56 (f := .exc "Shared") rfl),
    He.glo_ok X G (c.fact 57 (f := .glo "NoText") rfl),
    He.exc_ok (c.fact 58 (f := .exc "NoText") rfl),
    He.exm_ok (c.fact 59 (f := .exm "NoTrain" "SeatError" true) rfl),
    He.exm_ok (c.fact 60 (f := .exm "NoStretch" "SeatError" true) rfl),
    He.exm_ok (c.fact 61 (f := .exm "NoSeat" "SeatError" true) rfl),
    He.exm_ok (c.fact 62 (f := .exm "NoStop" "SeatError" true) rfl),
    He.exm_ok (c.fact 63 (f := .exm "NoLeg" "SeatError" true) rfl),
    He.exm_ok (c.fact 64 (f := .exm "NoTicket" "SeatError" true) rfl),
    He.exm_ok (c.fact 65 (f := .exm "Full" "SeatError" true) rfl),
    He.exm_ok (c.fact 66 (f := .exm "Shared" "SeatError" true) rfl),
    He.exm_ok (c.fact 67 (f := .exm "NoText" "SeatError" true) rfl), fun x hx => hotB_ok c0.more hx⟩
abbrev R : PySem.W.OpenRow := PySem.W.OpenLaw.row PySem.Challenge.rw_legseats_k01_a_new_train
abbrev hk : PySem.W.Hook := He.hookX 5 fa fn [] [] ex
def ob (s : PySem.W.SharedT) : He.AlX := He.obsX 5 fa fn [] [] ex (HandSHeadRun.getT s)
theorem ob_eq (s : PySem.W.SharedT) : ob s = hk.obs s.abs := He.obsX_eq (HandSHeadRun.getT_eq s)
def loose : List Str := "_wall" :: "SeatError" :: "NoTrain" :: "NoStretch" :: "NoSeat" :: "NoStop" :: "NoLeg" :: "NoTicket" :: "Full" :: "Shared" :: "NoText" :: "LEAST_SEATS" :: "MOST_SEATS" :: "LEAST_STOPS" :: "MOST_STOPS" :: "Train" :: "_law_cell_at" :: "_law_whole" :: "_law_mixed" :: "_law_class" :: "_law_numbers" :: "_law_size_by" :: "_law_empty" :: []
theorem run (w : World) : HandSHeadRun.RunEq R (PySem.W.view R.prog [26]) hk ob 6000 loose w := by
  intro os
  kernel_rfl
theorem law_facts {w : World} {K : PySem.W.Frag} {h : Heap} {mg : Str → Option Value} {f : Addr} (X : K.In h) (G : h.Ns mainGlobals mg) (hfa : mg ("law" : Str) = some (.ref f)) (c : He.SaysX fa fn [] [] ex w h K) :
    ∃ fd : FuncData, (∀ (s : Shared) (v : Value), BindsTo s fd ⟨[v], []⟩ [("_law_script", v)]) ∧ ∀ (P : Program) (base : Heap), FnOk P w K mg base CX0 5 f fd ["_law_script"] (spLaw K) := by
  have T := facts_of X G c
  obtain ⟨fd, FD⟩ := c.t.d.def_ 17 (d := d_law) rfl
  have e := hfa.symm.trans T.g_law
  cases e
  have b := FunD.bindsA (ps := ["_law_script"]) FD fun _ _ _ _ _ _ us hl => match us, hl with | [_], _ => rfl
  exact ⟨fd, fun s v => b s [v] rfl, fun P base => law_ok T (He5.fun_of FD)⟩
end Leg
open PySem PySem.W PySem.Calls PyProof.Rows
theorem PySem.Challenge.cw_legseats_k01_a_new_train_holds : PySem.Challenge.rw_legseats_k01_a_new_train.Holds := by
  w_on; o_law
  refine HandSHeadRun.head_any (r := OpenLaw.row PySem.Challenge.rw_legseats_k01_a_new_train) (q := view (OpenLaw.row PySem.Challenge.rw_legseats_k01_a_new_train).prog [26]) (H := Leg.hk) (ob := Leg.ob) (M := 6000) (loose := Leg.loose) (d := HandSHeadRun.topDef (OpenLaw.row PySem.Challenge.rw_legseats_k01_a_new_train).prog 26) (kwd := []) Leg.ob_eq
    (by kernel_rfl) (fun s => by kernel_rfl) Leg.run (by kernel_rfl) (by kernel_rfl) (by kernel_rfl) (by rfl) (by first | assumption | decide +kernel) (by decide +kernel) ⟨rfl, rfl, rfl, rfl, rfl, by decide +kernel⟩ ?hw ?hc
  case hw => w_witness2
  case hc =>
    refine L2.walk_ofE (l := PySem.Challenge.rw_legseats_k01_a_new_train) (n := 63) (k := 5) (x := "_law_script") (CX := L2.CX0) rfl (by decide) (by kernel_rfl) ⟨rfl, by decide, by decide⟩ ?F (fun _ _ _ _ z => z)
    intro w mg fa h Y G hmg0
    obtain ⟨K, KX, c⟩ := Y
    have hmg : mg ("law" : PySem.Str) = some (.ref fa) := by
      have e : (HandSHeadRun.topDef (OpenLaw.row PySem.Challenge.rw_legseats_k01_a_new_train).prog 26).name = ("law" : PySem.Str) := by kernel_rfl
      rw [← e]
      exact hmg0
    obtain ⟨fd, hb, hF⟩ := Leg.law_facts KX G hmg c
    exact ⟨K, fd, Leg.spLaw K, KX, hb, fun H a ns hl _ hS => ⟨a, ns, rfl, hS, fun _ => rfl⟩, fun base _ _ => hF _ base⟩
