import PyProof.Rows.All
import Wide.All
import OpenK.AllK
import Wide.FinOn
import HandS.ForMost
import HandS.ForExc
import HandS.ExcValue
import HandS.ExcIs
import HandS.IsInst
import HandS.HotCalls
import HandS.RaiseMore
import HandS.Wide
import HandS.EndBits
import HandS.Defaults
import PySem.Challenge.RW_exacttable_k17_refusals_apart
set_option Elab.async false
set_option linter.all false
set_option maxRecDepth 100000
set_option maxHeartbeats 4000000
/-! Rules of my own over the hand layer: a caught exception that is tracked; several clauses, with and without a name; defs that may be called while an exception is handled. -/
namespace Vf
open PySem PySem.Spec PyProof.Rows L2

/-! ### an exception object by its class -/
def ExIs (h : Heap) (a : Addr) (cls : Value) : Prop := ∃ (oe : Obj) (vs : Array Value), h.get? a = some oe ∧ Zc cls none oe ∧ oe.data = .fields vs
def ExT (cls : Value) (a : Addr) : HO := .ext fun h => ExIs h a cls
def ExAt (H : Hp) (a D : Addr) : Prop := ∃ φ, H a = some (.ext φ) ∧ ∀ h, φ h → ExIs h a (.ref D)
theorem ExAt.ofT {H : Hp} {a D : Addr} (e : H a = some (ExT (.ref D) a)) : ExAt H a D := ⟨_, e, fun _ q => q⟩
theorem ExAt.ofO {H : Hp} {a D : Addr} (e : H a = some (ExO (.ref D) a)) : ExAt H a D := ⟨_, e, fun _ ⟨oe, vs, q1, q2, q3, _⟩ => ⟨oe, vs, q1, q2, q3⟩⟩
theorem ExAt.same {H H' : Hp} {a D : Addr} (e : ExAt H a D) (s : Same H H') : ExAt H' a D := by
  obtain ⟨φ, q, r⟩ := e
  exact ⟨φ, s _ _ q, r⟩
/-- isinstance of such an object -/
def rIsX (K : PySem.W.Frag) : List V → Hp → VK → Prop := fun xs H Q => ∃ (a D : Addr) (c : V) (cv : Value) (b : Bool), xs = [.ref a, c] ∧ ClsV c cv ∧ ExAt H a D ∧ ExcC K D ∧ PySem.W.kitOne K (.ref D) cv = some b ∧ Q (.bl b) H
theorem call_isX {X : Cx} : CallR X (.builtin "isinstance") (rIsX X.K) := by
  intro pins s σ H xs us Q I r h
  obtain ⟨a, D, c, cv, b, rfl, k, ⟨φ, ha, hφ⟩, C, e, q⟩ := h
  obtain ⟨u1, u2, rfl, r1, r2⟩ := vals2 r
  obtain rfl := k.eq r2
  cases (show u1 = Value.ref a from r1)
  obtain ⟨p, _, _⟩ := I.hok a _ ha
  obtain ⟨⟨oc, od, oda, osl⟩, vs, hg, ⟨z1, z2⟩, hv⟩ := hφ _ p
  dsimp only at z1 z2 hv
  subst z1 z2 hv
  exact PySem.W.kia_one (PySem.W.handS_kitx_exc C.hg C.hk C.hs C.hd C.ha C.hn C.ht C.hm) I.kIn ⟨hg, rfl, rfl, trivial⟩ e (fun z => nomatch z) fun tk => ⟨.bl b, H, I.tok tk, rfl, q⟩

/-! ### a new object that was not tracked is tracked from now on -/
theorem adopt {X : Cx} {pins : List (Addr × Obj)} {σ : L2.St} {H : Hp} {s : Shared} {a : Addr} {cls : Value} (I : Inv X pins σ H s) (he : ExIs s.heap a cls) (na : H a = none) (n0 : X.s_0.heap.get? a = none) (nL : a ≠ X.env.locals) (nP : ∀ p ∈ X.pn ++ pins, p.1 ≠ a) :
    Inv X pins σ (upd H a (ExT cls a)) s := by
  obtain ⟨oe, vs, ha, hz, hd⟩ := id he
  have nC : ∀ x c, X.env.cells.lookup x = some c → c ≠ a := fun x c e z => by
    obtain ⟨v, o, ho, hc⟩ := I.cell x c e
    rw [z, ha] at ho
    cases ho
    rw [hd] at hc
    cases hc
  have nb0 : ∀ b o, X.s_0.heap.get? b = some o → b ≠ a := fun b o e z => by
    rw [z, n0] at e
    cases e
  have nbH : ∀ b o, H b = some o → b ≠ a := fun b o e => ne_of_none e na
  refine ⟨I.ok, I.os, I.bare, ⟨I.base.keep, I.base.slot, fun b o e n hx => ?_, I.base.there, fun b xs e => ?_, fun b o u e => ?_, fun b ps e => ?_⟩, I.loc, I.cell, ?_, fun x c e => ?_, fun p hp => ?_, fun b u e => ?_, I.len⟩
  · rw [upd_ne (nb0 b o e)]
    exact I.base.free b o e n hx
  · have q := I.base.tups b xs e
    rw [upd_ne (nbH _ _ q)]
    exact q
  · have q := I.base.frzs b o u e
    rw [upd_ne (nbH _ _ q)]
    exact q
  · obtain ⟨m, q⟩ := I.base.tbls b ps e
    exact ⟨m, by rw [upd_ne (nbH _ _ q)]; exact q⟩
  · rw [upd_ne nL.symm]
    exact I.free
  · rw [upd_ne (nC x c e)]
    exact I.freeC x c e
  · obtain ⟨e1, e2, e3⟩ := I.pin p hp
    exact ⟨e1, by rw [upd_ne (nP p hp)]; exact e2, e3⟩
  · by_cases hb : b = a
    · subst hb
      rw [upd_same] at e
      cases e
      exact ⟨he, ⟨oe, ha⟩, fun h1 h2 ⟨o1, v1, g1, g2⟩ k => ⟨o1, v1, k _ g1, g2⟩⟩
    · rw [upd_ne hb] at e
      exact (I.hok b u e).stay (fun _ _ _ q => q) (fun c q => by rw [upd_ne (nbH _ _ q)]; exact q) fun c xs q => by rw [upd_ne (nbH _ _ q)]; exact q
theorem toSuite {X : Cx} {pins : List (Addr × Obj)} {σ : L2.St} {H : Hp} {s : Shared} (I : Inv X pins σ H s) (a : Addr) : Inv (X.suite a (X.pn ++ pins)) [] σ H s :=
  ⟨I.ok.suite _ _, I.os, I.bare, I.base, I.loc, I.cell, I.free, I.freeC, fun p hp => I.pin p (by rw [List.append_nil] at hp; exact hp), I.hok, I.len⟩
theorem offSuite {X : Cx} {pins pn' : List (Addr × Obj)} {σ : L2.St} {H : Hp} {s : Shared} {a : Addr} (I : Inv (X.suite a (X.pn ++ pins)) pn' σ H s) (ok : X.Ok) : Inv X pins σ H s :=
  ⟨ok, I.os, I.bare, I.base, I.loc, I.cell, I.free, I.freeC, fun p hp => I.pin p (List.mem_append_left _ hp), I.hok, I.len⟩

/-! ### try with any number of clauses -/
def sw (oi : Option Nat) (v : Option V) (σ : L2.St) : L2.St := match oi with
  | none => σ
  | some i => σ.set i v
def dw (oi : Option Nat) (D : Ends) : Ends := { nx := fun σ H => D.nx (sw oi none σ) H, rt := D.rt, bk := fun σ H => D.bk (sw oi none σ) H, ct := fun σ H => D.ct (sw oi none σ) H }
abbrev Cls1 := Value × Option Nat × (Addr → Value → TS)
def wT (K : PySem.W.Frag) (Wout : WX) (D : Ends) : List Cls1 → WX
  | [] => Wout
  | (c, oi, ts) :: r => fun cls d σ H => ∃ b, PySem.W.exmOne K cls c = some b ∧ (b = true → d = none ∧ ∀ a, H a = none → ts a cls (dw oi D) (sw oi (some (.ref a)) σ) (upd H a (ExT cls a))) ∧ (b = false → wT K Wout D r cls d σ H)
inductive HdT (X : Cx) : List ExceptHandler → List Cls1 → Prop
  | nil : HdT X [] []
  | plain {x : Str} {c : Value} {ts : Addr → Value → TS} {b₀ : Stmt} {su : List Stmt} {p1 p2 : Pos} {hds : List ExceptHandler} {l : List Cls1} (hc : Names X x c)
      (hsu : ∀ (a : Addr) (cls : Value) (pn : List (Addr × Obj)), PSs (X.suite a pn) (b₀ :: su) (ts a cls)) (r : HdT X hds l) : HdT X (.ExceptHandler (some (.Name x p1)) none (b₀ :: su) p2 :: hds) ((c, none, ts) :: l)
  | named {x n : Str} {i : Nat} {c : Value} {ts : Addr → Value → TS} {b₀ : Stmt} {su : List Stmt} {p1 p2 : Pos} {hds : List ExceptHandler} {l : List Cls1} (hc : Names X x c) (hi : X.N[i]? = some n) (hln : X.env.kindOf n = some .local)
      (hsu : ∀ (a : Addr) (cls : Value) (pn : List (Addr × Obj)), PSs (X.suite a pn) (b₀ :: su) (ts a cls)) (r : HdT X hds l) : HdT X (.ExceptHandler (some (.Name x p1)) (some n) (b₀ :: su) p2 :: hds) ((c, some i, ts) :: l)
theorem ps_tryT {X : Cx} {body : List Stmt} {h₀ : ExceptHandler} {hds : List ExceptHandler} {l : List Cls1} {pos : Pos} {tb : WX → TS} {Wout : WX} (hs : X.stack = X.env :: X.outer) (hf : X.env.frame = some X.env.locals) (hex : X.ex = []) (hN : X.N.Nodup) (tk : L2.Takes X Wout)
    (hb : ∀ (W : WX) (pn : List (Addr × Obj)) (xe : Value → Shared → Prop), L2.Takes (X.tr pn xe) W → PassesOwn (model X.prog X.w) X.A X.env xe → PSs (X.tr pn xe) body (tb W))
    (hh : HdT X (h₀ :: hds) l) : PS X (.Try body (h₀ :: hds) [] [] pos) (fun D σ H => tb (wT X.K Wout D l) D σ H) := by
  refine ⟨fun pins s σ H D I h => ?_⟩
  have ok := I.ok
  have hfr : X.A.frames = some (X.env :: X.outer) := ok.frames.trans (congrArg some hs)
  refine wpAny_Try_except (wpAny_mono ((hb (wT X.K Wout D l) (X.pn ++ pins) (fun e s₁ => wpAny (model X.prog X.w) X.A (noteFrame e X.env) (fun _ s₂ => wpAny (model X.prog X.w) X.A (setFlight e none) (fun _ s₃ =>
    wpAny (model X.prog X.w) X.A (handleBy e X.env (h₀ :: hds)) (SP X pins D) X.xe s₃) X.xe s₂) X.xe s₁) (fun u s' air => ?_) PassesOwn.looking).run [] s σ H D (I.toTry _) h) (fun f s1 hsp => ?_) (fun _ _ he => he))
  · obtain ⟨a, B, sI, pins', σ', H', cls, d, rfl, J', nb, up, sky, na, os, ag, wish⟩ := air
    have J : Inv X pins σ' H' sI := J'.ofTry ok
    rw [hs] at sky
    show wpAny (model X.prog X.w) X.A (noteFrame (.ref a) X.env) _ _ _
    refine L2.Sky.land Zc.steady hfr hf sky fun h3 fl3 up3 => ?_
    have J3 : Inv X pins σ' H' { s' with heap := h3 } := J.landed nb fl3.1 (up.trans up3) os ag
    obtain ⟨oe3, vs3, he3, hz3, hd3⟩ := fl3.there
    have nfr : a ∉ frs (X.env :: X.outer) := fun hm => by
      obtain ⟨_, o', e', hnf⟩ := fl3.2.2.1.mem hm
      rw [he3] at e'
      cases e'
      exact hnf _ hd3
    have nst : a ∉ frs X.stack := by rw [hs]; exact nfr
    have nL : a ≠ X.env.locals := fun z => nfr (List.mem_filterMap.mpr ⟨X.env, List.mem_cons_self, hf.trans (congrArg some z.symm)⟩)
    have Ba : B.get? a = none := fl3.2.1
    have nI : sI.heap.get? a = none := by
      cases q : sI.heap.get? a with
      | none => rfl
      | some o =>
        rw [nb a o q nst] at Ba
        cases Ba
    have n0 : X.s_0.heap.get? a = none := by
      cases q : X.s_0.heap.get? a with
      | none => rfl
      | some o =>
        obtain ⟨o', q'⟩ := J.base.there a o q (by rw [hex]; exact fun z => nomatch z)
        rw [nI] at q'
        cases q'
    have nP : ∀ p ∈ X.pn ++ pins, p.1 ≠ a := fun p hp z => by
      have q := (J.pin p hp).1
      rw [z, nI] at q
      cases q
    have S3 := toSuite J3 a
    have go : ∀ {hds' : List ExceptHandler} {l' : List Cls1}, HdT X hds' l' → wT X.K Wout D l' cls d σ' H' →
        wpAny (model X.prog X.w) X.A (handleBy (.ref a) X.env hds') (SP X pins D) X.xe { s' with heap := h3 } := by
      have LT : PySem.W.Looks (model X.prog X.w) h3 (typeOf (.ref a)) cls := fun A Q E s k q => wpAny_typeOf_ref (k _ _ he3) (by rw [hz3.1]; exact q)
      have test : ∀ {x : Str} {c : Value} {np : Pos} {Q : Value → Shared → Prop} {E : Value → Shared → Prop}, Names X x c → Q c { s' with heap := h3 } → wpAny (model X.prog X.w) (X.A.mark (some (.ref a))) (eval (.Name x np) X.env) Q E { s' with heap := h3 } := fun {x c np Q E} hc q => by
        obtain ⟨hg, hdbg, hm | ⟨hm, hv, hnn⟩⟩ := hc
        · exact ld_glob (X := X.suite a (X.pn ++ pins)) S3 hg hm q hdbg
        · exact ld_blt (X := X.suite a (X.pn ++ pins)) S3 hg hm hv q hnn hdbg
      have adopted : d = none → ∀ h4, L2.Inv X pins σ' H' { s' with heap := h4 } → HandSPX.FlyingZ B (X.env :: X.outer) a (Zc cls d) h4 → L2.Inv X pins σ' (upd H' a (ExT cls a)) { s' with heap := h4 } := fun ed h4 J4 fl4 => by
        obtain ⟨oe4, vs4, he4, hz4, hd4⟩ := fl4.there
        rw [ed] at hz4
        exact adopt J4 ⟨oe4, vs4, he4, hz4, hd4⟩ na n0 nL nP
      intro hds' l' hk
      induction hk with
      | nil =>
        intro w
        refine wpAny_handleBy_nil ?_
        obtain ⟨k1, k2, k3, oe, vs, T, oT, ts', he, hz, hd, h1, hr⟩ := id fl3
        unfold PySem.passOn
        refine wpAny_bind (wpAny_field he hd h1 ?_)
        rw [if_neg (show ¬ ((Value.ref T == Value.none) = true) from by simp)]
        have fin : wpAny (model X.prog X.w) X.A (setFlight (.ref a) X.env.frame) (fun _ s4 => wpAny (model X.prog X.w) X.A (throw (.ref a) : Sem Flow) (SP X pins D) X.xe s4) X.xe { s' with heap := h3 } := by
          rw [hf]
          refine HandSPX.setFlight_upZ fl3 fun h4 hh4 up4 => wpAny_throw (tk _ _ ?_)
          exact ⟨a, B, sI, pins, σ', H', cls, d, rfl, J, nb, (up.trans up3).trans up4, .inr (.inr (hs ▸ hh4)), na, os, ag, w⟩
        first
          | exact wpAny_bind (wpAny_pure (wpAny_bind fin))
          | exact wpAny_bind fin
      | @plain x c ts b₀ su p1 p2 hds2 l2 hc hsu r ih =>
        intro w
        obtain ⟨b, hb1, hyes, hno⟩ := w
        refine wpAny_handleBy_cons (codeAny_handlers_test ?_) (by intro q; cases q)
        refine test hc ((PySem.W.exm_one (M := model X.prog X.w) (J3.kIn) LT hb1).here ?_)
        cases b with
        | true =>
          refine codeAny_handlers_suite (HandSPX.lands_againZ fl3 fun h4 fl4 up4 => ?_)
          have J4 := adopted (hyes rfl).1 h4 (J.landed nb fl4.1 ((up.trans up3).trans up4) os ag) fl4
          refine wpAny_mono ((hsu a cls (X.pn ++ pins)).run [] _ _ _ _ (toSuite J4 a) ((hyes rfl).2 a na)) (fun f s6 q6 => ?_) (fun _ _ z => False.elim z)
          cases f with
          | next => exact let ⟨σ6, H6, S6, q⟩ := q6; ⟨_, _, offSuite S6 ok, q⟩
          | brk => exact let ⟨σ6, H6, S6, q⟩ := q6; ⟨_, _, offSuite S6 ok, q⟩
          | cont => exact let ⟨σ6, H6, S6, q⟩ := q6; ⟨_, _, offSuite S6 ok, q⟩
          | ret u => exact let ⟨v6, σ6, H6, S6, r6, q⟩ := q6; ⟨_, _, _, offSuite S6 ok, r6, q⟩
        | false =>
          show wpAny _ X.A (handleBy (.ref a) X.env hds2) _ _ _
          exact ih (hno rfl)
      | @named x n i c ts b₀ su p1 p2 hds2 l2 hc hi hln hsu r ih =>
        intro w
        obtain ⟨b, hb1, hyes, hno⟩ := w
        refine wpAny_handleBy_cons (codeAny_handlers_test ?_) (by intro q; cases q)
        refine test hc ((PySem.W.exm_one (M := model X.prog X.w) (J3.kIn) LT hb1).here ?_)
        cases b with
        | true =>
          refine codeAny_handlers_suite_as (HandSPX.lands_againZ fl3 fun h4 fl4 up4 => ?_)
          have J4 := adopted (hyes rfl).1 h4 (J.landed nb fl4.1 ((up.trans up3).trans up4) os ag) fl4
          refine store_ok (X := X.suite a (X.pn ++ pins)) (v := .ref a) (toSuite J4 a) hN hi (.inl hln) rfl (fun s5 S5 => ?_) (.inr hln)
          refine wpAny_mono ((hsu a cls (X.pn ++ pins)).run [] s5 _ _ _ S5 ((hyes rfl).2 a na)) (fun f s6 q6 => ?_) (fun _ _ z => False.elim z)
          have gone : ∀ {σ6 : L2.St} {H6 : Hp} {Q : Shared → Prop}, Inv (X.suite a (X.pn ++ pins)) [] σ6 H6 s6 → (∀ s7, Inv X pins (σ6.set i none) H6 s7 → Q s7) →
              wpAny (model X.prog X.w) X.A (do bindName X.env n .none; unbindBehindTheSuite X.env n p2) (fun _ s7 => Q s7) X.xe s6 := fun {σ6 H6 Q} S6 hq => gone_ok (offSuite S6 ok) hN hi hln hq
          cases f with
          | next => exact let ⟨σ6, H6, S6, q⟩ := q6; gone S6 fun s7 J7 => ⟨_, _, J7, q⟩
          | brk => exact let ⟨σ6, H6, S6, q⟩ := q6; gone S6 fun s7 J7 => ⟨_, _, J7, q⟩
          | cont => exact let ⟨σ6, H6, S6, q⟩ := q6; gone S6 fun s7 J7 => ⟨_, _, J7, q⟩
          | ret u => exact let ⟨v6, σ6, H6, S6, r6, q⟩ := q6; gone S6 fun s7 J7 => ⟨_, _, _, J7, r6, q⟩
        | false =>
          show wpAny _ X.A (handleBy (.ref a) X.env hds2) _ _ _
          exact ih (hno rfl)
    exact go hh wish
  · cases f with
    | next => exact let ⟨σ', H', J', q⟩ := hsp; wpAny_execs_nil ⟨σ', H', J'.ofTry ok, q⟩
    | brk => exact let ⟨σ', H', J', q⟩ := hsp; ⟨σ', H', J'.ofTry ok, q⟩
    | cont => exact let ⟨σ', H', J', q⟩ := hsp; ⟨σ', H', J'.ofTry ok, q⟩
    | ret u => exact let ⟨v, σ', H', J', r, q⟩ := hsp; ⟨v, σ', H', J'.ofTry ok, r, q⟩

/-! ### defs that run wherever they are called: no loop, nothing raised -/
structure FnA (P : Program) (w : World) (K : PySem.W.Frag) (mg : Str → Option Value) (base : Heap) (k : Nat) (f : Addr) (fd : FuncData) (ps : List Str) (sp : Sp) : Prop where
  len : ∀ vs H Q E, sp vs H Q E → vs.length = ps.length
  run : ∀ (A : Around) (outer : List Env) (s : Shared) (H : Hp) (args : Args) (us : List Value) (vs : List V) (Q : VK) (E : XK), L2H.RoomH k A → Env0 P w K mg base A outer s H → BindsTo s fd args (ps.zip us) → Vals vs us → sp vs H Q E →
    codeAny (model P w) A (.call (.ref f) args) (CR CX0 outer P w H s Q E) s
section
variable {P : Program} {w : World} {K : PySem.W.Frag} {mg : Str → Option Value} {base : Heap} {k : Nat} {f : Addr} {fd : FuncData} {ps N : List Str} {sp : Sp}
theorem FnA.ok (F : FnA P w K mg base k f fd ps sp) : FnOk P w K mg base CX0 k f fd ps sp := ⟨F.len, fun A outer s H args us vs Q E hr => F.run A outer s H args us vs Q E (L2H.roomH_of hr)⟩
/-- the context of such a def's body -/
def cxA (P : Program) (w : World) (K : PySem.W.Frag) (mg : Str → Option Value) (base : Heap) (N : List Str) (qual : Str) (scope : Scope) (f : Addr) (cd : Value) (A : Around) (outer : List Env) (s : Shared) (H : Hp) : Cx :=
  { cxOf CX0 P w K mg base N qual scope f cd A outer s H E0 with calm := false, xe := fun _ _ => False }
theorem fn_ofA {name qual : Str} {params : Arguments} {body : List Stmt} {scope : Scope} {dV kV doc pm cdv ct oc : Value} {an od : Option Addr} {osl : Array (Option Value)}
    (lk : K.lookup f = some ⟨oc, od, .func (PySem.W.fnOf name qual params body scope dV kV doc pm an cdv ct), osl⟩) (hcd : PySem.W.codeIn K cdv qual = true) (S : FnScope N ps scope) (len : ∀ vs H Q E, sp vs H Q E → vs.length = ps.length)
    (hbody : ∀ (A : Around) (outer : List Env) (s : Shared) (H : Hp) (vs : List V) (Q : VK) (E : XK), L2H.RoomH k (A.deeper (envOfC qual scope s.heap.objs.size f cdv)) → sp vs H Q E →
      ∃ t, PSs (cxA P w K mg base N qual scope f cdv A outer s H) body t ∧ t { nx := fun _ H' => Q .non H', rt := Q } (L2.start N vs) H) :
    FnA P w K mg base (k + 1) f (PySem.W.fnOf name qual params body scope dV kV doc pm an cdv ct) ps sp := by
  refine ⟨len, fun A outer s H args us vs Q E room e0 hb rv hsp => ?_⟩
  have kx : K.In s.heap := e0.mod.kin.keeps fun b o e => (e0.bs b o e).1
  have nolim : s.heap.NoLimit := e0.mod.nolimit.keeps fun b o e => (e0.bs b o e).1
  refine codeAny_call_function room.depth (kx _ _ lk) rfl S.co S.gen rfl (PySem.W.codeRec_of kx hcd) (hb _ _ _ _ (wpAny_newFunctionEnv_cells S.kind (fun ⟨n, v⟩ hy => ?_) fun env he s1 x => ?_))
  · rcases S.par n (List.of_mem_zip hy).1 with q | q
    · exact .inl q
    · exact .inr ⟨q, PySem.W.cellsFrom_some _ _ _ (.inl q)⟩
  subst he
  refine ⟨nolim.keeps x.toInCall.keep, codeAny_func ?_⟩
  obtain ⟨t, ht, hq⟩ := hbody A outer s H vs Q E (room.deeper _) hsp
  have I0 := inv_start (CX := CX0) (E := E0) (A := { A with handled := none }) S rfl (⟨e0.frames, e0.mod, e0.bs, e0.bsz, e0.funs, e0.frf, e0.hok, e0.bare⟩ : Env0 P w K mg base { A with handled := none } outer s H) (len _ _ _ _ hsp) rv x
  have I : Inv (cxA P w K mg base N qual scope f cdv A outer s H) [] (L2.start N vs) H s1 :=
    ⟨⟨I0.ok.mod, I0.ok.kind, I0.ok.glob, I0.ok.blt, I0.ok.above, I0.ok.inj, I0.ok.has, I0.ok.cab, (fun z => nomatch (show false = true from z)), Around.frames_deeper e0.frames, I0.ok.stk, I0.ok.exf, I0.ok.bs, I0.ok.bsz, I0.ok.noex, I0.ok.exfs, I0.ok.funs, I0.ok.frf⟩,
      I0.os, I0.bare, I0.base, I0.loc, I0.cell, I0.free, I0.freeC, I0.pin, I0.hok, I0.len⟩
  refine wpAny_mono (ht.run [] s1 (L2.start N vs) H _ I hq) (fun fl s' hs => ?_) fun e s' z => z.elim
  cases fl with
  | ret u => exact let ⟨v, σ', H', J, r2, q⟩ := hs; (⟨v, H', J.os, J.bare, J.base, J.hok, r2, q⟩ : CE outer P w H s Q u s')
  | next => exact let ⟨σ', H', J, q⟩ := hs; (⟨V.non, H', J.os, J.bare, J.base, J.hok, rfl, q⟩ : CE outer P w H s Q .none s')
  | brk => exact let ⟨_, _, _, q⟩ := hs; False.elim q
  | cont => exact let ⟨_, _, _, q⟩ := hs; False.elim q
theorem funOkA {x qual : Str} {st : Stmt} (F : Fun K x qual st f fd) (S : FnScope N ps (defScope st)) (len : ∀ vs H Q E, sp vs H Q E → vs.length = ps.length)
    (hbody : ∀ (cdv : Value) (A : Around) (outer : List Env) (s : Shared) (H : Hp) (vs : List V) (Q : VK) (E : XK), L2H.RoomH k (A.deeper (envOfC qual (defScope st) s.heap.objs.size f cdv)) → sp vs H Q E →
      ∃ t, PSs (cxA P w K mg base N qual (defScope st) f cdv A outer s H) (defBody st) t ∧ t { nx := fun _ H' => Q .non H', rt := Q } (L2.start N vs) H) : FnA P w K mg base (k + 1) f fd ps sp := by
  obtain ⟨oc, od, kV, doc, pm, an, cdv, ct, osl, rfl, lk, hcd⟩ := F.ex
  exact fn_ofA lk hcd S len fun A outer s H vs Q E => hbody cdv A outer s H vs Q E
end
/-- such a def called, anywhere -/
theorem pe_callA {X : Cx} {k : Nat} {f : Addr} {fd : FuncData} {ps : List Str} {sp : Sp} {x : Str} {q pos : Pos} {e : Expr} {es : List Expr} {t : TA} (F : FnA X.prog X.w X.K X.mg X.base k f fd ps sp) (hr : L2H.RoomH k X.A) (hg : Gl X x) (hm : X.mg x = some (.ref f)) (hk : PySem.W.keepIn X.K (.ref f) = true) (hb : Binds X.K fd ps [])
    (ha : PA X (e :: es) t) (hdb : (x == ("__debug__" : Str)) = false := by decide) (he : starEach (e :: es) X.env = (false, eval e X.env) :: starEach es X.env := by rfl) (hpl : (backTo pos (starEach es X.env)).any (·.1) = false := by rfl) :
    PE X (.Call (.Name x q) (e :: es) [] pos) (fun σ H Q => t σ H fun vs H1 => sp vs H1 Q E0) := by
  refine ⟨fun pins s σ H Q I h => ?_⟩
  refine wpAny_Call_Name_kw (ld_glob I hg hm (PySem.W.callWith_K (h₀ := X.base) I.ok.mod.kin hk (thn (ha.run pos pins s σ H _ I h) fun us s1 ⟨vs, H1, I1, r, q⟩ => ⟨I1.kIn, ?_⟩) he hpl) hdb)
  have b := hb s1 us I1.kIn (by rw [List.append_nil, ← r.length]; exact F.len _ _ _ _ q)
  rw [List.append_nil] at b
  refine wpAny_call (codeAny_mono (F.run X.A X.stack s1 H1 ⟨us, []⟩ us vs Q E0 hr I1.env0 b r q) fun r' s' hq => ?_)
  cases r' with
  | error e => exact False.elim hq
  | ok fl => cases fl with
    | ret u => exact I1.after hq
    | next => exact False.elim hq
    | brk => exact False.elim hq
    | cont => exact False.elim hq
theorem roomH_mark {k : Nat} {A : Around} {v : Option Value} (r : Room k A) : L2H.RoomH k (A.mark v) := ⟨r.dp, r.un⟩
end Vf
set_option Elab.async false
set_option linter.all false
set_option maxRecDepth 100000
set_option maxHeartbeats 4000000
/-! More rules of my own: callees by name, a list or a tuple walked, data, the program's exception classes, the end with loose names. -/
namespace Vf
open PySem PySem.Spec PyProof.Rows L2

/-! ### heaps -/
theorem same_upd {H : Hp} {p : Addr} {o : HO} (h : H p = none) : Same H (upd H p o) := fun b x e => by
  rw [upd_ne (ne_of_none e h)]
  exact e
theorem Same.seqT {K : PySem.W.Frag} {H H' : Hp} {a : Addr} {xs : List V} (e : Same H H') (h : SqT K H a xs) : SqT K H' a xs := by
  rcases h with (h | ⟨o, h⟩) | h
  · exact .inl (.inl (e _ _ h))
  · exact .inl (.inr ⟨o, e _ _ h⟩)
  · exact .inr h
/-- the tape: a list of one int -/
def Tp (H : Hp) (t : Addr) : Prop := ∃ n : Int, H t = some (.lst [.int n])
/-- all but the tape is as it was -/
def Kp (t : Addr) (H H' : Hp) : Prop := (∀ b o, H b = some o → b ≠ t → H' b = some o) ∧ Tp H' t
theorem Kp.refl {t : Addr} {H : Hp} (h : Tp H t) : Kp t H H := ⟨fun _ _ e _ => e, h⟩
theorem Kp.trans {t : Addr} {H H1 H2 : Hp} (a : Kp t H H1) (b : Kp t H1 H2) : Kp t H H2 := ⟨fun c o e n => b.1 c o (a.1 c o e n) n, b.2⟩
theorem Kp.same {t : Addr} {H H1 H2 : Hp} (a : Kp t H H1) (b : Same H1 H2) : Kp t H H2 := ⟨fun c o e n => b c o (a.1 c o e n), let ⟨n, e⟩ := a.2; ⟨n, b _ _ e⟩⟩
theorem Kp.ofSame {t : Addr} {H H1 : Hp} (a : Tp H t) (b : Same H H1) : Kp t H H1 := (Kp.refl a).same b
theorem Kp.lay {t p : Addr} {o : HO} {H H1 : Hp} (a : Kp t H H1) (n : H1 p = none) : Kp t H (upd H1 p o) := a.same (same_upd n)
theorem Kp.tape {t : Addr} {n : Int} {H H1 : Hp} (a : Kp t H H1) : Kp t H (upd H1 t (.lst [.int n])) := ⟨fun b o e h => by rw [upd_ne h]; exact a.1 b o e h, ⟨n, upd_same⟩⟩
theorem Kp.free {t : Addr} {H H' : Hp} (a : Kp t H H') (h : Tp H t) {l : Addr} (e : H' l = none) : H l = none := by
  cases q : H l with
  | none => rfl
  | some o =>
    by_cases z : l = t
    · obtain ⟨n, r⟩ := a.2
      rw [z, r] at e
      cases e
    · rw [a.1 l o q z] at e
      cases e

/-! ### readings may be weakened -/
theorem _root_.L2.PE.imp {X : Cx} {e : Expr} {t t' : TE} (h : PE X e t) (i : ∀ σ H Q, t' σ H Q → t σ H Q) : PE X e t' := ⟨fun pins s σ H Q I q => h.run pins s σ H Q I (i _ _ _ q)⟩
theorem _root_.L2.PA.imp {X : Cx} {e : List Expr} {t t' : TA} (h : PA X e t) (i : ∀ σ H Q, t' σ H Q → t σ H Q) : PA X e t' := ⟨fun pos pins s σ H Q I q => h.run pos pins s σ H Q I (i _ _ _ q)⟩
theorem _root_.L2.PSs.imp {X : Cx} {e : List Stmt} {t t' : TS} (h : PSs X e t) (i : ∀ σ H Q, t' σ H Q → t σ H Q) : PSs X e t' := ⟨fun pins s σ H Q I q => h.run pins s σ H Q I (i _ _ _ q)⟩

/-! ### callees by their names -/
structure Cal (P : Program) (w : World) (K : PySem.W.Frag) (mg : Str → Option Value) (base : Heap) (CX : CXT) (k : Nat) (x : Str) (ps : List Str) (sp : Sp) : Prop where
  ex : ∃ (f : Addr) (fd : FuncData), mg x = some (.ref f) ∧ PySem.W.keepIn K (.ref f) = true ∧ Binds K fd ps [] ∧ FnOk P w K mg base CX k f fd ps sp
structure CalA (P : Program) (w : World) (K : PySem.W.Frag) (mg : Str → Option Value) (base : Heap) (k : Nat) (x : Str) (ps : List Str) (sp : Sp) : Prop where
  ex : ∃ (f : Addr) (fd : FuncData), mg x = some (.ref f) ∧ PySem.W.keepIn K (.ref f) = true ∧ Binds K fd ps [] ∧ FnA P w K mg base k f fd ps sp
theorem CalA.cal {P : Program} {w : World} {K : PySem.W.Frag} {mg : Str → Option Value} {base : Heap} {k : Nat} {x : Str} {ps : List Str} {sp : Sp} (c : CalA P w K mg base k x ps sp) : Cal P w K mg base CX0 k x ps sp := by
  obtain ⟨f, fd, h1, h2, h3, h4⟩ := c.ex
  exact ⟨f, fd, h1, h2, h3, h4.ok⟩
section
variable {X : Cx} {CX : CXT} {k : Nat} {ps : List Str} {sp : Sp} {x : Str} {p pos : Pos} {e : Expr} {es : List Expr} {t : TA}
theorem pe_cal {E : XK} (c : Cal X.prog X.w X.K X.mg X.base CX k x ps sp) (hr : Room k X.A) (hg : Gl X x) (hx : Passes CX X E) (ha : PA X (e :: es) t) (hdb : (x == ("__debug__" : Str)) = false := by decide)
    (he : starEach (e :: es) X.env = (false, eval e X.env) :: starEach es X.env := by rfl) (hpl : (backTo pos (starEach es X.env)).any (·.1) = false := by rfl) : PE X (.Call (.Name x p) (e :: es) [] pos) (fun σ H Q => t σ H fun vs H1 => sp vs H1 Q E) := by
  obtain ⟨f, fd, h1, h2, h3, h4⟩ := c.ex
  exact (pe_call (dvs := []) h4 hr hg h1 h2 h3 .nil hx ha hdb he hpl).imp fun σ H Q q => by
    unfold tCall
    simp only [List.append_nil]
    exact q
theorem pe_calS {E : L2.St → XK} (c : Cal X.prog X.w X.K X.mg X.base CX k x ps sp) (hr : Room k X.A) (hg : Gl X x) (hx : ∀ σ, PassesAt CX X σ (E σ)) (ha : PA X (e :: es) t) (hdb : (x == ("__debug__" : Str)) = false := by decide)
    (he : starEach (e :: es) X.env = (false, eval e X.env) :: starEach es X.env := by rfl) (hpl : (backTo pos (starEach es X.env)).any (·.1) = false := by rfl) : PE X (.Call (.Name x p) (e :: es) [] pos) (tCallS sp E t) := by
  obtain ⟨f, fd, h1, h2, h3, h4⟩ := c.ex
  exact pe_callS h4 hr hg h1 h2 h3 hx ha hdb he hpl
theorem pe_calA (c : CalA X.prog X.w X.K X.mg X.base k x ps sp) (hr : L2H.RoomH k X.A) (hg : Gl X x) (ha : PA X (e :: es) t) (hdb : (x == ("__debug__" : Str)) = false := by decide)
    (he : starEach (e :: es) X.env = (false, eval e X.env) :: starEach es X.env := by rfl) (hpl : (backTo pos (starEach es X.env)).any (·.1) = false := by rfl) : PE X (.Call (.Name x p) (e :: es) [] pos) (fun σ H Q => t σ H fun vs H1 => sp vs H1 Q E0) := by
  obtain ⟨f, fd, h1, h2, h3, h4⟩ := c.ex
  exact pe_callA h4 hr hg h1 h2 h3 ha hdb he hpl
/-- an object made by an __init__ that may raise, the wish at the slots as they stand -/
theorem pe_makS {C f : Addr} {fd : FuncData} {dvs : List V} {ds : List Value} {E : L2.St → XK} (M : Mk X.K C f) (F : FnOk X.prog X.w X.K X.mg X.base CX k f fd ps sp) (hr : Room (k + 1) X.A) (hg : Gl X x) (hm : X.mg x = some (.ref C)) (hb : Binds X.K fd ps ds) (hd : Vals dvs ds)
    (hx : ∀ σ, PassesAt CX X σ (E σ)) (ha : PA X (e :: es) t) (hdb : (x == ("__debug__" : Str)) = false := by decide) (he : starEach (e :: es) X.env = (false, eval e X.env) :: starEach es X.env := by rfl) (hpl : (backTo pos (starEach es X.env)).any (·.1) = false := by rfl) :
    PE X (.Call (.Name x p) (e :: es) [] pos) (fun σ H Q => t σ H fun vs H1 => ∀ y dy, H1 y = none → H1 dy = none → dy ≠ y →
      sp (.ref y :: (vs ++ dvs)) (upd (upd H1 dy (.own y)) y (.ins C dy [])) (fun v H2 => v = .non ∧ Q (.ref y) H2) (E σ)) := by
  refine ⟨fun pins s σ H Q I h => ?_⟩
  refine wpAny_Call_Name_kw (ld_glob I hg hm (PySem.W.callWith_K (h₀ := X.base) I.ok.mod.kin M.kp (thn (ha.run pos pins s σ H _ I h) fun us s1 ⟨vs, H1, I1, r, q⟩ => ⟨I1.kIn, ?_⟩) he hpl) hdb)
  have hq := q (s1.heap.objs.size + 1) s1.heap.objs.size (I1.hok.fresh (Nat.le_succ _)) (I1.hok.fresh (Nat.le_refl _)) (Nat.ne_of_lt (Nat.lt_succ_self _))
  have J := Inv.made (C := C) I1
  have rr : Vals (V.ref (s1.heap.objs.size + 1) :: (vs ++ dvs)) (Value.ref (s1.heap.objs.size + 1) :: (us ++ ds)) := .cons rfl (r.append hd)
  have hl : (Value.ref (s1.heap.objs.size + 1) :: us ++ ds).length = ps.length := rr.length.symm.trans (F.len _ _ _ _ hq)
  refine wpAny_call (make_map (f := f) I1.kIn M.makes M.init (beq_iff_eq.mp M.fn) (codeAny_mono (F.run _ X.stack _ _ ⟨Value.ref (s1.heap.objs.size + 1) :: us, []⟩ (Value.ref (s1.heap.objs.size + 1) :: (us ++ ds)) _ _ (E σ) (hr.make C us [])
    (J.env0.make C us []) (hb _ (Value.ref (s1.heap.objs.size + 1) :: us) J.kIn hl) rr hq) fun r' s' hq' => ?_))
  cases r' with
  | error e => exact hx σ pins _ _ e s' J hq'
  | ok fl => cases fl with
    | ret u =>
      obtain ⟨v, H', I3, rv, rfl, q3⟩ := J.after hq'
      exact ⟨rv, ⟨V.ref (s1.heap.objs.size + 1), H', I3, rfl, q3⟩⟩
    | next => exact False.elim hq'
    | brk => exact False.elim hq'
    | cont => exact False.elim hq'
end

/-! ### a list or a tuple -/
def SqV (K : PySem.W.Frag) (H : Hp) (a : Addr) (xs : List V) : Prop := SqL K H a xs ∨ SqT K H a xs
theorem SqV.same {K : PySem.W.Frag} {H H' : Hp} {a : Addr} {xs : List V} (h : SqV K H a xs) (e : Same H H') : SqV K H' a xs := h.elim (fun q => .inl (e.seq q)) fun q => .inr (Same.seqT e q)
def iSeq (K : PySem.W.Frag) (tl : TE) : TI := fun σ H R => tl σ H fun x H1 => ∃ a, x = .ref a ∧ (((∃ xs, SqL K H1 a xs) ∧ R (Itl K a) H1) ∨ ((∃ xs, SqT K H1 a xs) ∧ R (Itt K a) H1))
theorem pi_seq {X : Cx} {tg l : Expr} {tl : TE} (hl : PE X l tl) : PI X tg l (iSeq X.K tl) := by
  refine ⟨fun pins s σ H R I h => thn (hl.run pins s σ H _ I h) fun v s1 ⟨x, H1, I1, r1, q1⟩ => ?_⟩
  obtain ⟨a, rfl, q⟩ := q1
  cases r1
  rcases q with ⟨⟨xs, hq⟩, q⟩ | ⟨⟨xs, hq⟩, q⟩
  · obtain ⟨its, rv, p, hz⟩ := I1.list hq
    refine wpAny_pyIter_list p.isList ⟨s1.heap.objs.size, [s1.heap.objs.size], _, _, H1, rfl, I1.kept (t' := s1.toks) fun b o e => Heap.get?_push_of_some _ e, turn_list a _, ⟨_, Heap.get?_push_size _ rfl, rfl, rfl⟩, fun b hb => ?_, q⟩
    obtain rfl : b = s1.heap.objs.size := by simpa using hb
    exact I1.fpOk (Nat.le_refl _) (I1.hok.fresh (Nat.le_refl _))
  · obtain ⟨its, rv, p, hz⟩ := I1.tuple hq
    refine wpAny_pyIter_tuple (show s1.heap.IsTuple a its.toArray from p) ⟨s1.heap.objs.size, [s1.heap.objs.size], _, _, H1, rfl, I1.kept (t' := s1.toks) fun b o e => Heap.get?_push_of_some _ e, turn_tuple a _, ⟨_, Heap.get?_push_size _ rfl, rfl, rfl⟩, fun b hb => ?_, q⟩
    obtain rfl : b = s1.heap.objs.size := by simpa using hb
    exact I1.fpOk (Nat.le_refl _) (I1.hok.fresh (Nat.le_refl _))
/-- a comprehension over either -/
theorem lc_seq {K : PySem.W.Frag} {a : Addr} {xs : List V} {g : TG} {tt : TT} {te : TE} {vs : List Nat} {σ : L2.St} {H1 : Hp} {Q : Addr → Hp → Prop} (h : SqV K H1 a xs) (Pv : Addr → Nat → Hp → Prop) (h0 : ∀ D, H1 D = none → Pv D 0 (upd H1 D (.lst [])))
    (hl : ∀ D i H, H1 D = none → i ≤ xs.length → Pv D i H → Same H1 H)
    (hs : ∀ D i x H, H1 D = none → xs[i]? = some x → Pv D i H → g x (wipe σ vs) H fun σ2 H2 => wipe σ2 vs = wipe σ vs ∧ tt σ2 H2 fun b H3 =>
      if b = true then te σ2 H3 fun y H4 => ∃ acc, H4 D = some (.lst acc) ∧ acc.length < sizeLine ∧ Pv D (i + 1) (upd H4 D (.lst (acc ++ [y]))) else Pv D (i + 1) H3) (hd : ∀ D H, H1 D = none → Pv D xs.length H → Q D H) :
    ((∃ xs, SqL K H1 a xs) ∧ ∀ D, H1 D = none → ∃ W : Nat → Nat → Hp → Prop, (∃ m, W 0 m (upd H1 D (.lst []))) ∧ ∀ i m H, W i m H →
      ((Itl K a).stop i H ∧ Q D H) ∨ ((Itl K a).go i H ∧ ∃ Nx : Hp → Prop, (∀ H', Nx H' → ∃ m', m' < m ∧ W (i + 1) m' H') ∧ ∀ x H', (Itl K a).yld i H x H' → g x (wipe σ vs) H' fun σ2 H2 => wipe σ2 vs = wipe σ vs ∧ tt σ2 H2 fun b H3 =>
        if b = true then te σ2 H3 fun y H4 => ∃ acc, H4 D = some (.lst acc) ∧ acc.length < sizeLine ∧ Nx (upd H4 D (.lst (acc ++ [y]))) else Nx H3)) ∨
    ((∃ xs, SqT K H1 a xs) ∧ ∀ D, H1 D = none → ∃ W : Nat → Nat → Hp → Prop, (∃ m, W 0 m (upd H1 D (.lst []))) ∧ ∀ i m H, W i m H →
      ((Itt K a).stop i H ∧ Q D H) ∨ ((Itt K a).go i H ∧ ∃ Nx : Hp → Prop, (∀ H', Nx H' → ∃ m', m' < m ∧ W (i + 1) m' H') ∧ ∀ x H', (Itt K a).yld i H x H' → g x (wipe σ vs) H' fun σ2 H2 => wipe σ2 vs = wipe σ vs ∧ tt σ2 H2 fun b H3 =>
        if b = true then te σ2 H3 fun y H4 => ∃ acc, H4 D = some (.lst acc) ∧ acc.length < sizeLine ∧ Nx (upd H4 D (.lst (acc ++ [y]))) else Nx H3)) := by
  rcases h with h | h
  · exact .inl ⟨⟨xs, h⟩, fun D nD => lc_list (xs := xs) (Pv D) (h0 D nD) (fun i H hi p => (hl D i H nD hi p).seq h) (fun i x H e p => hs D i x H nD e p) fun H p => hd D H nD p⟩
  · exact .inr ⟨⟨xs, h⟩, fun D nD => lc_tup (xs := xs) (Pv D) (h0 D nD) (fun i H hi p => Same.seqT (hl D i H nD hi p) h) (fun i x H e p => hs D i x H nD e p) fun H p => hd D H nD p⟩
/-- the same as an expression's rule -/
def MonoE (t : TE) : Prop := ∀ σ H (Q Q' : VK), (∀ x H1, Q x H1 → Q' x H1) → t σ H Q → t σ H Q'
theorem mono_var {i : Nat} : MonoE (tVar i) := fun _ _ _ _ h ⟨v, e, q⟩ => ⟨v, e, h _ _ q⟩
def tLcS (K : PySem.W.Frag) (tl : TE) (g : TG) (tt : TT) (te : TE) (vs : List Nat) : TE := fun σ H Q => tl σ H fun x H1 => ∃ (a : Addr) (xs : List V) (Pv : Addr → Nat → Hp → Prop), x = .ref a ∧ SqV K H1 a xs ∧ (∀ D, H1 D = none → Pv D 0 (upd H1 D (.lst []))) ∧
  (∀ D i H2, H1 D = none → i ≤ xs.length → Pv D i H2 → Same H1 H2) ∧
  (∀ D i x H2, H1 D = none → xs[i]? = some x → Pv D i H2 → g x (wipe σ vs) H2 fun σ2 H2 => wipe σ2 vs = wipe σ vs ∧ tt σ2 H2 fun b H3 =>
    if b = true then te σ2 H3 fun y H4 => ∃ acc, H4 D = some (.lst acc) ∧ acc.length < sizeLine ∧ Pv D (i + 1) (upd H4 D (.lst (acc ++ [y]))) else Pv D (i + 1) H3) ∧
  (∀ D H2, H1 D = none → Pv D xs.length H2 → Q (.ref D) H2)
theorem pe_lcS {X : Cx} {elt tg l : Expr} {ifs : List Expr} {scope : Scope} {own : List (Str × Nat)} {pos : Pos} {tl : TE} {g : TG} {tt : TT} {te : TE} (hc : X.calm = true) (hN : X.N.Nodup) (hl : PE X l tl) (mo : MonoE tl) (ok : BlkOk X.N X.env.scope scope own)
    (hg : ∀ (s : Shared) (H : Hp) (C : Addr) (cl : List (Str × Addr)) (fp : List Addr), PG (X.blk s H scope (compEnvC scope cl C X.env) fp) tg g) (ht : ∀ (s : Shared) (H : Hp) (C : Addr) (cl : List (Str × Addr)) (fp : List Addr), PTs (X.blk s H scope (compEnvC scope cl C X.env) fp) ifs tt)
    (he : ∀ (s : Shared) (H : Hp) (C : Addr) (cl : List (Str × Addr)) (fp : List Addr), PE (X.blk s H scope (compEnvC scope cl C X.env) fp) elt te) (hs : ∀ x, foldedSetIterable l X.env x = pure x := by intro _; rfl) :
    PE X (.ListComp elt [⟨tg, l, ifs, 0⟩] scope pos) (tLcS X.K tl g tt te (own.map (·.2))) := by
  refine (pe_lc hc hN (pi_seq hl) ok hg ht he hs).imp fun σ H Q q => mo _ _ _ _ (fun x H1 q => ?_) q
  obtain ⟨a, xs, Pv, rfl, hS, h0, hk, hst, hd⟩ := q
  exact ⟨a, rfl, lc_seq (g := g) (tt := tt) (te := te) (vs := own.map (·.2)) (σ := σ) (Q := fun D H2 => Q (.ref D) H2) hS Pv h0 hk hst hd⟩
/-- for i, x in enumerate(list) -/
theorem for_enum {K : PySem.W.Frag} {a : Addr} {xs : List V} {g : TG} {tb : TS} {D : Ends} {σ : L2.St} {H : Hp} (Pv : Nat → L2.St → Hp → Prop) (h0 : Pv 0 σ H) (hl : ∀ i σ H, i ≤ xs.length → Pv i σ H → SqL K H a xs)
    (hs : ∀ i x T σ H, xs[i]? = some x → Pv i σ H → H T = none → g (.ref T) σ (upd H T (.tup [.int (i : Nat), x])) fun σ2 H2 => tb { D with nx := Pv (i + 1), ct := Pv (i + 1), bk := D.nx } σ2 H2) (hd : ∀ σ H, Pv xs.length σ H → D.nx σ H) :
    ∃ W : Nat → Nat → L2.St → Hp → Prop, (∃ m, W 0 m σ H) ∧ ∀ i m σ H, W i m σ H →
      ((Ite K a).stop i H ∧ D.nx σ H) ∨ ((Ite K a).go i H ∧ ∃ N : L2.St → Hp → Prop, (∀ σ' H', N σ' H' → ∃ m', m' < m ∧ W (i + 1) m' σ' H') ∧ ∀ x H', (Ite K a).yld i H x H' → g x σ H' fun σ2 H2 => tb { D with nx := N, ct := N, bk := D.nx } σ2 H2) := by
  refine ⟨fun i m σ H => m = xs.length - i ∧ i ≤ xs.length ∧ Pv i σ H, ⟨xs.length, by simp, Nat.zero_le _, h0⟩, ?_⟩
  rintro i m σ H ⟨rfl, hi, p⟩
  have q := hl i σ H hi p
  by_cases hlt : i < xs.length
  · refine .inr ⟨⟨xs, xs[i], q, by simp [hlt]⟩, Pv (i + 1), fun σ' H' p' => ⟨xs.length - (i + 1), by omega, rfl, hlt, p'⟩, fun x H' y => ?_⟩
    obtain ⟨T, z, rfl, nT, rfl, f⟩ := y
    exact hs i z T σ H (f xs q) p nT
  · obtain rfl : i = xs.length := by omega
    exact .inl ⟨⟨xs, q, Nat.le_refl _⟩, hd σ H p⟩

/-! ### data: what a thing is, whatever it may be -/
inductive Dt where
  | non | bl (b : Bool) | int (i : Int) | str (s : Str) | lst (l : List Dt) | tup (l : List Dt) | dct (l : List (Key × Dt))
mutual
inductive Rp (K : PySem.W.Frag) (H : Hp) : V → Dt → Prop
  | non : Rp K H .non .non
  | bl (b : Bool) : Rp K H (.bl b) (.bl b)
  | int (i : Int) : Rp K H (.int i) (.int i)
  | str (x : Str) : Rp K H (.str x) (.str x)
  | lst {a : Addr} {xs : List V} {ds : List Dt} : SqL K H a xs → RpL K H xs ds → Rp K H (.ref a) (.lst ds)
  | tup {a : Addr} {xs : List V} {ds : List Dt} : SqT K H a xs → RpL K H xs ds → Rp K H (.ref a) (.tup ds)
  | dct {a : Addr} {kvs : List (Key × V)} {ds : List (Key × Dt)} : H a = some (.dK kvs) → RpD K H kvs ds → Rp K H (.ref a) (.dct ds)
inductive RpL (K : PySem.W.Frag) (H : Hp) : List V → List Dt → Prop
  | nil : RpL K H [] []
  | cons {v : V} {vs : List V} {d : Dt} {ds : List Dt} : Rp K H v d → RpL K H vs ds → RpL K H (v :: vs) (d :: ds)
inductive RpD (K : PySem.W.Frag) (H : Hp) : List (Key × V) → List (Key × Dt) → Prop
  | nil : RpD K H [] []
  | cons {k : Key} {v : V} {vs : List (Key × V)} {d : Dt} {ds : List (Key × Dt)} : Rp K H v d → RpD K H vs ds → RpD K H ((k, v) :: vs) ((k, d) :: ds)
end
section
variable {K : PySem.W.Frag} {H H' : Hp}
mutual
theorem Rp.same (s : Same H H') : ∀ {v : V} {d : Dt}, Rp K H v d → Rp K H' v d
  | _, _, .non => .non
  | _, _, .bl b => .bl b
  | _, _, .int i => .int i
  | _, _, .str x => .str x
  | _, _, .lst h r => .lst (s.seq h) (RpL.same s r)
  | _, _, .tup h r => .tup (Same.seqT s h) (RpL.same s r)
  | _, _, .dct h r => .dct (s _ _ h) (RpD.same s r)
theorem RpL.same (s : Same H H') : ∀ {v : List V} {d : List Dt}, RpL K H v d → RpL K H' v d
  | _, _, .nil => .nil
  | _, _, .cons h r => .cons (Rp.same s h) (RpL.same s r)
theorem RpD.same (s : Same H H') : ∀ {v : List (Key × V)} {d : List (Key × Dt)}, RpD K H v d → RpD K H' v d
  | _, _, .nil => .nil
  | _, _, .cons h r => .cons (Rp.same s h) (RpD.same s r)
end
theorem RpL.length : ∀ {v : List V} {d : List Dt}, RpL K H v d → v.length = d.length
  | _, _, .nil => rfl
  | _, _, .cons _ r => congrArg (· + 1) (RpL.length r)
theorem RpL.get : ∀ {v : List V} {d : List Dt} {i : Nat} {x : V}, RpL K H v d → v[i]? = some x → ∃ y, d[i]? = some y ∧ Rp K H x y
  | _, _, _, _, .nil, e => by simp at e
  | _, _, 0, _, .cons h _, e => by
    obtain rfl := Option.some.inj e
    exact ⟨_, rfl, h⟩
  | _, _, i + 1, x, .cons _ r, e => RpL.get (i := i) (x := x) r e
/-- the things that are lists or tuples -/
def Dt.items : Dt → Option (List Dt)
  | .lst l => some l
  | .tup l => some l
  | _ => none
theorem ty_list {a : Addr} {xs : List V} (h : SqL K H a xs) : TyX K H (.ref a) (.type "list") := by
  rcases h with (h | ⟨o, h⟩) | ⟨o, its, n, e, c, _⟩
  · exact .base (.lst h)
  · exact .base (.frz h)
  · exact .kList e c
theorem ty_tuple {a : Addr} {xs : List V} (h : SqT K H a xs) : TyX K H (.ref a) (.type "tuple") := by
  rcases h with (h | ⟨o, h⟩) | ⟨o, its, n, e, c, _⟩
  · exact .base (.tup h)
  · exact .fTuple h
  · exact .kTuple e c
/-- the name of a thing's class -/
def Dt.ty : Dt → String
  | .non => "NoneType"
  | .bl _ => "bool"
  | .int _ => "int"
  | .str _ => "str"
  | .lst _ => "list"
  | .tup _ => "tuple"
  | .dct _ => "dict"
theorem Rp.ty {v : V} {d : Dt} (r : Rp K H v d) : TyX K H v (.type d.ty) := by
  cases r with
  | non => exact .base .non
  | bl b => exact .base (.bl b)
  | int i => exact .base (.int i)
  | str x => exact .base (.str x)
  | lst h _ => exact ty_list h
  | tup h _ => exact ty_tuple h
  | dct h _ => exact .base (.dK h)
theorem Rp.items_some {v : V} {d : Dt} {l : List Dt} (r : Rp K H v d) (e : d.items = some l) : ∃ a xs, v = .ref a ∧ SqV K H a xs ∧ RpL K H xs l := by
  cases r with
  | lst h q =>
    obtain rfl := Option.some.inj e
    exact ⟨_, _, rfl, .inl h, q⟩
  | tup h q =>
    obtain rfl := Option.some.inj e
    exact ⟨_, _, rfl, .inr h, q⟩
  | _ => cases e
end
/-- isinstance of a thing, of one built-in class -/
def Dt.isInt : Dt → Bool
  | .bl _ => true
  | .int _ => true
  | _ => false
def Dt.isBool : Dt → Bool
  | .bl _ => true
  | _ => false
def Dt.isList : Dt → Bool
  | .lst _ => true
  | _ => false
def Dt.isTuple : Dt → Bool
  | .tup _ => true
  | _ => false
theorem isa_int : ∀ d : Dt, kitB d.ty "int" = some d.isInt
  | .non => show kitB "NoneType" "int" = some false by decide +kernel
  | .bl _ => show kitB "bool" "int" = some true by decide +kernel
  | .int _ => show kitB "int" "int" = some true by decide +kernel
  | .str _ => show kitB "str" "int" = some false by decide +kernel
  | .lst _ => show kitB "list" "int" = some false by decide +kernel
  | .tup _ => show kitB "tuple" "int" = some false by decide +kernel
  | .dct _ => show kitB "dict" "int" = some false by decide +kernel
theorem isa_bool : ∀ d : Dt, kitB d.ty "bool" = some d.isBool
  | .non => show kitB "NoneType" "bool" = some false by decide +kernel
  | .bl _ => show kitB "bool" "bool" = some true by decide +kernel
  | .int _ => show kitB "int" "bool" = some false by decide +kernel
  | .str _ => show kitB "str" "bool" = some false by decide +kernel
  | .lst _ => show kitB "list" "bool" = some false by decide +kernel
  | .tup _ => show kitB "tuple" "bool" = some false by decide +kernel
  | .dct _ => show kitB "dict" "bool" = some false by decide +kernel
theorem isa_list : ∀ d : Dt, kitB d.ty "list" = some d.isList
  | .non => show kitB "NoneType" "list" = some false by decide +kernel
  | .bl _ => show kitB "bool" "list" = some false by decide +kernel
  | .int _ => show kitB "int" "list" = some false by decide +kernel
  | .str _ => show kitB "str" "list" = some false by decide +kernel
  | .lst _ => show kitB "list" "list" = some true by decide +kernel
  | .tup _ => show kitB "tuple" "list" = some false by decide +kernel
  | .dct _ => show kitB "dict" "list" = some false by decide +kernel
theorem isa_tuple : ∀ d : Dt, kitB d.ty "tuple" = some d.isTuple
  | .non => show kitB "NoneType" "tuple" = some false by decide +kernel
  | .bl _ => show kitB "bool" "tuple" = some false by decide +kernel
  | .int _ => show kitB "int" "tuple" = some false by decide +kernel
  | .str _ => show kitB "str" "tuple" = some false by decide +kernel
  | .lst _ => show kitB "list" "tuple" = some false by decide +kernel
  | .tup _ => show kitB "tuple" "tuple" = some true by decide +kernel
  | .dct _ => show kitB "dict" "tuple" = some false by decide +kernel
theorem isa_seq {K : PySem.W.Frag} (d : Dt) : PySem.W.kitAny K (.type d.ty) [.type "list", .type "tuple"] = some d.items.isSome := by
  refine kitAny_cons (kit_ty (isa_list d)) (fun e => kitAny_cons (kit_ty (isa_tuple d)) (fun e2 => ?_) fun e2 => ?_) fun e => ?_
  · cases d <;> first | rfl | (cases e; done) | (cases e2; done)
  · cases d <;> first | rfl | cases e2
  · cases d <;> first | rfl | cases e

/-! ### the program's exception classes -/
abbrev veMro : List Value := [.type "ValueError", .type "Exception", .type "BaseException", .type "object"]
structure ExcF (K : PySem.W.Frag) (mg : Str → Option Value) (nm : Str) (C TE : Addr) : Prop where
  g : mg nm = some (.ref C)
  x : PySem.W.excIn K C veMro "ValueError.__new__" = true
  k : PySem.W.keepIn K (.ref C) = true
  t : PySem.W.typeIn K (.ref C) = some (.type "type")
  c : ExcC K C
  m : ∃ cd, PySem.W.clsIn K C = some cd ∧ cd.mro = .ref C :: .ref TE :: veMro
structure ExcB (K : PySem.W.Frag) (mg : Str → Option Value) (nm : Str) (TE : Addr) : Prop where
  g : mg nm = some (.ref TE)
  t : PySem.W.typeIn K (.ref TE) = some (.type "type")
  i : PySem.W.isClsIn K TE = true
  b : PySem.W.subIn K (.ref TE) (.type "BaseException") = some true
section
variable {K : PySem.W.Frag} {mg : Str → Option Value} {n n' : Str} {C D TE : Addr}
theorem ExcF.b (F : ExcF K mg n C TE) : PySem.W.subIn K (.ref C) (.type "BaseException") = some true := F.c.hs
theorem ExcF.is (F : ExcF K mg n C TE) : (PySem.W.clsIn K C).isSome = true := let ⟨cd, e, _⟩ := F.m; by rw [e]; rfl
theorem ExcF.sub (F : ExcF K mg n D TE) (v : Value) : PySem.W.subIn K (.ref D) v = some ((Value.ref D :: .ref TE :: veMro).contains v) := by
  obtain ⟨cd, e, m⟩ := F.m
  show PySem.W.mroIn K D v = _
  unfold PySem.W.mroIn
  rw [e, Option.bind_some, m]
  rfl
theorem kitCls_own (F : ExcF K mg n D TE) (h1 : (PySem.W.clsIn K C).isSome = true) (h2 : PySem.W.typeIn K (.ref C) = some (.type "type")) : PySem.W.kitCls K (.ref D) (.ref C) = some (decide (C = D) || decide (C = TE)) := by
  show (if ((PySem.W.clsIn K C).isSome && PySem.W.typeIn K (.ref C) == some (.type "type")) = true then PySem.W.subIn K (.ref D) (.ref C) else none) = _
  rw [h1, h2, if_pos (by rfl), F.sub]
  congr 1
  have e : ∀ a b : Addr, (Value.ref a == Value.ref b) = decide (a = b) := fun a b => by
    by_cases q : a = b
    · subst q
      simp
    · have : ¬ Value.ref a = Value.ref b := fun z => q (Value.ref.inj z)
      simp [q]
  rw [List.contains_cons, List.contains_cons, e, e, show veMro.contains (Value.ref C) = false from rfl, Bool.or_false]
theorem kit_own (F : ExcF K mg n D TE) (h1 : (PySem.W.clsIn K C).isSome = true) (h2 : PySem.W.typeIn K (.ref C) = some (.type "type")) : PySem.W.kitOne K (.ref D) (.ref C) = some (decide (C = D) || decide (C = TE)) := by
  unfold PySem.W.kitOne
  by_cases q : D = C
  · subst q
    simp
  · rw [if_neg (by simpa using fun z => q z)]
    exact kitCls_own F h1 h2
theorem exm_own (F : ExcF K mg n D TE) (h1 : (PySem.W.clsIn K C).isSome = true) (h2 : PySem.W.typeIn K (.ref C) = some (.type "type")) (h3 : PySem.W.subIn K (.ref C) (.type "BaseException") = some true) : PySem.W.exmOne K (.ref D) (.ref C) = some (decide (C = D) || decide (C = TE)) := by
  unfold PySem.W.exmOne
  rw [h3, if_pos (by rfl)]
  exact kitCls_own F h1 h2
theorem kit_VE (F : ExcF K mg n D TE) : PySem.W.kitOne K (.ref D) (.type "ValueError") = some true := by
  unfold PySem.W.kitOne
  rw [if_neg (by simp)]
  show (if PySem.W.kitMeta "ValueError" = true then PySem.W.subIn K (.ref D) (.type "ValueError") else none) = _
  rw [if_pos (by decide +kernel), F.sub]
  rfl
end
/-- isinstance(e, C) of an exception of one of these classes, C one of them -/
theorem pe_isC {X : Cx} {n : Str} {C TE : Addr} {i : Nat} {x : Str} {p p1 p2 pos : Pos} (G : ExcF X.K X.mg n C TE) (hne : C ≠ TE) (hv : PE X (.Name x p1) (tVar i)) (hc : PE X (.Name n p2) (tC (.ref C))) (hg : Gl X "isinstance") (hm : X.mg "isinstance" = none)
    (he : starEach [.Name x p1, .Name n p2] X.env = (false, eval (.Name x p1) X.env) :: starEach [.Name n p2] X.env := by rfl) (he2 : starEach [.Name n p2] X.env = (false, eval (.Name n p2) X.env) :: starEach [] X.env := by rfl) (hpl : (backTo pos (starEach [.Name n p2] X.env)).any (·.1) = false := by rfl) :
    PE X (.Call (.Name "isinstance" p) [.Name x p1, .Name n p2] [] pos) (fun σ H Q => ∃ (a D : Addr) (m : Str), σ[i]? = some (some (.ref a)) ∧ ExAt H a D ∧ ExcF X.K X.mg m D TE ∧ Q (.bl (decide (C = D))) H) := by
  refine (pe_callB call_isX hg hm (by decide +kernel) (pa_cons hv (pa_cons hc pa_nil he2) he) (by decide) (by decide) he hpl).imp fun σ H Q ⟨a, D, m, e, E, F, q⟩ => ?_
  exact ⟨_, e, a, D, _, _, _, rfl, .own C, E, F.c, kit_own F G.is G.t, by rw [decide_eq_false hne, Bool.or_false]; exact q⟩

/-! ### rules whose reading names the written part, for suites -/
theorem call_isXK {X : Cx} {K : PySem.W.Frag} (hK : X.K = K) : CallR X (.builtin "isinstance") (rIsX K) := hK ▸ call_isX
theorem op_eqDK {X : Cx} {K : PySem.W.Frag} (hK : X.K = K) (hu : X.A.units + 64 < cLine) : OpR X (compareOp .Eq) (rEqD K) := hK ▸ op_eqD hu
theorem op_neDK {X : Cx} {K : PySem.W.Frag} (hK : X.K = K) (hu : X.A.units + 64 < cLine) : OpR X (compareOp .NotEq) (rNeD K) := hK ▸ op_neD hu

/-! ### the end, the loose names told -/
theorem walk_ofG {l : PySem.W.OpenLaw} {n k : Nat} {q : Program} {loose : List Str} {lv : List (Str × PySem.W.WData)} {qp : Program} {YP : World → Heap → Prop} {d : DefRec} {K : Params → PySem.W.Frag} {CX : World → CXT} {sp : World → Sp} {x : Str}
    (hn : l.most = some n) (hn2 : n ≤ sizeLine) (hdf : d.params.defaults = []) (hr : Room k callerA) (hY : ∀ (w : World) (h : Heap), YP w h → (K w.params).In h)
    (F : ∀ (w : World) (mg : Str → Option Value) (fa : Addr) (h : Heap), (K w.params).In h → h.Ns mainGlobals mg → PySem.W.LooseAre lv mg h → mg d.name = some (.ref fa) →
      ∃ fd : FuncData, (∀ (s : Shared) (u : Value), BindsTo s fd ⟨[u], []⟩ [(x, u)]) ∧ ∀ base : Heap, (K w.params).In base → base.Ns mainGlobals mg → FnOk l.prog w (K w.params) mg base (CX w) k fa fd [x] (sp w))
    (hsp : ∀ (w : World) (H : Hp) (a : Addr) (ns : List Int), ns.length ≤ n → (∀ z ∈ ns, Builtin.Int.intBits z ≤ 1048576) → Only H → SqL (K w.params) H a (ns.map V.int) → sp w [.ref a] H (fun v _ => v = .bl true) fun _ _ _ => False)
    (hCX : ∀ (w : World) (H : Hp) (s : Shared) (e : Value) (s' : Shared), CX w [] H s (fun _ _ _ => False) e s' → False) :
    PySem.W.WalkO q loose (PySem.W.XL qp lv) YP l.row.toRowW d [] (fun f vs => PySem.call f vs) := by
  refine Att.attach_callB hn hdf fun w s₀ s₁ mg mb fa o pm cd doc a vs ns G Y ho hd hcd hmg hobj hints hlen hbits hg => ?_
  obtain ⟨fd, hb, hF⟩ := F w mg fa _ (hY w _ Y) G.T.g G.X.2 hmg
  exact law_call (hY w _ Y) G.T.g G.T.b G.T.builtins G.T.nolimit hg hobj hints (Nat.le_trans hlen hn2) hr hF hb (fun H hO hS => hsp w H a ns hlen hbits hO hS) fun H e s' => hCX w H s₁ e s'
theorem loose_int {lv : List (Str × PySem.W.WData)} {mg : Str → Option Value} {h : Heap} {x : Str} {i : Int} (L : PySem.W.LooseAre lv mg h) (hm : (x, PySem.W.WData.int i) ∈ lv) : ∃ t, mg x = some (.int i t) := by
  obtain ⟨v, e, r⟩ := L.val _ hm
  cases r
  exact ⟨_, e⟩
end Vf
set_option Elab.async false
set_option linter.all false
set_option maxRecDepth 100000
set_option maxHeartbeats 4000000
namespace Kp17
open PySem PySem.Spec PyProof.Rows L2 Vf
def topS (i : Nat) : Stmt := PySem.Challenge.pw_exacttable_k17_refusals_apart.main.body.getD i (.Pass ⟨0, 0, 0, 0⟩)
abbrev s_is_whole : Stmt := topS 3
abbrev s_is_count : Stmt := topS 4
abbrev s_is_place : Stmt := topS 5
abbrev s_is_list : Stmt := topS 6
abbrev s_is_short_list : Stmt := topS 7
abbrev s_are_counts : Stmt := topS 8
abbrev s_is_cap : Stmt := topS 29
abbrev s_is_cap_row : Stmt := topS 30
abbrev s_wanted_sums : Stmt := topS 31
abbrev s_wanted_caps : Stmt := topS 32
abbrev s_Frame_init : Stmt := inClass (topS 33) 0
abbrev s_Frame_rows : Stmt := inClass (topS 33) 1
abbrev s_Frame_columns : Stmt := inClass (topS 33) 2
abbrev s_Frame_caps : Stmt := inClass (topS 33) 3
abbrev s_Frame_cap : Stmt := inClass (topS 33) 4
abbrev s_l_cell_at : Stmt := topS 35
abbrev s_l_tape : Stmt := topS 36
abbrev s_l_digit : Stmt := topS 37
abbrev s_l_firsts : Stmt := topS 38
abbrev s_l_sorts : Stmt := topS 39
abbrev s_l_made : Stmt := topS 40
abbrev s_l_caught : Stmt := topS 41
abbrev s_l_framed : Stmt := topS 42
abbrev s_l_own : Stmt := topS 43
abbrev s_law : Stmt := topS 44
/-! ### what the top has written -/
structure Txt (K : PySem.W.Frag) (mg : Str → Option Value) (C : Nat → Addr) (tG tL : Tok) : Prop where
  inj : ∀ i j, i < 18 → j < 18 → C i = C j → i = j
  c_GREATEST : mg "GREATEST" = some (.int 1000000000000 tG)
  c_LONGEST : mg "LONGEST" = some (.int 6 tL)
  n_isinstance : mg "isinstance" = none
  n_len : mg "len" = none
  n_all : mg "all" = none
  n_range : mg "range" = none
  n_enumerate : mg "enumerate" = none
  n_int : mg "int" = none
  n_bool : mg "bool" = none
  n_list : mg "list" = none
  n_tuple : mg "tuple" = none
  n_ValueError : mg "ValueError" = none
  TableError : ExcB K mg "TableError" (C 17)
  NoSums : ExcF K mg "NoSums" (C 0) (C 17)
  NoCaps : ExcF K mg "NoCaps" (C 1) (C 17)
  NoTable : ExcF K mg "NoTable" (C 2) (C 17)
  NoOrder : ExcF K mg "NoOrder" (C 3) (C 17)
  NoColumns : ExcF K mg "NoColumns" (C 4) (C 17)
  NoText : ExcF K mg "NoText" (C 5) (C 17)
  TooMany : ExcF K mg "TooMany" (C 6) (C 17)
  NoNumber : ExcF K mg "NoNumber" (C 7) (C 17)
  NoStep : ExcF K mg "NoStep" (C 8) (C 17)
  Bounded : ExcF K mg "Bounded" (C 9) (C 17)
  NoCell : ExcF K mg "NoCell" (C 10) (C 17)
  NoKind : ExcF K mg "NoKind" (C 11) (C 17)
  NoScores : ExcF K mg "NoScores" (C 12) (C 17)
  NoWhole : ExcF K mg "NoWhole" (C 13) (C 17)
  NoCube : ExcF K mg "NoCube" (C 14) (C 17)
  NoFaces : ExcF K mg "NoFaces" (C 15) (C 17)
  NoLine : ExcF K mg "NoLine" (C 16) (C 17)
theorem Txt.fs {K : PySem.W.Frag} {mg : Str → Option Value} {C : Nat → Addr} {tG tL : Tok} (T : Txt K mg C tG tL) : ∀ i, i < 17 → ∃ n, ExcF K mg n (C i) (C 17)
  | 0, _ => ⟨_, T.NoSums⟩
  | 1, _ => ⟨_, T.NoCaps⟩
  | 2, _ => ⟨_, T.NoTable⟩
  | 3, _ => ⟨_, T.NoOrder⟩
  | 4, _ => ⟨_, T.NoColumns⟩
  | 5, _ => ⟨_, T.NoText⟩
  | 6, _ => ⟨_, T.TooMany⟩
  | 7, _ => ⟨_, T.NoNumber⟩
  | 8, _ => ⟨_, T.NoStep⟩
  | 9, _ => ⟨_, T.Bounded⟩
  | 10, _ => ⟨_, T.NoCell⟩
  | 11, _ => ⟨_, T.NoKind⟩
  | 12, _ => ⟨_, T.NoScores⟩
  | 13, _ => ⟨_, T.NoWhole⟩
  | 14, _ => ⟨_, T.NoCube⟩
  | 15, _ => ⟨_, T.NoFaces⟩
  | 16, _ => ⟨_, T.NoLine⟩
  | n + 17, h => absurd h (by omega)
theorem pe_isN {X : Cx} {C : Nat → Addr} {tG tL : Tok} {n : Str} {j i : Nat} {x : Str} {p p1 p2 pos : Pos} (T : Txt X.K X.mg C tG tL) (G : ExcF X.K X.mg n (C j) (C 17)) (hj : j < 17) (hv : PE X (.Name x p1) (tVar i)) (hc : PE X (.Name n p2) (tC (.ref (C j)))) (hg : Gl X "isinstance") (hm : X.mg "isinstance" = none)
    (he : starEach [.Name x p1, .Name n p2] X.env = (false, eval (.Name x p1) X.env) :: starEach [.Name n p2] X.env := by rfl) (he2 : starEach [.Name n p2] X.env = (false, eval (.Name n p2) X.env) :: starEach [] X.env := by rfl) (hpl : (backTo pos (starEach [.Name n p2] X.env)).any (·.1) = false := by rfl) :
    PE X (.Call (.Name "isinstance" p) [.Name x p1, .Name n p2] [] pos) (fun σ H Q => ∃ (a : Addr) (m : Nat), σ[i]? = some (some (.ref a)) ∧ m < 17 ∧ ExAt H a (C m) ∧ Q (.bl (decide (j = m))) H) := by
  refine (pe_isC G (fun z => absurd (T.inj _ _ (by omega) (by omega) z) (by omega)) hv hc hg hm he he2 hpl).imp fun σ H Q ⟨a, m, e, hm, E, q⟩ => ?_
  obtain ⟨nm, F⟩ := T.fs m hm
  have ed : decide (C j = C m) = decide (j = m) := decide_eq_decide.mpr ⟨fun z => T.inj _ _ (by omega) (by omega) z, fun z => by rw [z]⟩
  exact ⟨a, C m, nm, e, E, F, by rw [ed]; exact q⟩
theorem Txt.exm {K : PySem.W.Frag} {mg : Str → Option Value} {C : Nat → Addr} {tG tL : Tok} (T : Txt K mg C tG tL) (i j : Nat) (hi : i < 17) (hj : j < 17) : PySem.W.exmOne K (.ref (C i)) (.ref (C j)) = some (decide (j = i)) := by
  obtain ⟨n, F⟩ := T.fs i hi
  obtain ⟨m, G⟩ := T.fs j hj
  rw [exm_own F G.is G.t G.b, decide_eq_false (p := C j = C 17) (fun z => absurd (T.inj _ _ (by omega) (by omega) z) (by omega)), Bool.or_false]
  exact congrArg some (decide_eq_decide.mpr ⟨fun z => T.inj _ _ (by omega) (by omega) z, fun z => by rw [z]⟩)
theorem Txt.exmT {K : PySem.W.Frag} {mg : Str → Option Value} {C : Nat → Addr} {tG tL : Tok} (T : Txt K mg C tG tL) (i : Nat) (hi : i < 17) : PySem.W.exmOne K (.ref (C i)) (.ref (C 17)) = some true := by
  obtain ⟨n, F⟩ := T.fs i hi
  rw [exm_own F T.TableError.i T.TableError.t T.TableError.b, decide_eq_true (p := C 17 = C 17) rfl, Bool.or_true]
/-! ### the mirror of the checks -/
def isWhole : Dt → Bool
  | .int _ => true
  | _ => false
def isCount : Dt → Bool
  | .int i => decide (0 ≤ i) && decide (i ≤ 1000000000000)
  | _ => false
def isShort (d : Dt) : Bool := match d.items with
  | some l => decide (1 ≤ l.length) && decide (l.length ≤ 6)
  | none => false
def areCounts (d : Dt) : Bool := isShort d && (d.items.getD []).all isCount
theorem isWhole_eq (d : Dt) (e : d.isInt = true) : isWhole d = !d.isBool := by cases d <;> first | rfl | (cases e; done)
theorem isWhole_no (d : Dt) (e : ¬ d.isInt = true) : isWhole d = false := by cases d <;> first | rfl | (exact absurd rfl e)
theorem isCount_no (d : Dt) (e : ¬ isWhole d = true) : isCount d = false := by cases d <;> first | rfl | (exact absurd rfl e)
theorem isWhole_int (d : Dt) (e : isWhole d = true) : ∃ i, d = .int i := by cases d <;> first | exact ⟨_, rfl⟩ | (cases e; done)
theorem isCount_int (d : Dt) (e : isCount d = true) : ∃ i : Int, d = .int i ∧ 0 ≤ i ∧ i ≤ 1000000000000 := by
  cases d with
  | int i =>
    have h : (decide (0 ≤ i) && decide (i ≤ 1000000000000)) = true := e
    rw [Bool.and_eq_true, decide_eq_true_eq, decide_eq_true_eq] at h
    exact ⟨i, rfl, h.1, h.2⟩
  | _ => cases e
theorem all_counts : ∀ {l : List Dt}, l.all isCount = true → ∃ ns : List Int, l = ns.map Dt.int ∧ ∀ n ∈ ns, 0 ≤ n ∧ n ≤ 1000000000000
  | [], _ => ⟨[], rfl, fun _ h => by cases h⟩
  | d :: l, h => by
    rw [List.all_cons, Bool.and_eq_true] at h
    obtain ⟨i, rfl, h1, h2⟩ := isCount_int d h.1
    obtain ⟨ns, rfl, h3⟩ := all_counts h.2
    refine ⟨i :: ns, rfl, fun n hn => ?_⟩
    rcases List.mem_cons.mp hn with rfl | hn
    · exact ⟨h1, h2⟩
    · exact h3 n hn

/-! ### the promises -/
def sp_is_whole (K : PySem.W.Frag) : Sp := fun vs H Q _ => ∃ v d, vs = [v] ∧ Rp K H v d ∧ Q (.bl (isWhole d)) H
def sp_is_count (K : PySem.W.Frag) : Sp := fun vs H Q _ => ∃ v d, vs = [v] ∧ Rp K H v d ∧ Q (.bl (isCount d)) H
def sp_is_list (K : PySem.W.Frag) : Sp := fun vs H Q _ => ∃ v d, vs = [v] ∧ Rp K H v d ∧ ∀ H', Same H H' → Q (.bl d.items.isSome) H'
def sp_is_short_list (K : PySem.W.Frag) : Sp := fun vs H Q _ => ∃ v d, vs = [v] ∧ Rp K H v d ∧ ∀ H', Same H H' → Q (.bl (isShort d)) H'
def sp_are_counts (K : PySem.W.Frag) : Sp := fun vs H Q _ => ∃ v d, vs = [v] ∧ Rp K H v d ∧ ∀ H', Same H H' → Q (.bl (areCounts d)) H'
def sp_wanted_sums (K : PySem.W.Frag) (N0 : Addr) : Sp := fun vs H Q E => ∃ v d, vs = [v] ∧ Rp K H v d ∧ (areCounts d = false → ∀ H', Same H H' → E (.ref N0) none H') ∧
  (areCounts d = true → ∀ (ns : List Int) (H' : Hp) (p : Addr), d.items = some (ns.map Dt.int) → Same H H' → SqT K H' p (ns.map V.int) → Q (.ref p) H')
section
variable {P : Program} {w : World} {K : PySem.W.Frag} {mg : Str → Option Value} {base : Heap} {C : Nat → Addr} {tG tL : Tok}
theorem sc_is_whole : FnScope ["thing"] ["thing"] (defScope s_is_whole) :=
  ⟨rfl, rfl, rfl, by decide +kernel, rfl, by decide +kernel, by decide +kernel⟩
theorem ok_is_whole {f : Addr} {fd : FuncData} (F : Fun K "is_whole" "is_whole" s_is_whole f fd) (T : Txt K mg C tG tL) : FnOk P w K mg base CX0 1 f fd ["thing"] (sp_is_whole K) := by
  refine F.ok sc_is_whole (fun vs H Q E ⟨v, d, e, _⟩ => by rw [e]; rfl) (fun cdv A outer s H vs Q E hr h => ?_)
  obtain ⟨v, d, rfl, R, q⟩ := h
  refine ⟨_, (pss_one (ps_ret (pe_and (pe_callB call_isi (by rfl) T.n_isinstance (by decide +kernel) (pa_cons (pv 0) (pa_cons (pe_bltn (v := .ty "int") (by rfl) T.n_int (by decide +kernel) rfl) pa_nil))) (pe_one (pe_not (pe_callB call_isi (by rfl) T.n_isinstance (by decide +kernel) (pa_cons (pv 0) (pa_cons (pe_bltn (v := .ty "bool") (by rfl) T.n_bool (by decide +kernel) rfl) pa_nil)))))))), ?_⟩
  refine ⟨v, rfl, v, _, _, _, d.isInt, rfl, .ty _, R.ty, kit_ty (isa_int d), _, rfl, ite2 (fun e => ?_) (fun e => ?_)⟩
  · refine ⟨v, rfl, v, _, _, _, d.isBool, rfl, .ty _, R.ty, kit_ty (isa_bool d), _, rfl, ?_⟩
    rw [isWhole_eq d e] at q
    exact q
  · rw [isWhole_no d e] at q
    exact q
theorem sc_is_count : FnScope ["thing"] ["thing"] (defScope s_is_count) :=
  ⟨rfl, rfl, rfl, by decide +kernel, rfl, by decide +kernel, by decide +kernel⟩
theorem ok_is_count {f : Addr} {fd : FuncData} (F : Fun K "is_count" "is_count" s_is_count f fd) (T : Txt K mg C tG tL) (c_is_whole : Cal P w K mg base CX0 1 "is_whole" ["thing"] (sp_is_whole K)) : FnOk P w K mg base CX0 2 f fd ["thing"] (sp_is_count K) := by
  refine F.ok sc_is_count (fun vs H Q E ⟨v, d, e, _⟩ => by rw [e]; rfl) (fun cdv A outer s H vs Q E hr h => ?_)
  obtain ⟨v, d, rfl, R, q⟩ := h
  refine ⟨_, (pss_one (ps_ret (pe_and (pe_cal c_is_whole (hr.mono (by decide)) (by rfl) pass0 (pa_cons (pv 0) pa_nil)) (pe_one (pe_chain op_le op_le pe_int (pv 0) (pe_glob (v := .int 1000000000000) (by rfl) T.c_GREATEST ⟨_, rfl⟩)))))), ?_⟩
  refine ⟨v, rfl, v, d, rfl, R, _, rfl, ite2 (fun e => ?_) (fun e => ?_)⟩
  · obtain ⟨i, rfl⟩ := isWhole_int d e
    cases R
    refine ⟨.int i, rfl, 0, i, rfl, rfl, _, rfl, ite2 (fun e => ?_) (fun e => ?_)⟩
    · refine ⟨i, 1000000000000, rfl, rfl, ?_⟩
      have h : isCount (.int i) = decide (i ≤ 1000000000000) := by show (decide (0 ≤ i) && decide (i ≤ 1000000000000)) = _; rw [e, Bool.true_and]
      rw [h] at q
      exact q
    · have h : isCount (.int i) = false := by
        show (decide (0 ≤ i) && decide (i ≤ 1000000000000)) = _
        rw [Bool.eq_false_iff.mpr e, Bool.false_and]
      rw [h] at q
      exact q
  · rw [isCount_no d e] at q
    exact q
theorem sc_is_list : FnScope ["thing"] ["thing"] (defScope s_is_list) :=
  ⟨rfl, rfl, rfl, by decide +kernel, rfl, by decide +kernel, by decide +kernel⟩
theorem ok_is_list {f : Addr} {fd : FuncData} (F : Fun K "is_list" "is_list" s_is_list f fd) (T : Txt K mg C tG tL) : FnOk P w K mg base CX0 1 f fd ["thing"] (sp_is_list K) := by
  refine F.ok sc_is_list (fun vs H Q E ⟨v, d, e, _⟩ => by rw [e]; rfl) (fun cdv A outer s H vs Q E hr h => ?_)
  obtain ⟨v, d, rfl, R, q⟩ := h
  refine ⟨_, (pss_one (ps_ret (pe_callB call_isiT (by rfl) T.n_isinstance (by decide +kernel) (pa_cons (pv 0) (pa_cons (pe_tup (pa_cons (pe_bltn (v := .ty "list") (by rfl) T.n_list (by decide +kernel) rfl) (pa_cons (pe_bltn (v := .ty "tuple") (by rfl) T.n_tuple (by decide +kernel) rfl) pa_nil))) pa_nil))))), ?_⟩
  refine ⟨v, rfl, (by show 2 ≤ sizeLine; decide), fun p np => ?_⟩
  exact ⟨v, p, _, _, _, _, rfl, upd_same, .cons (.ty "list") (.cons (.ty "tuple") .nil), (R.same (same_upd np)).ty, isa_seq d, q _ (same_upd np)⟩
theorem sc_is_short_list : FnScope ["thing"] ["thing"] (defScope s_is_short_list) :=
  ⟨rfl, rfl, rfl, by decide +kernel, rfl, by decide +kernel, by decide +kernel⟩
theorem ok_is_short_list {f : Addr} {fd : FuncData} (F : Fun K "is_short_list" "is_short_list" s_is_short_list f fd) (T : Txt K mg C tG tL) (c_is_list : Cal P w K mg base CX0 1 "is_list" ["thing"] (sp_is_list K)) : FnOk P w K mg base CX0 2 f fd ["thing"] (sp_is_short_list K) := by
  refine F.ok sc_is_short_list (fun vs H Q E ⟨v, d, e, _⟩ => by rw [e]; rfl) (fun cdv A outer s H vs Q E hr h => ?_)
  obtain ⟨v, d, rfl, R, q⟩ := h
  refine ⟨_, (pss_one (ps_ret (pe_and (pe_cal c_is_list (hr.mono (by decide)) (by rfl) pass0 (pa_cons (pv 0) pa_nil)) (pe_one (pe_chain op_le op_le pe_int (pe_callB call_len_seq (by rfl) T.n_len (by decide +kernel) (pa_cons (pv 0) pa_nil)) (pe_glob (v := .int 6) (by rfl) T.c_LONGEST ⟨_, rfl⟩)))))), ?_⟩
  refine ⟨v, rfl, v, d, rfl, R, fun H1 s1 => ⟨_, rfl, ite2 (fun e => ?_) (fun e => ?_)⟩⟩
  · obtain ⟨l, el⟩ := Option.isSome_iff_exists.mp e
    obtain ⟨a, xs, rfl, hS, hR⟩ := R.items_some el
    have hlen := hR.length
    have hq : isShort d = (decide (1 ≤ l.length) && decide (l.length ≤ 6)) := by unfold isShort; rw [el]
    refine ⟨.ref a, rfl, a, xs, rfl, hS.same s1, 1, _, rfl, rfl, _, rfl, ite2 (fun e => ?_) (fun e => ?_)⟩
    · refine ⟨_, 6, rfl, rfl, ?_⟩
      have e1 : 1 ≤ l.length := by have := of_decide_eq_true e; omega
      have e2 : decide (((xs.length : Nat) : Int) ≤ 6) = decide (l.length ≤ 6) := by rw [hlen]; exact decide_eq_decide.mpr ⟨fun z => by omega, fun z => by omega⟩
      have q2 := q H1 s1
      rw [hq, decide_eq_true e1, Bool.true_and, ← e2] at q2
      exact q2
    · have e1 : ¬ 1 ≤ l.length := fun z => e (decide_eq_true (by omega))
      have q2 := q H1 s1
      rw [hq, decide_eq_false e1, Bool.false_and] at q2
      exact q2
  · have hq : isShort d = false := by
      unfold isShort
      cases z : d.items with
      | none => rfl
      | some l => rw [z] at e; exact absurd rfl e
    have q2 := q H1 s1
    rw [hq] at q2
    exact q2
theorem sc_are_counts : FnScope ["thing", "item"] ["thing"] (defScope s_are_counts) :=
  ⟨rfl, rfl, rfl, by decide +kernel, rfl, by decide +kernel, by decide +kernel⟩
theorem ok_are_counts {f : Addr} {fd : FuncData} (F : Fun K "are_counts" "are_counts" s_are_counts f fd) (T : Txt K mg C tG tL) (c_is_short_list : Cal P w K mg base CX0 2 "is_short_list" ["thing"] (sp_is_short_list K)) (c_is_count : Cal P w K mg base CX0 2 "is_count" ["thing"] (sp_is_count K)) :
    FnOk P w K mg base CX0 3 f fd ["thing"] (sp_are_counts K) := by
  refine F.ok sc_are_counts (fun vs H Q E ⟨v, d, e, _⟩ => by rw [e]; rfl) (fun cdv A outer s H vs Q E hr h => ?_)
  obtain ⟨v, d, rfl, R, q⟩ := h
  refine ⟨_, (pss_one (ps_ret (pe_and (pe_cal c_is_short_list (hr.mono (by decide)) (by rfl) pass0 (pa_cons (pv 0) pa_nil)) (pe_one (pe_callB (cr_all rfl) (by rfl) T.n_all (by decide +kernel) (pa_cons (pe_lcS (own := [("item", 1)]) (by rfl) sc_are_counts.nd (pv 0) mono_var (blkOk_by (own := [("item", 1)]) (N := ["thing", "item"]) (sc := defScope s_are_counts) (by decide +kernel)) (fun _ _ _ _ _ => (pg_name (i := 1) sc_are_counts.nd rfl (by first | exact Or.inl rfl | exact Or.inr rfl))) (fun _ _ _ _ _ => pts_nil) (fun _ _ _ _ _ => (pe_cal c_is_count (hr.mono (by decide)) (by rfl) pass0 (pa_cons (pv 1) pa_nil)))) pa_nil)))))), ?_⟩
  refine ⟨v, rfl, v, d, rfl, R, fun H1 s1 => ⟨_, rfl, ite2 (fun e => ?_) (fun e => ?_)⟩⟩
  · obtain ⟨l, el⟩ : ∃ l, d.items = some l := by
      cases z : d.items with
      | some l => exact ⟨l, rfl⟩
      | none =>
        unfold isShort at e
        rw [z] at e
        cases e
    obtain ⟨a, xs, rfl, hS, hR⟩ := (R.same s1).items_some el
    have hlen := hR.length
    have short : l.length ≤ 6 := by
      unfold isShort at e
      rw [el] at e
      have e : (decide (1 ≤ l.length) && decide (l.length ≤ 6)) = true := e
      rw [Bool.and_eq_true, decide_eq_true_eq, decide_eq_true_eq] at e
      exact e.2
    have hq : areCounts d = l.all isCount := by unfold areCounts; rw [e, el]; rfl
    refine ⟨.ref a, rfl, a, xs, (fun D i H' => Same H1 H' ∧ H' D = some (.lst (((l.take i).map isCount).map V.bl))), rfl, hS, (fun D nD => ⟨same_upd nD, upd_same⟩), (fun D i H' nD _ p => p.1), (fun D i x H' nD hx p => ?_), (fun D H' nD p => ?_)⟩
    · obtain ⟨y, hy, rxy⟩ := hR.get hx
      refine ⟨rfl, x, rfl, x, y, rfl, rxy.same p.1, _, p.2, ?_, ?_, ?_⟩
      · rw [List.length_map, List.length_map, List.length_take]
        exact Nat.lt_of_le_of_lt (Nat.le_trans (Nat.min_le_right _ _) short) (by decide)
      · exact fun b o e => by rw [upd_ne (ne_of_none e nD)]; exact p.1 b o e
      · rw [upd_same, List.take_add_one, hy]
        simp
    · rw [hlen, List.take_length] at p
      refine ⟨D, l.map isCount, rfl, .inl (.inl p.2), ?_⟩
      have q2 := q H' (s1.trans p.1)
      rw [hq] at q2
      rw [List.all_map]
      exact q2
  · have q2 := q H1 s1
    unfold areCounts at q2
    rw [Bool.eq_false_iff.mpr e, Bool.false_and] at q2
    exact q2
theorem sc_wanted_sums : FnScope ["thing"] ["thing"] (defScope s_wanted_sums) :=
  ⟨rfl, rfl, rfl, by decide +kernel, rfl, by decide +kernel, by decide +kernel⟩
theorem ok_wanted_sums {f : Addr} {fd : FuncData} (F : Fun K "wanted_sums" "wanted_sums" s_wanted_sums f fd) (T : Txt K mg C tG tL) (c_are_counts : Cal P w K mg base CX0 3 "are_counts" ["thing"] (sp_are_counts K)) : FnOk P w K mg base (L2.CX P w) 4 f fd ["thing"] (sp_wanted_sums K (C 0)) := by
  refine F.okX sc_wanted_sums (fun vs H Q E ⟨v, d, e, _⟩ => by rw [e]; rfl) (fun cdv A outer s H vs Q E hr h => ?_)
  obtain ⟨v, d, rfl, R, q1, q2⟩ := h
  refine ⟨_, (pss_cons (ps_if (pt_not (pt_val (pe_cal c_are_counts (hr.mono (by decide)) (by rfl) pass0 (pa_cons (pv 0) pa_nil))))
  (pss_one (ps_raise rfl (takes_of rfl rfl rfl rfl) (pmk_own PySem.F.excBase_ValueError T.NoSums.x T.NoSums.g T.NoSums.k (raises_own T.NoSums.b T.NoSums.t) (by exact rfl))))
  pss_nil)
  (pss_one (ps_ret (pe_callTy call_tuple_of (by rfl) T.n_tuple (by decide +kernel) (pa_cons (pv 0) pa_nil))))), ?_⟩
  refine ⟨v, rfl, v, d, rfl, R, fun H1 s1 => ⟨_, rfl, ?_⟩⟩
  cases e : areCounts d with
  | false => exact iteT (q1 e H1 s1)
  | true =>
    refine iteF ?_
    unfold areCounts at e
    rw [Bool.and_eq_true] at e
    obtain ⟨l, el⟩ : ∃ l, d.items = some l := by
      cases z : d.items with
      | some l => exact ⟨l, rfl⟩
      | none =>
        have e := e.1
        unfold isShort at e
        rw [z] at e
        cases e
    have ec := e.2
    rw [el] at ec
    obtain ⟨ns, rfl, hns⟩ := all_counts (l := l) ec
    obtain ⟨a, xs, rfl, hS, hR⟩ := (R.same s1).items_some el
    have ex : xs = ns.map V.int := by
      clear el ec hS q1 q2 e hns
      induction ns generalizing xs with
      | nil => cases hR; rfl
      | cons n ns ih =>
        cases hR with
        | cons h1 h2 =>
          cases h1
          rw [ih _ h2]
          rfl
    subst ex
    have ac : areCounts d = true := by unfold areCounts; rw [e.1, el]; exact ec
    refine ⟨.ref a, rfl, a, ns.map V.int, rfl, ?_⟩
    rcases hS with hS | hS
    · exact .inl ⟨hS, fun p np => q2 ac ns _ p el (s1.trans (same_upd np)) (SqT.of upd_same)⟩
    · exact .inr ⟨hS, q2 ac ns _ a el s1 hS⟩
end
/-! ### the law's own draws -/
def sp_cell_at (K : PySem.W.Frag) : Sp := fun vs H Q _ => ∃ (a : Addr) (ns : List Int) (k : Nat), vs = [.ref a, .int k] ∧ SqL K H a (ns.map V.int) ∧ Q (.int (ns.getD k 0)) H
def sp_tape : Sp := fun vs H Q _ => ∃ z : Int, vs = [.int z] ∧ ∀ (H' : Hp) (p : Addr) (n : Int), Same H H' → H p = none → H' p = some (.lst [.int n]) → Q (.ref p) H'
def sp_digit : Sp := fun vs H Q _ => ∃ (t : Addr) (n m : Int), vs = [.ref t, .int m] ∧ H t = some (.lst [.int n]) ∧ 0 < m ∧ m < 1000000000000000000000000 ∧ ∀ d n' : Int, 0 ≤ d → d < m → Q (.int d) (upd H t (.lst [.int n']))
section
variable {P : Program} {w : World} {K : PySem.W.Frag} {mg : Str → Option Value} {base : Heap} {C : Nat → Addr} {tG tL : Tok}
theorem sc_l_cell_at : FnScope ["_law_script", "_law_k"] ["_law_script", "_law_k"] (defScope s_l_cell_at) :=
  ⟨rfl, rfl, rfl, by decide +kernel, rfl, by decide +kernel, by decide +kernel⟩
theorem ok_cell_at {f : Addr} {fd : FuncData} (F : Fun K "_law_cell_at" "_law_cell_at" s_l_cell_at f fd) (T : Txt K mg C tG tL) : FnOk P w K mg base CX0 1 f fd ["_law_script", "_law_k"] (sp_cell_at K) := by
  refine F.ok sc_l_cell_at (fun vs H Q E ⟨a, ns, k, e, _⟩ => by rw [e]; rfl) (fun cdv A outer s H vs Q E hr h => ?_)
  obtain ⟨a, ns, k, rfl, hS, q⟩ := h
  refine ⟨_, (pss_cons (ps_if (pt_cmpR op_lt (pv 1) (pe_callB call_len_seq (by rfl) T.n_len (by decide +kernel) (pa_cons (pv 0) pa_nil)) (nomark _))
  (pss_one (ps_ret (pe_ix ix_list (pv 0) (pv 1) (fun _ _ => rfl))))
  pss_nil)
  (pss_one (ps_ret pe_int))), ?_⟩
  refine ⟨.int k, rfl, .ref a, rfl, a, _, rfl, .inl hS, k, _, rfl, rfl, _, rfl, ite2 (fun e => ?_) (fun e => ?_)⟩
  · have h : k < ns.length := by
      have := of_decide_eq_true e
      rw [List.length_map] at this
      omega
    refine ⟨.ref a, rfl, .int k, rfl, a, _, k, .int ns[k], rfl, rfl, hS, atI_nat (by rw [List.getElem?_map, List.getElem?_eq_getElem h]; rfl), ?_⟩
    rw [List.getD_eq_getElem?_getD, List.getElem?_eq_getElem h] at q
    exact q
  · have h : ns.length ≤ k := by
      rcases Nat.lt_or_ge k ns.length with z | z
      · exact absurd (decide_eq_true (by rw [List.length_map]; omega)) e
      · exact z
    rw [List.getD_eq_getElem?_getD, List.getElem?_eq_none h] at q
    exact q
theorem sc_l_digit : FnScope ["_law_tape_here", "_law_size", "_law_digit_here"] ["_law_tape_here", "_law_size"] (defScope s_l_digit) :=
  ⟨rfl, rfl, rfl, by decide +kernel, rfl, by decide +kernel, by decide +kernel⟩
theorem ok_digit {f : Addr} {fd : FuncData} (F : Fun K "_law_digit" "_law_digit" s_l_digit f fd) (T : Txt K mg C tG tL) : FnOk P w K mg base CX0 1 f fd ["_law_tape_here", "_law_size"] sp_digit := by
  refine F.ok sc_l_digit (fun vs H Q E ⟨t, n, m, e, _⟩ => by rw [e]; rfl) (fun cdv A outer s H vs Q E hr h => ?_)
  obtain ⟨t, n, m, rfl, ht, m0, m1, q⟩ := h
  refine ⟨_, (pss_cons (ps_set (i := 2) sc_l_digit.nd rfl (by first | exact Or.inl rfl | exact Or.inr rfl) (pe_op op_mod (pe_ix ix_list (pv 0) pe_int (fun _ _ => rfl)) (pv 1)))
  (pss_cons (ps_asg (pe_op op_fdivW (pe_ix ix_list (pv 0) pe_int (fun _ _ => rfl)) (pv 1)) (pg_sub (pv 0) pe_int set_list))
  (pss_one (ps_ret (pv 2))))), ?_⟩
  refine ⟨.ref t, rfl, t, _, 0, .int n, rfl, rfl, SqL.of ht, atI_nat (j := 0) rfl, .int m, rfl, n, m, rfl, rfl, m0, ?_⟩
  refine ⟨.ref t, rfl, t, _, 0, .int n, rfl, rfl, SqL.of ht, atI_nat (j := 0) rfl, .int m, rfl, n, m, rfl, rfl, wide_div m0 (b := 100) ?_ (by decide) (by decide), ?_⟩
  · have e : (2 : Nat) ^ 100 = 1267650600228229401496703205376 := by decide +kernel
    rw [e]
    omega
  · exact ⟨.ref t, rfl, t, _, 0, 0, rfl, rfl, ht, rfl, _, rfl, q _ _ (Int.emod_nonneg _ (by omega)) (Int.emod_lt_of_pos _ m0)⟩
theorem sc_l_tape : FnScope ["_law_cell", "_law_number", "_law_found", "_law_k"] ["_law_cell"] (defScope s_l_tape) :=
  ⟨rfl, rfl, rfl, by decide +kernel, rfl, by decide +kernel, by decide +kernel⟩
theorem ok_tape {f : Addr} {fd : FuncData} (F : Fun K "_law_tape" "_law_tape" s_l_tape f fd) (T : Txt K mg C tG tL) : FnOk P w K mg base CX0 1 f fd ["_law_cell"] sp_tape := by
  refine F.ok sc_l_tape (fun vs H Q E ⟨z, e, _⟩ => by rw [e]; rfl) (fun cdv A outer s H vs Q E hr h => ?_)
  obtain ⟨z, rfl, q⟩ := h
  have pw : CPow 10 18 := ⟨by decide, by decide, by decide⟩
  refine ⟨_, (pss_cons (ps_if (pt_cmpR op_ge (pv 0) (pe_op op_pow pe_int pe_int) (nomark _))
  (pss_one (ps_ret (pe_lst (pa_cons (pe_op op_sub (pv 0) (pe_op op_pow pe_int pe_int)) pa_nil))))
  pss_nil)
  (pss_cons (ps_set (i := 1) sc_l_tape.nd rfl (by first | exact Or.inl rfl | exact Or.inr rfl) (pe_op op_mod (pe_op op_add (pe_op op_mul (pe_op op_mod (pv 0) pe_int) pe_int) pe_int) pe_int))
  (pss_cons (ps_set (i := 2) sc_l_tape.nd rfl (by first | exact Or.inl rfl | exact Or.inr rfl) pe_int)
  (pss_cons (ps_for PassesOwn.never rfl (pi_range1 (by rfl) T.n_range (pa_cons pe_int pa_nil))
  (pg_name (i := 3) sc_l_tape.nd rfl (by first | exact Or.inl rfl | exact Or.inr rfl))
  (pss_cons (ps_set (i := 1) sc_l_tape.nd rfl (by first | exact Or.inl rfl | exact Or.inr rfl) (pe_op op_mod (pe_op op_add (pe_op op_add (pe_op op_mul (pv 1) pe_int) (pv 3)) pe_int) pe_int))
  (pss_one (ps_set (i := 2) sc_l_tape.nd rfl (by first | exact Or.inl rfl | exact Or.inr rfl) (pe_op op_add (pe_op op_mul (pv 2) pe_int) (pv 1))))))
  (pss_one (ps_ret (pe_lst (pa_cons (pv 2) pa_nil)))))))), ?_⟩
  refine ⟨.int z, rfl, 10, 18, rfl, rfl, pw, z, _, rfl, rfl, _, rfl, ite2 (fun e => ?_) (fun e => ?_)⟩
  · exact ⟨.int z, rfl, 10, 18, rfl, rfl, pw, z, _, rfl, rfl, (by show 1 ≤ sizeLine; decide), fun p np => q _ p _ (same_upd np) np upd_same⟩
  · refine ⟨.int z, rfl, z, _, rfl, rfl, (by show (0 : Int) < 2147483629; decide), _, _, rfl, rfl, .inr ⟨by decide, by decide⟩, _, _, rfl, rfl, _, _, rfl, rfl, (by show (0 : Int) < 2147483647; decide), ?_⟩
    refine ⟨32, rfl, by decide, by decide, for_range (n := 32) (fun i σ H' => H' = H ∧ ∃ (a b : Int) (v : Option V), σ = [some (.int z), some (.int a), some (.int b), v]) ⟨rfl, _, _, none, rfl⟩ (fun i σ H' hi p => ?_) (fun σ H' p => ?_)⟩
    · obtain ⟨rfl, a, b, v, rfl⟩ := p
      refine ⟨.int a, rfl, a, _, rfl, rfl, .inr ⟨by decide, by decide⟩, _, rfl, _, _, rfl, rfl, _, _, rfl, rfl, _, _, rfl, rfl, (by show (0 : Int) < 2147483647; decide), ?_⟩
      refine ⟨.int b, rfl, b, _, rfl, rfl, .inr ⟨by decide, by decide⟩, _, rfl, _, _, rfl, rfl, rfl, _, _, _, rfl⟩
    · obtain ⟨rfl, a, b, v, rfl⟩ := p
      exact ⟨.int b, rfl, (by show 1 ≤ sizeLine; decide), fun p np => q _ p _ (same_upd np) np upd_same⟩
end
end Kp17
set_option Elab.async false
set_option linter.all false
set_option maxRecDepth 100000
set_option maxHeartbeats 4000000
namespace Kp17
open PySem PySem.Spec PyProof.Rows L2 Vf
/-! ### the law -/
def sp_firsts (C : Nat → Addr) : Sp := fun vs H Q _ => ∃ (a : Addr) (m : Nat), vs = [.ref a] ∧ m < 17 ∧ ExAt H a (C m) ∧ ∀ (H' : Hp) (p : Addr), Same H H' → H p = none → H' p = some (.lst ((List.range 10).map fun j => .bl (decide (j = m)))) → Q (.ref p) H'
def sp_sorts (C : Nat → Addr) : Sp := fun vs H Q _ => ∃ (a : Addr) (m : Nat), vs = [.ref a] ∧ m < 17 ∧ ExAt H a (C m) ∧ ∀ (H' : Hp) (p : Addr), Same H H' → H p = none → H' p = some (.lst ((List.range 17).map fun j => .bl (decide (j = m)))) → Q (.ref p) H'
/-- exceptions of the classes Cs, one after the other -/
inductive Exs (H : Hp) : List Addr → List Addr → Prop
  | nil : Exs H [] []
  | cons {a C : Addr} {l m : List Addr} : ExAt H a C → Exs H l m → Exs H (a :: l) (C :: m)
theorem Exs.same {H H' : Hp} (s : Same H H') : ∀ {l m : List Addr}, Exs H l m → Exs H' l m
  | _, _, .nil => .nil
  | _, _, .cons h r => .cons (h.same s) (Exs.same s r)
theorem Exs.append {H : Hp} : ∀ {l m l' m' : List Addr}, Exs H l m → Exs H l' m' → Exs H (l ++ l') (m ++ m')
  | _, _, _, _, .nil, r => r
  | _, _, _, _, .cons h q, r => .cons h (Exs.append q r)
theorem Exs.length {H : Hp} : ∀ {l m : List Addr}, Exs H l m → l.length = m.length
  | _, _, .nil => rfl
  | _, _, .cons _ r => congrArg (· + 1) (Exs.length r)
theorem Exs.get {H : Hp} : ∀ {l m : List Addr} {i : Nat} {a : Addr}, Exs H l m → l[i]? = some a → ∃ D, m[i]? = some D ∧ ExAt H a D
  | _, _, _, _, .nil, e => by simp at e
  | _, _, 0, _, .cons h _, e => by
    obtain rfl := Option.some.inj e
    exact ⟨_, rfl, h⟩
  | _, _, i + 1, a, .cons _ r, e => Exs.get (i := i) (a := a) r e
/-- X1(e), X2(e), .. as arguments -/
def tExs (i : Nat) (Cs : List Addr) : TA := fun σ H Q => (∃ v, σ[i]? = some (some v)) ∧ ∀ (as : List Addr) (H' : Hp), Same H H' → Exs H' as Cs → Q (as.map V.ref) H'
theorem pa_exs0 {X : Cx} {i : Nat} : PA X [] (tExs i []) := pa_nil.imp fun σ H Q q => q.2 [] H (Same.refl _) .nil
theorem pa_exs {X : Cx} {i : Nat} {e : Expr} {es : List Expr} {C : Addr} {Cs : List Addr} (he : PE X e (fun σ H Q => tVar i σ H fun _ H1 => ∀ a, H1 a = none → Q (.ref a) (upd H1 a (ExO (.ref C) a)))) (hr : PA X es (tExs i Cs))
    (hs : starEach (e :: es) X.env = (false, eval e X.env) :: starEach es X.env := by rfl) : PA X (e :: es) (tExs i (C :: Cs)) := by
  refine (pa_cons he hr hs).imp fun σ H Q ⟨⟨v, ev⟩, q⟩ => ⟨v, ev, fun a na => ⟨⟨v, ev⟩, fun as H' s h => ?_⟩⟩
  exact q (a :: as) H' ((same_upd na).trans s) (.cons ((ExAt.ofO upd_same).same s) h)
def sp_made (C : Nat → Addr) : Sp := fun vs H Q _ => ∃ x : Str, vs = [.str x] ∧ ∀ (H' : Hp) (L : Addr) (as : List Addr), Same H H' → H L = none → H' L = some (.lst (as.map V.ref)) → Exs H' as ((List.range 17).map C) → Q (.ref L) H'
def sp_text1 : Sp := fun vs H Q _ => ∃ x : Str, vs = [.str x] ∧ ∀ H' : Hp, Same H H' → Q (.bl true) H'
def sp_init (K : PySem.W.Frag) (N0 : Addr) : Sp := fun vs H Q E => ∃ (p : Addr) (v c g : V) (d : Dt), vs = [.ref p, v, c, g] ∧ Rp K H v d ∧ areCounts d = false ∧ ∀ H' : Hp, Same H H' → E (.ref N0) none H'
def sp_framed (K : PySem.W.Frag) : Sp := fun vs H Q _ => ∃ (v : V) (d : Dt), vs = [v] ∧ Rp K H v d ∧ areCounts d = false ∧ ∀ H' : Hp, Q (.bl true) H'
def sp_law (K : PySem.W.Frag) : Sp := fun vs H Q _ => ∃ (a : Addr) (ns : List Int), vs = [.ref a] ∧ SqL K H a (ns.map V.int) ∧ ∀ H' : Hp, Q (.bl true) H'
section
variable {P : Program} {w : World} {K : PySem.W.Frag} {mg : Str → Option Value} {base : Heap} {C : Nat → Addr} {tG tL : Tok}
theorem sc_l_firsts : FnScope ["_law_e", "_law_found"] ["_law_e"] (defScope s_l_firsts) :=
  ⟨rfl, rfl, rfl, by decide +kernel, rfl, by decide +kernel, by decide +kernel⟩
theorem ok_firsts {f : Addr} {fd : FuncData} (F : Fun K "_law_firsts" "_law_firsts" s_l_firsts f fd) (T : Txt K mg C tG tL) : FnA P w K mg base 1 f fd ["_law_e"] (sp_firsts C) := by
  refine funOkA F sc_l_firsts (fun vs H Q E ⟨a, m, e, _⟩ => by rw [e]; rfl) (fun cdv A outer s H vs Q E hr h => ?_)
  obtain ⟨a, m, rfl, hm, hE, q⟩ := h
  refine ⟨_, (pss_cons (ps_set (i := 1) sc_l_firsts.nd rfl (by first | exact Or.inl rfl | exact Or.inr rfl) (pe_lst (pa_cons (pe_isN T T.NoSums (by decide) (pv 0) (pe_glob (by rfl) T.NoSums.g rfl) (by rfl) T.n_isinstance) (pa_cons (pe_isN T T.NoCaps (by decide) (pv 0) (pe_glob (by rfl) T.NoCaps.g rfl) (by rfl) T.n_isinstance) (pa_cons (pe_isN T T.NoTable (by decide) (pv 0) (pe_glob (by rfl) T.NoTable.g rfl) (by rfl) T.n_isinstance) (pa_cons (pe_isN T T.NoOrder (by decide) (pv 0) (pe_glob (by rfl) T.NoOrder.g rfl) (by rfl) T.n_isinstance) pa_nil))))))
  (pss_cons (ps_set (i := 1) sc_l_firsts.nd rfl (by first | exact Or.inl rfl | exact Or.inr rfl) (pe_op op_cat (pv 1) (pe_lst (pa_cons (pe_isN T T.NoColumns (by decide) (pv 0) (pe_glob (by rfl) T.NoColumns.g rfl) (by rfl) T.n_isinstance) (pa_cons (pe_isN T T.NoText (by decide) (pv 0) (pe_glob (by rfl) T.NoText.g rfl) (by rfl) T.n_isinstance) (pa_cons (pe_isN T T.TooMany (by decide) (pv 0) (pe_glob (by rfl) T.TooMany.g rfl) (by rfl) T.n_isinstance) (pa_cons (pe_isN T T.NoNumber (by decide) (pv 0) (pe_glob (by rfl) T.NoNumber.g rfl) (by rfl) T.n_isinstance) pa_nil)))))))
  (pss_one (ps_ret (pe_op op_cat (pv 1) (pe_lst (pa_cons (pe_isN T T.NoStep (by decide) (pv 0) (pe_glob (by rfl) T.NoStep.g rfl) (by rfl) T.n_isinstance) (pa_cons (pe_isN T T.Bounded (by decide) (pv 0) (pe_glob (by rfl) T.Bounded.g rfl) (by rfl) T.n_isinstance) pa_nil)))))))), ?_⟩
  refine ⟨a, m, rfl, hm, hE, a, m, rfl, hm, hE, a, m, rfl, hm, hE, a, m, rfl, hm, hE, (by show 4 ≤ sizeLine; decide), fun p np => ?_⟩
  have s1 := same_upd (o := .lst [V.bl (decide (0 = m)), V.bl (decide (1 = m)), V.bl (decide (2 = m)), V.bl (decide (3 = m))]) np
  have hE1 := hE.same s1
  refine ⟨_, rfl, a, m, rfl, hm, hE1, a, m, rfl, hm, hE1, a, m, rfl, hm, hE1, a, m, rfl, hm, hE1, (by show 4 ≤ sizeLine; decide), fun r nr => ?_⟩
  have s2 := same_upd (o := .lst [V.bl (decide (4 = m)), V.bl (decide (5 = m)), V.bl (decide (6 = m)), V.bl (decide (7 = m))]) nr
  refine ⟨p, r, _, _, rfl, rfl, s2 _ _ upd_same, upd_same, (by show 8 ≤ sizeLine; decide), fun u nu => ?_⟩
  have s3 := same_upd (o := .lst [V.bl (decide (0 = m)), V.bl (decide (1 = m)), V.bl (decide (2 = m)), V.bl (decide (3 = m)), V.bl (decide (4 = m)), V.bl (decide (5 = m)), V.bl (decide (6 = m)), V.bl (decide (7 = m))]) nu
  have hE3 := (hE1.same s2).same s3
  refine ⟨_, rfl, a, m, rfl, hm, hE3, a, m, rfl, hm, hE3, (by show 2 ≤ sizeLine; decide), fun x nx => ?_⟩
  have s4 := same_upd (o := .lst [V.bl (decide (8 = m)), V.bl (decide (9 = m))]) nx
  refine ⟨u, x, _, _, rfl, rfl, s4 _ _ upd_same, upd_same, (by show 10 ≤ sizeLine; decide), fun y ny => ?_⟩
  have sA : Same H _ := ((s1.trans s2).trans s3).trans s4
  exact q _ y (sA.trans (same_upd ny)) (sA.free ny) upd_same
theorem sc_l_sorts : FnScope ["_law_e", "_law_found"] ["_law_e"] (defScope s_l_sorts) :=
  ⟨rfl, rfl, rfl, by decide +kernel, rfl, by decide +kernel, by decide +kernel⟩
theorem ok_sorts {f : Addr} {fd : FuncData} (F : Fun K "_law_sorts" "_law_sorts" s_l_sorts f fd) (T : Txt K mg C tG tL) (c_l_firsts : CalA P w K mg base 1 "_law_firsts" ["_law_e"] (sp_firsts C)) : FnA P w K mg base 2 f fd ["_law_e"] (sp_sorts C) := by
  refine funOkA F sc_l_sorts (fun vs H Q E ⟨a, m, e, _⟩ => by rw [e]; rfl) (fun cdv A outer s H vs Q E hr h => ?_)
  obtain ⟨a, m, rfl, hm, hE, q⟩ := h
  refine ⟨_, (pss_cons (ps_set (i := 1) sc_l_sorts.nd rfl (by first | exact Or.inl rfl | exact Or.inr rfl) (pe_op op_cat (pe_calA c_l_firsts (by first | exact roomH_mark (hr.mono (by decide)) | exact hr.mono (by decide)) (by rfl) (pa_cons (pv 0) pa_nil)) (pe_lst (pa_cons (pe_isN T T.NoCell (by decide) (pv 0) (pe_glob (by rfl) T.NoCell.g rfl) (by rfl) T.n_isinstance) (pa_cons (pe_isN T T.NoKind (by decide) (pv 0) (pe_glob (by rfl) T.NoKind.g rfl) (by rfl) T.n_isinstance) (pa_cons (pe_isN T T.NoScores (by decide) (pv 0) (pe_glob (by rfl) T.NoScores.g rfl) (by rfl) T.n_isinstance) pa_nil))))))
  (pss_one (ps_ret (pe_op op_cat (pv 1) (pe_lst (pa_cons (pe_isN T T.NoWhole (by decide) (pv 0) (pe_glob (by rfl) T.NoWhole.g rfl) (by rfl) T.n_isinstance) (pa_cons (pe_isN T T.NoCube (by decide) (pv 0) (pe_glob (by rfl) T.NoCube.g rfl) (by rfl) T.n_isinstance) (pa_cons (pe_isN T T.NoFaces (by decide) (pv 0) (pe_glob (by rfl) T.NoFaces.g rfl) (by rfl) T.n_isinstance) (pa_cons (pe_isN T T.NoLine (by decide) (pv 0) (pe_glob (by rfl) T.NoLine.g rfl) (by rfl) T.n_isinstance) pa_nil))))))))), ?_⟩
  refine ⟨.ref a, rfl, a, m, rfl, hm, hE, fun H1 p s1 np hp => ?_⟩
  have hE1 := hE.same s1
  refine ⟨a, m, rfl, hm, hE1, a, m, rfl, hm, hE1, a, m, rfl, hm, hE1, (by show 3 ≤ sizeLine; decide), fun r nr => ?_⟩
  have s2 := same_upd (o := .lst [V.bl (decide (10 = m)), V.bl (decide (11 = m)), V.bl (decide (12 = m))]) nr
  refine ⟨p, r, _, _, rfl, rfl, s2 _ _ hp, upd_same, (by show 13 ≤ sizeLine; decide), fun u nu => ?_⟩
  have s3 := same_upd (o := .lst (((List.range 10).map fun j => V.bl (decide (j = m))) ++ [V.bl (decide (10 = m)), V.bl (decide (11 = m)), V.bl (decide (12 = m))])) nu
  have hE3 := (hE1.same s2).same s3
  refine ⟨_, rfl, a, m, rfl, hm, hE3, a, m, rfl, hm, hE3, a, m, rfl, hm, hE3, a, m, rfl, hm, hE3, (by show 4 ≤ sizeLine; decide), fun x nx => ?_⟩
  have s4 := same_upd (o := .lst [V.bl (decide (13 = m)), V.bl (decide (14 = m)), V.bl (decide (15 = m)), V.bl (decide (16 = m))]) nx
  refine ⟨u, x, _, _, rfl, rfl, s4 _ _ upd_same, upd_same, (by show 17 ≤ sizeLine; decide), fun y ny => ?_⟩
  have sA : Same H _ := ((s1.trans s2).trans s3).trans s4
  exact q _ y (sA.trans (same_upd ny)) (sA.free ny) upd_same
theorem sc_l_made : FnScope ["_law_text", "_law_found"] ["_law_text"] (defScope s_l_made) :=
  ⟨rfl, rfl, rfl, by decide +kernel, rfl, by decide +kernel, by decide +kernel⟩
theorem ok_made {f : Addr} {fd : FuncData} (F : Fun K "_law_made" "_law_made" s_l_made f fd) (T : Txt K mg C tG tL) : FnOk P w K mg base CX0 1 f fd ["_law_text"] (sp_made C) := by
  refine F.ok sc_l_made (fun vs H Q E ⟨x, e, _⟩ => by rw [e]; rfl) (fun cdv A outer s H vs Q E hr h => ?_)
  obtain ⟨x, rfl, q⟩ := h
  refine ⟨_, (pss_cons (ps_set (i := 1) sc_l_made.nd rfl (by first | exact Or.inl rfl | exact Or.inr rfl) (pe_lst (pa_exs (pe_exc1 PySem.F.excBase_ValueError T.NoSums.x T.NoSums.g T.NoSums.k (by exact rfl) (pv 0)) (pa_exs (pe_exc1 PySem.F.excBase_ValueError T.NoCaps.x T.NoCaps.g T.NoCaps.k (by exact rfl) (pv 0)) (pa_exs (pe_exc1 PySem.F.excBase_ValueError T.NoTable.x T.NoTable.g T.NoTable.k (by exact rfl) (pv 0)) (pa_exs (pe_exc1 PySem.F.excBase_ValueError T.NoOrder.x T.NoOrder.g T.NoOrder.k (by exact rfl) (pv 0)) (pa_exs (pe_exc1 PySem.F.excBase_ValueError T.NoColumns.x T.NoColumns.g T.NoColumns.k (by exact rfl) (pv 0)) (pa_exs (pe_exc1 PySem.F.excBase_ValueError T.NoText.x T.NoText.g T.NoText.k (by exact rfl) (pv 0)) (pa_exs (pe_exc1 PySem.F.excBase_ValueError T.TooMany.x T.TooMany.g T.TooMany.k (by exact rfl) (pv 0)) pa_exs0)))))))))
  (pss_cons (ps_set (i := 1) sc_l_made.nd rfl (by first | exact Or.inl rfl | exact Or.inr rfl) (pe_op op_cat (pv 1) (pe_lst (pa_exs (pe_exc1 PySem.F.excBase_ValueError T.NoNumber.x T.NoNumber.g T.NoNumber.k (by exact rfl) (pv 0)) (pa_exs (pe_exc1 PySem.F.excBase_ValueError T.NoStep.x T.NoStep.g T.NoStep.k (by exact rfl) (pv 0)) (pa_exs (pe_exc1 PySem.F.excBase_ValueError T.Bounded.x T.Bounded.g T.Bounded.k (by exact rfl) (pv 0)) (pa_exs (pe_exc1 PySem.F.excBase_ValueError T.NoCell.x T.NoCell.g T.NoCell.k (by exact rfl) (pv 0)) (pa_exs (pe_exc1 PySem.F.excBase_ValueError T.NoKind.x T.NoKind.g T.NoKind.k (by exact rfl) (pv 0)) (pa_exs (pe_exc1 PySem.F.excBase_ValueError T.NoScores.x T.NoScores.g T.NoScores.k (by exact rfl) (pv 0)) pa_exs0)))))))))
  (pss_one (ps_ret (pe_op op_cat (pv 1) (pe_lst (pa_exs (pe_exc1 PySem.F.excBase_ValueError T.NoWhole.x T.NoWhole.g T.NoWhole.k (by exact rfl) (pv 0)) (pa_exs (pe_exc1 PySem.F.excBase_ValueError T.NoCube.x T.NoCube.g T.NoCube.k (by exact rfl) (pv 0)) (pa_exs (pe_exc1 PySem.F.excBase_ValueError T.NoFaces.x T.NoFaces.g T.NoFaces.k (by exact rfl) (pv 0)) (pa_exs (pe_exc1 PySem.F.excBase_ValueError T.NoLine.x T.NoLine.g T.NoLine.k (by exact rfl) (pv 0)) pa_exs0)))))))))), ?_⟩
  refine ⟨⟨_, rfl⟩, fun l1 H1 s1 e1 => ⟨by rw [List.length_map, e1.length]; exact (by decide : 7 ≤ sizeLine), fun p np => ?_⟩⟩
  have k1 := same_upd (o := .lst (l1.map V.ref)) np
  refine ⟨_, rfl, ⟨_, rfl⟩, fun l2 H2 s2 e2 => ⟨by rw [List.length_map, e2.length]; exact (by decide : 6 ≤ sizeLine), fun r nr => ?_⟩⟩
  have k2 := same_upd (o := .lst (l2.map V.ref)) nr
  refine ⟨p, r, _, _, rfl, rfl, k2 _ _ (s2 _ _ upd_same), upd_same, by rw [List.length_map, List.length_map, e1.length, e2.length]; exact (by decide : 13 ≤ sizeLine), fun u nu => ?_⟩
  have k3 := same_upd (o := .lst (l1.map V.ref ++ l2.map V.ref)) nu
  refine ⟨_, rfl, ⟨_, rfl⟩, fun l3 H3 s3 e3 => ⟨by rw [List.length_map, e3.length]; exact (by decide : 4 ≤ sizeLine), fun t nt => ?_⟩⟩
  have k4 := same_upd (o := .lst (l3.map V.ref)) nt
  refine ⟨u, t, _, _, rfl, rfl, k4 _ _ (s3 _ _ upd_same), upd_same, by rw [List.length_append, List.length_map, List.length_map, List.length_map, e1.length, e2.length, e3.length]; exact (by decide : 17 ≤ sizeLine), fun y ny => ?_⟩
  have k5 := same_upd (o := .lst (l1.map V.ref ++ l2.map V.ref ++ l3.map V.ref)) ny
  have f3 := e3.same (k4.trans k5)
  have t2 := ((k2.trans k3).trans s3).trans (k4.trans k5)
  have f2 := e2.same t2
  have t1 := (k1.trans s2).trans t2
  have f1 := e1.same t1
  refine q _ y (l1 ++ l2 ++ l3) (s1.trans t1) (((s1.trans (k1.trans s2)).trans ((k2.trans k3).trans s3)).trans k4 |>.free ny) ?_ ((f1.append f2).append f3)
  rw [upd_same, List.map_append, List.map_append]
theorem sc_l_caught : FnScope ["_law_text", "_law_e"] ["_law_text"] (defScope s_l_caught) :=
  ⟨rfl, rfl, rfl, by decide +kernel, rfl, by decide +kernel, by decide +kernel⟩
theorem ok_caught {f : Addr} {fd : FuncData} (F : Fun K "_law_caught" "_law_caught" s_l_caught f fd) (T : Txt K mg C tG tL) : FnOk P w K mg base CX0 1 f fd ["_law_text"] sp_text1 := by
  refine F.ok sc_l_caught (fun vs H Q E ⟨x, e, _⟩ => by rw [e]; rfl) (fun cdv A outer s H vs Q E hr h => ?_)
  obtain ⟨x, rfl, q⟩ := h
  refine ⟨_, (pss_cons (ps_tryT rfl rfl rfl sc_l_caught.nd takes0 (fun W pn xe tk _ => (pss_one (ps_raise rfl tk (SkE.pmk_own1 PySem.F.excBase_ValueError T.NoSums.x T.NoSums.g T.NoSums.k (raises_own T.NoSums.b T.NoSums.t) (by exact rfl) (pv 0)))))
  (HdT.plain ⟨rfl, by decide, .inl T.NoCaps.g⟩ (fun a cls pn => (pss_one (ps_ret pe_bl)))
  (HdT.named (i := 1) ⟨rfl, by decide, .inl T.TableError.g⟩ rfl rfl (fun a cls pn => (pss_one (ps_ret (pe_isN T T.NoSums (by decide) (pv 1) (pe_glob (by rfl) T.NoSums.g rfl) (by rfl) T.n_isinstance))))
  HdT.nil)))
  (pss_one (ps_ret pe_bl))), ?_⟩
  refine ⟨.str x, rfl, false, T.exm 0 1 (by decide) (by decide), (fun z => nomatch z), fun _ => ⟨true, T.exmT 0 (by decide), fun _ => ⟨rfl, fun a na => ?_⟩, (fun z => nomatch z)⟩⟩
  exact ⟨a, 0, rfl, by decide, ExAt.ofT upd_same, q _ (same_upd na)⟩
theorem sc_l_own : FnScope ["_law_text", "_law_e"] ["_law_text"] (defScope s_l_own) :=
  ⟨rfl, rfl, rfl, by decide +kernel, rfl, by decide +kernel, by decide +kernel⟩
theorem ok_own {f : Addr} {fd : FuncData} (F : Fun K "_law_own" "_law_own" s_l_own f fd) (T : Txt K mg C tG tL) : FnOk P w K mg base CX0 1 f fd ["_law_text"] sp_text1 := by
  refine F.ok sc_l_own (fun vs H Q E ⟨x, e, _⟩ => by rw [e]; rfl) (fun cdv A outer s H vs Q E hr h => ?_)
  obtain ⟨x, rfl, q⟩ := h
  refine ⟨_, (pss_cons (ps_tryT rfl rfl rfl sc_l_own.nd takes0 (fun W pn xe tk _ => (pss_one (ps_raise rfl tk (SkE.pmk_own1 PySem.F.excBase_ValueError T.Bounded.x T.Bounded.g T.Bounded.k (raises_own T.Bounded.b T.Bounded.t) (by exact rfl) (pv 0)))))
  (HdT.plain ⟨rfl, by decide, .inl T.TooMany.g⟩ (fun a cls pn => (pss_one (ps_ret pe_bl)))
  (HdT.named (i := 1) ⟨rfl, by decide, .inl T.Bounded.g⟩ rfl rfl (fun a cls pn => (pss_one (ps_ret (pe_callB (call_isXK (K := K) rfl) (by rfl) T.n_isinstance (by decide +kernel) (pa_cons (pv 1) (pa_cons (pe_bltn (v := .ty "ValueError") (by rfl) T.n_ValueError (by decide +kernel) rfl) pa_nil))))))
  HdT.nil)))
  (pss_one (ps_ret pe_bl))), ?_⟩
  refine ⟨.str x, rfl, false, T.exm 9 6 (by decide) (by decide), (fun z => nomatch z), fun _ => ⟨true, T.exm 9 9 (by decide) (by decide), fun _ => ⟨rfl, fun a na => ?_⟩, (fun z => nomatch z)⟩⟩
  exact ⟨.ref a, rfl, a, C 9, _, _, true, rfl, .ty _, ExAt.ofT upd_same, T.Bounded.c, kit_VE T.Bounded, q _ (same_upd na)⟩
end
end Kp17
set_option Elab.async false
set_option linter.all false
set_option maxRecDepth 100000
set_option maxHeartbeats 4000000
namespace Kp17
open PySem PySem.Spec PyProof.Rows L2 Vf
/-! ### a frame that is refused; the law itself -/
section
variable {P : Program} {w : World} {K : PySem.W.Frag} {mg : Str → Option Value} {base : Heap} {C : Nat → Addr} {tG tL : Tok}
theorem sc_Frame_init : FnScope ["self", "rows", "columns", "caps", "row_sums", "column_sums", "cell_caps"] ["self", "rows", "columns", "caps"] (defScope s_Frame_init) :=
  ⟨rfl, rfl, rfl, by decide +kernel, rfl, by decide +kernel, by decide +kernel⟩
theorem ok_init {f : Addr} {fd : FuncData} {dvs : List V} (F : FunD K "__init__" "Frame.__init__" (defArgs s_Frame_init) (defBody s_Frame_init) (defScope s_Frame_init) dvs [] f fd) (T : Txt K mg C tG tL) (c_wanted_sums : Cal P w K mg base (L2.CX P w) 4 "wanted_sums" ["thing"] (sp_wanted_sums K (C 0))) :
    FnOk P w K mg base (L2.CX P w) 5 f fd ["self", "rows", "columns", "caps"] (sp_init K (C 0)) := by
  refine F.ok sc_Frame_init (fun vs H Q E ⟨p, v, c, g, d, e, _⟩ => by rw [e]; rfl) (fun cdv A outer s H vs Q E hr h => ?_)
  obtain ⟨p, v, c, g, d, rfl, R, hd, q⟩ := h
  refine ⟨_, pss_cons (ps_set (i := 4) sc_Frame_init.nd rfl (by first | exact Or.inl rfl | exact Or.inr rfl) (pe_cal c_wanted_sums (hr.mono (by decide)) (by rfl) (passes_call (takes_of rfl rfl rfl rfl) (fun _ _ _ _ h => h)) (pa_cons (pv 1) pa_nil))) pss_never, ?_⟩
  exact ⟨v, rfl, v, d, rfl, R, fun _ H' s' => q H' s', fun e => by rw [hd] at e; cases e⟩
theorem sc_l_framed : FnScope ["_law_bad", "_law_e"] ["_law_bad"] (defScope s_l_framed) :=
  ⟨rfl, rfl, rfl, by decide +kernel, rfl, by decide +kernel, by decide +kernel⟩
/-- lists of truths, as data -/
theorem dp_bls {H : Hp} : ∀ bs : List Bool, DpAll K H (bs.map V.bl) (bs.map PyData.bool)
  | [] => .nil
  | b :: r => .cons (.bl b) (dp_bls r)
theorem shaped_bls (bs : List Bool) : SeqAt.shaped (.list (bs.map PyData.bool)) = true := by
  have h1 : ∀ l : List Bool, PyData.canLayAll0 (l.map PyData.bool) = true ∧ PyData.depthAll (l.map PyData.bool) = 0 := by
    intro l
    induction l with
    | nil => exact ⟨rfl, rfl⟩
    | cons b r ih =>
      refine ⟨?_, ?_⟩
      · show (PyData.canLay0 (.bool b) && PyData.canLayAll0 (r.map PyData.bool)) = true
        rw [ih.1]
        rfl
      · show max (PyData.depth (.bool b)) (PyData.depthAll (r.map PyData.bool)) = 0
        rw [ih.2]
        rfl
  show (PyData.canLayAll0 (bs.map PyData.bool) && decide (PyData.depthAll (bs.map PyData.bool) + 1 ≤ 64)) = true
  rw [(h1 bs).1, (h1 bs).2]
  rfl
theorem ok_framed {f fI CF : Addr} {fd fdI : FuncData} {ds : List Value} (F : Fun K "_law_framed" "_law_framed" s_l_framed f fd) (T : Txt K mg C tG tL) (M : Mk K CF fI) (gF : mg "Frame" = some (.ref CF)) (bI : Binds K fdI ["self", "rows", "columns", "caps"] ds) (dI : Vals [V.non] ds)
    (FI : FnOk P w K mg base (L2.CX P w) 5 fI fdI ["self", "rows", "columns", "caps"] (sp_init K (C 0))) (c_l_sorts : CalA P w K mg base 2 "_law_sorts" ["_law_e"] (sp_sorts C)) : FnOk P w K mg base CX0 7 f fd ["_law_bad"] (sp_framed K) := by
  refine F.ok sc_l_framed (fun vs H Q E ⟨v, d, e, _⟩ => by rw [e]; rfl) (fun cdv A outer s H vs Q E hr h => ?_)
  obtain ⟨v, d, rfl, R, hd, q⟩ := h
  refine ⟨_, (pss_cons (ps_tryT rfl rfl rfl sc_l_framed.nd takes0 (fun W pn xe tk _ => (pss_one (ps_expr (pe_makS M FI (hr.mono (by decide)) (by rfl) gF bI dI (fun σ => passAt tk σ) (pa_cons (pv 0) (pa_cons (pe_lst (pa_cons pe_int pa_nil)) pa_nil))))))
  (HdT.plain ⟨rfl, by decide, .inl T.NoCaps.g⟩ (fun a cls pn => (pss_one (ps_ret pe_bl)))
  (HdT.named (i := 1) ⟨rfl, by decide, .inl T.TableError.g⟩ rfl rfl (fun a cls pn => (pss_one (ps_ret (pe_cmpR (op_eqDK (K := K) rfl (show _ from hr.units)) (pe_calA c_l_sorts (by first | exact roomH_mark (hr.mono (by decide)) | exact hr.mono (by decide)) (by rfl) (pa_cons (pv 1) pa_nil)) (pe_op op_cat (pe_lst (pa_cons pe_bl pa_nil)) (pe_op op_rep (pe_lst (pa_cons pe_bl pa_nil)) pe_int)) (nomark _)))))
  HdT.nil)))
  (pss_one (ps_ret pe_bl))), ?_⟩
  refine ⟨v, rfl, (by show 1 ≤ sizeLine; decide), fun p np x dx nx ndx nex => ?_⟩
  have s0 := ((same_upd (o := .lst [V.int 0]) np).trans (same_upd (o := .own x) ndx)).trans (same_upd (H := upd (upd H p (.lst [.int 0])) dx (.own x)) (p := x) (o := .ins CF dx []) (by rw [upd_ne nex.symm]; exact nx))
  refine ⟨x, v, .ref p, .non, d, rfl, R.same s0, hd, fun H1 s1 => ⟨false, T.exm 0 1 (by decide) (by decide), (fun z => nomatch z), fun _ => ⟨true, T.exmT 0 (by decide), fun _ => ⟨rfl, fun a na => ?_⟩, (fun z => nomatch z)⟩⟩⟩
  refine ⟨.ref a, rfl, a, 0, rfl, by decide, ExAt.ofT upd_same, fun H2 p2 s2 np2 hp2 => ?_⟩
  refine ⟨(by show 1 ≤ sizeLine; decide), fun r nr => ⟨(by show 1 ≤ sizeLine; decide), fun u nu => ?_⟩⟩
  have k1 := same_upd (o := .lst [V.bl true]) nr
  have k2 := same_upd (o := .lst [V.bl false]) nu
  refine ⟨u, 16, [.bl false], rfl, rfl, upd_same, by decide, by decide, (by show 16 ≤ sizeLine; decide), fun y ny => ?_⟩
  have k3 := same_upd (H := upd (upd H2 r (.lst [V.bl true])) u (.lst [V.bl false])) (p := y) (o := .lst ((List.replicate (Int.toNat 16) [V.bl false]).flatten)) ny
  refine ⟨r, y, [.bl true], _, rfl, rfl, k3 _ _ (k2 _ _ upd_same), upd_same, (by show 17 ≤ sizeLine; decide), fun z nz => ?_⟩
  have k4 := same_upd (H := upd (upd (upd H2 r (.lst [V.bl true])) u (.lst [V.bl false])) y (.lst ((List.replicate (Int.toNat 16) [V.bl false]).flatten))) (p := z) (o := .lst ([V.bl true] ++ (List.replicate (Int.toNat 16) [V.bl false]).flatten)) nz
  have e2 := k4 _ _ (k3 _ _ (k2 _ _ (k1 _ _ hp2)))
  refine ⟨.list (((List.range 17).map fun j => decide (j = 0)).map PyData.bool), .list (((List.range 17).map fun j => decide (j = 0)).map PyData.bool), .lst (SqL.of e2) ?_, .lst (SqL.of upd_same) ?_, shaped_bls _, shaped_bls _, ?_⟩
  · exact dp_bls ((List.range 17).map fun j => decide (j = 0))
  · exact dp_bls ((List.range 17).map fun j => decide (j = 0))
  · rw [SeqAt.eqv_refl _ (SeqAt.canLay_of_shaped (shaped_bls _))]
    exact q _
end
end Kp17
set_option Elab.async false
set_option linter.all false
set_option maxRecDepth 100000
set_option maxHeartbeats 4000000
namespace Kp17
open PySem PySem.Spec PyProof.Rows L2 Vf
/-! ### the law's own body -/
section
variable {P : Program} {w : World} {K : PySem.W.Frag} {mg : Str → Option Value} {base : Heap} {C : Nat → Addr} {tG tL : Tok}
theorem sc_law : FnScope ["_law_script", "_law_tape_here", "_law_text", "_law_k", "_law_made_here", "_law_e", "_law_j", "_law_bad"] ["_law_script"] (defScope s_law) :=
  ⟨rfl, rfl, rfl, by decide +kernel, rfl, by decide +kernel, by decide +kernel⟩
theorem dec_eq (m i : Nat) : decide (V.int (0 + (m : Int)) = V.int (i : Int)) = decide (m = i) :=
  decide_eq_decide.mpr ⟨fun z => by have := V.int.inj z; omega, fun z => by rw [z, Int.zero_add]⟩
theorem ok_law {f : Addr} {fd : FuncData} (F : Fun K "law" "law" s_law f fd) (T : Txt K mg C tG tL) (c_l_cell_at : Cal P w K mg base CX0 1 "_law_cell_at" ["_law_script", "_law_k"] (sp_cell_at K)) (c_l_tape : Cal P w K mg base CX0 1 "_law_tape" ["_law_cell"] sp_tape)
    (c_l_digit : Cal P w K mg base CX0 1 "_law_digit" ["_law_tape_here", "_law_size"] sp_digit) (c_l_made : Cal P w K mg base CX0 1 "_law_made" ["_law_text"] (sp_made C)) (c_l_sorts : CalA P w K mg base 2 "_law_sorts" ["_law_e"] (sp_sorts C))
    (c_l_caught : Cal P w K mg base CX0 1 "_law_caught" ["_law_text"] sp_text1) (c_l_own : Cal P w K mg base CX0 1 "_law_own" ["_law_text"] sp_text1) (c_l_framed : Cal P w K mg base CX0 7 "_law_framed" ["_law_bad"] (sp_framed K)) : FnOk P w K mg base CX0 8 f fd ["_law_script"] (sp_law K) := by
  refine F.ok sc_law (fun vs H Q E ⟨a, ns, e, _⟩ => by rw [e]; rfl) (fun cdv A outer s H vs Q E hr h => ?_)
  obtain ⟨a, ns, rfl, hS, q⟩ := h
  refine ⟨_, (pss_cons (ps_set (i := 1) sc_law.nd rfl (by first | exact Or.inl rfl | exact Or.inr rfl) (pe_cal c_l_tape (hr.mono (by decide)) (by rfl) pass0 (pa_cons (pe_cal c_l_cell_at (hr.mono (by decide)) (by rfl) pass0 (pa_cons (pv 0) (pa_cons pe_int pa_nil))) pa_nil)))
  (pss_cons (ps_set (i := 2) sc_law.nd rfl (by first | exact Or.inl rfl | exact Or.inr rfl) (pe_join pe_str (pe_lc (own := [("_law_k", 3)]) (by rfl) sc_law.nd (pi_range1 (by rfl) T.n_range (pa_cons (pe_cal c_l_digit (hr.mono (by decide)) (by rfl) pass0 (pa_cons (pv 1) (pa_cons pe_int pa_nil))) pa_nil)) (blkOk_by (own := [("_law_k", 3)]) (N := ["_law_script", "_law_tape_here", "_law_text", "_law_k", "_law_made_here", "_law_e", "_law_j", "_law_bad"]) (sc := defScope s_law) (by decide +kernel)) (fun _ _ _ _ _ => (pg_name (i := 3) sc_law.nd rfl (by first | exact Or.inl rfl | exact Or.inr rfl))) (fun _ _ _ _ _ => pts_nil) (fun _ _ _ _ _ => (pe_ix ix_str pe_str (pe_cal c_l_digit (hr.mono (by decide)) (by rfl) pass0 (pa_cons (pv 1) (pa_cons pe_int pa_nil))) (fun _ _ => rfl))))))
  (pss_cons (ps_set (i := 4) sc_law.nd rfl (by first | exact Or.inl rfl | exact Or.inr rfl) (pe_cal c_l_made (hr.mono (by decide)) (by rfl) pass0 (pa_cons (pv 2) pa_nil)))
  (pss_cons (ps_for PassesOwn.never rfl (pi_enum (by rfl) T.n_enumerate (pa_cons (pv 4) pa_nil))
  (pg_tup rfl (pgs_cons (pg_name (i := 3) sc_law.nd rfl (by first | exact Or.inl rfl | exact Or.inr rfl)) (pgs_cons (pg_name (i := 5) sc_law.nd rfl (by first | exact Or.inl rfl | exact Or.inr rfl)) pgs_nil)))
  (pss_cons (ps_if (PW.pt (pw_or (pt_not (pt_val (pe_callB call_isX (by rfl) T.n_isinstance (by decide +kernel) (pa_cons (pv 5) (pa_cons (pe_glob (v := .ref _) (by rfl) T.TableError.g rfl) pa_nil))))) (pw_or1 (pt_not (pt_val (pe_callB call_isX (by rfl) T.n_isinstance (by decide +kernel) (pa_cons (pv 5) (pa_cons (pe_bltn (v := .ty "ValueError") (by rfl) T.n_ValueError (by decide +kernel) rfl) pa_nil))))))))
  (pss_one (ps_ret pe_bl))
  pss_nil)
  (pss_one (ps_if (pt_cmpR (op_neD hr.units) (pe_calA c_l_sorts (L2H.roomH_of (hr.mono (by decide))) (by rfl) (pa_cons (pv 5) pa_nil)) (pe_lc (own := [("_law_j", 6)]) (by rfl) sc_law.nd (pi_range1 (by rfl) T.n_range (pa_cons pe_int pa_nil)) (blkOk_by (own := [("_law_j", 6)]) (N := ["_law_script", "_law_tape_here", "_law_text", "_law_k", "_law_made_here", "_law_e", "_law_j", "_law_bad"]) (sc := defScope s_law) (by decide +kernel)) (fun _ _ _ _ _ => (pg_name (i := 6) sc_law.nd rfl (by first | exact Or.inl rfl | exact Or.inr rfl))) (fun _ _ _ _ _ => pts_nil) (fun _ _ _ _ _ => (pe_cmpR op_eq (pv 6) (pv 3) (nomark _)))) (nomark _))
  (pss_one (ps_ret pe_bl))
  pss_nil))))
  (pss_cons (ps_set (i := 7) sc_law.nd rfl (by first | exact Or.inl rfl | exact Or.inr rfl) (pe_ix ix_list (pe_lst (pa_cons (pe_lst pa_nil) (pa_cons pe_non (pa_cons (pe_lst (pa_cons pe_bl pa_nil)) (pa_cons (pe_lst (pa_cons (pe_un un_neg pe_int) pa_nil)) (pa_cons (pv 2) pa_nil)))))) (pe_cal c_l_digit (hr.mono (by decide)) (by rfl) pass0 (pa_cons (pv 1) (pa_cons pe_int pa_nil))) (fun _ _ => rfl)))
  (pss_one (ps_ret (pe_and (pe_cal c_l_caught (hr.mono (by decide)) (by rfl) pass0 (pa_cons (pv 2) pa_nil)) (pe_and (pe_cal c_l_own (hr.mono (by decide)) (by rfl) pass0 (pa_cons (pv 2) pa_nil)) (pe_one (pe_cal c_l_framed (hr.mono (by decide)) (by rfl) pass0 (pa_cons (pv 7) pa_nil)))))))))))), ?_⟩
  refine ⟨.ref a, rfl, a, ns, 0, rfl, hS, _, rfl, fun H1 t n s1 nt ht => ?_⟩
  -- the text
  refine ⟨⟨_, rfl⟩, .ref t, rfl, t, n, 12, rfl, ht, by decide, by decide, fun d n' d0 d1 => ⟨d, rfl, by omega, by omega, fun D nD => ?_⟩⟩
  have hDt : D ≠ t := fun z => by rw [z, upd_same] at nD; cases nD
  refine lc_range (n := d.toNat) (fun i H' => Kp t (upd H1 t (.lst [.int n'])) H' ∧ ∃ ys : List Str, H' D = some (.lst (ys.map V.str)) ∧ ys.length = i ∧ (ys.map (·.length)).sum = i) ⟨(Kp.refl ⟨n', upd_same⟩).lay nD, [], upd_same, rfl, rfl⟩ (fun i H' hi p => ?_) (fun H' p => ?_)
  · obtain ⟨kp, ys, hy, hl, hsum⟩ := p
    obtain ⟨m, hm⟩ := kp.2
    refine ⟨rfl, .ref t, rfl, t, m, 10, rfl, hm, by decide, by decide, fun d2 n2 e0 e1 => ?_⟩
    have hj : d2.toNat < ((PySem.Str.ofString "abc xyz019").cps.toList).length := by
      have : ((PySem.Str.ofString "abc xyz019").cps.toList).length = 10 := by decide +kernel
      omega
    refine ⟨_, d2, _, rfl, rfl, (by decide +kernel), (congrArg (atI _) (show d2 = ((d2.toNat : Nat) : Int) by omega)).trans (atI_nat (List.getElem?_eq_getElem hj)), _, (upd_ne hDt).trans hy, ?_, ⟨fun b o e h => ?_, ?_⟩, ys ++ [_], by rw [upd_same, List.map_append]; rfl, by rw [List.length_append, hl]; rfl, ?_⟩
    · rw [List.length_map, hl]
      exact Nat.lt_of_lt_of_le (show i < 12 by omega) (by decide)
    · rw [upd_ne (ne_of_none e nD), upd_ne h]
      exact kp.1 b o e h
    · exact ⟨n2, by rw [upd_ne hDt.symm, upd_same]⟩
    · rw [List.map_append, List.sum_append, hsum]
      rfl
  obtain ⟨kp, ys, hy, hl, hsum⟩ := p
  refine ⟨_, D, ys, rfl, rfl, .inl (SqL.of hy), ?_, ?_⟩
  · rw [hsum, hl]
    have : (PySem.Str.ofString "").length = 0 := by decide +kernel
    rw [this]
    omega
  -- the exceptions made
  generalize Txt.join _ ys = txt
  refine ⟨.str txt, rfl, txt, rfl, fun H4 L as s4 nL hL hx => ?_⟩
  have hlen : as.length = 17 := by rw [hx.length]; rfl
  have kp4 := kp.same s4
  refine ⟨.ref L, rfl, L, as.map V.ref, rfl, SqL.of hL, for_enum (xs := as.map V.ref) (fun i σ H' => Same H4 H' ∧ ∃ v3 v5 v6, σ = [some (.ref a), some (.ref t), some (.str txt), v3, some (.ref L), v5, v6, none]) ⟨Same.refl _, none, none, none, rfl⟩ (fun i σ H' _ p => p.1.seq (SqL.of hL)) (fun i x U σ H' hxi p nU => ?_) (fun σ H' p => ?_)⟩
  · obtain ⟨s5, v3, v5, v6, rfl⟩ := p
    obtain ⟨b, hb, rfl⟩ : ∃ b, as[i]? = some b ∧ x = V.ref b := by
      rw [List.getElem?_map] at hxi
      cases e : as[i]? with
      | none => rw [e] at hxi; cases hxi
      | some b => rw [e] at hxi; exact ⟨b, rfl, (Option.some.inj hxi).symm⟩
    have hi : i < 17 := hlen ▸ (List.getElem?_eq_some_iff.mp hb).1
    obtain ⟨D', hD', hE⟩ := hx.get hb
    have eD : D' = C i := by
      rw [List.getElem?_map, List.getElem?_range hi] at hD'
      exact (Option.some.inj hD').symm
    rw [eD] at hE
    have s6 := s5.trans (same_upd (o := .tup [V.int (i : Nat), V.ref b]) nU)
    have hE6 := hE.same s6
    obtain ⟨nm, Fi⟩ := T.fs i hi
    have kT : PySem.W.kitOne K (.ref (C i)) (.ref (C 17)) = some true := by
      rw [kit_own Fi T.TableError.i T.TableError.t, decide_eq_true (p := C 17 = C 17) rfl, Bool.or_true]
    refine ⟨U, [.int (i : Nat), .ref b], rfl, SqT.of upd_same, rfl, .int (i : Nat), [.ref b], rfl, .ref b, [], rfl, rfl, ?_⟩
    refine ⟨.ref b, rfl, b, C i, _, _, true, rfl, .own _, hE6, Fi.c, kT, true, rfl, ?_⟩
    refine ⟨.ref b, rfl, b, C i, _, _, true, rfl, .ty _, hE6, Fi.c, kit_VE Fi, true, rfl, ?_⟩
    refine ⟨.ref b, rfl, b, i, rfl, hi, hE6, fun H7 p7 s7 np7 hp7 => ⟨17, rfl, by decide, by decide, fun D2 nD2 => ?_⟩⟩
    refine lc_range (n := 17) (fun m H' => Same H7 H' ∧ H' D2 = some (.lst (((List.range m).map fun j => decide (j = i)).map V.bl))) ⟨same_upd nD2, upd_same⟩ (fun m H' hm p => ?_) (fun H' p => ?_)
    · refine ⟨rfl, .int (0 + (m : Int)), rfl, .int (i : Nat), rfl, rfl, _, p.2, ?_, fun b o e => ?_, ?_⟩
      · rw [List.length_map, List.length_map, List.length_range]
        exact Nat.lt_of_lt_of_le hm (by decide)
      · rw [upd_ne (ne_of_none e nD2)]
        exact p.1 b o e
      · rw [upd_same, dec_eq, List.range_succ, List.map_append, List.map_append]
        rfl
    · refine ⟨.list (((List.range 17).map fun j => decide (j = i)).map PyData.bool), .list (((List.range 17).map fun j => decide (j = i)).map PyData.bool), .lst (SqL.of (p.1 _ _ hp7)) ?_, .lst (SqL.of p.2) ?_, shaped_bls _, shaped_bls _, _, rfl, ?_⟩
      · exact dp_bls ((List.range 17).map fun j => decide (j = i))
      · exact dp_bls ((List.range 17).map fun j => decide (j = i))
      · rw [SeqAt.eqv_refl _ (SeqAt.canLay_of_shaped (shaped_bls _))]
        exact ⟨(s6.trans s7).trans p.1, _, _, _, rfl⟩
  · obtain ⟨s5, v3, v5, v6, rfl⟩ := p
    have kp5 := kp4.same s5
    -- sums that are none
    refine ⟨Nat.zero_le _, fun p1 n1 => ⟨(by show 1 ≤ sizeLine; decide), fun p2 n2 => ⟨1, rfl, (by show 1 ≤ sizeLine; decide), fun p3 n3 => ⟨.str txt, rfl, (by show 5 ≤ sizeLine; decide), fun p4 n4 => ?_⟩⟩⟩⟩
    have k1 := same_upd (o := .lst []) n1
    have k2 := same_upd (o := .lst [V.bl true]) n2
    have k3 := same_upd (o := .lst [V.int (-1)]) n3
    have k4 := same_upd (o := .lst [V.ref p1, .non, .ref p2, .ref p3, .str txt]) n4
    have kA := (((kp5.same k1).same k2).same k3).same k4
    obtain ⟨m, hm⟩ := kA.2
    refine ⟨.ref t, rfl, t, m, 5, rfl, hm, by decide, by decide, fun d5 n5 e0 e1 => ?_⟩
    have tp5 : Tp H' t := kp5.2
    have nt_ : ∀ b, H' b = none → b ≠ t := fun b hb z => by
      obtain ⟨mm, hmm⟩ := tp5
      rw [z, hmm] at hb
      cases hb
    have hn2 := k1.free n2
    have hn3 := (k1.trans k2).free n3
    have hn4 := ((k1.trans k2).trans k3).free n4
    have g1 : (upd (upd (upd (upd (upd H' p1 (.lst [])) p2 (.lst [V.bl true])) p3 (.lst [V.int (-1)])) p4 (.lst [V.ref p1, .non, .ref p2, .ref p3, .str txt])) t (.lst [.int n5])) p1 = some (.lst []) := by
      rw [upd_ne (nt_ _ n1)]
      exact k4 _ _ (k3 _ _ (k2 _ _ upd_same))
    have g2 : (upd (upd (upd (upd (upd H' p1 (.lst [])) p2 (.lst [V.bl true])) p3 (.lst [V.int (-1)])) p4 (.lst [V.ref p1, .non, .ref p2, .ref p3, .str txt])) t (.lst [.int n5])) p2 = some (.lst [V.bl true]) := by
      rw [upd_ne (nt_ _ hn2)]
      exact k4 _ _ (k3 _ _ upd_same)
    have g3 : (upd (upd (upd (upd (upd H' p1 (.lst [])) p2 (.lst [V.bl true])) p3 (.lst [V.int (-1)])) p4 (.lst [V.ref p1, .non, .ref p2, .ref p3, .str txt])) t (.lst [.int n5])) p3 = some (.lst [V.int (-1)]) := by
      rw [upd_ne (nt_ _ hn3)]
      exact k4 _ _ upd_same
    have g4 : (upd (upd (upd (upd (upd H' p1 (.lst [])) p2 (.lst [V.bl true])) p3 (.lst [V.int (-1)])) p4 (.lst [V.ref p1, .non, .ref p2, .ref p3, .str txt])) t (.lst [.int n5])) p4 = some (.lst [V.ref p1, .non, .ref p2, .ref p3, .str txt]) := by
      rw [upd_ne (nt_ _ hn4)]
      exact upd_same
    obtain ⟨v, dd, ev, Rv, hbad⟩ : ∃ (v : V) (dd : Dt), ([V.ref p1, .non, .ref p2, .ref p3, .str txt] : List V)[d5.toNat]? = some v ∧ Rp K (upd (upd (upd (upd (upd H' p1 (.lst [])) p2 (.lst [V.bl true])) p3 (.lst [V.int (-1)])) p4 (.lst [V.ref p1, .non, .ref p2, .ref p3, .str txt])) t (.lst [.int n5])) v dd ∧ areCounts dd = false := by
      have hj : d5.toNat < 5 := by omega
      generalize d5.toNat = j at hj
      match j, hj with
      | 0, _ => exact ⟨_, .lst [], rfl, .lst (SqL.of g1) .nil, rfl⟩
      | 1, _ => exact ⟨_, .non, rfl, .non, rfl⟩
      | 2, _ => exact ⟨_, .lst [.bl true], rfl, .lst (SqL.of g2) (.cons (.bl true) .nil), rfl⟩
      | 3, _ => exact ⟨_, .lst [.int (-1)], rfl, .lst (SqL.of g3) (.cons (.int (-1)) .nil), rfl⟩
      | 4, _ => exact ⟨_, .str txt, rfl, .str txt, rfl⟩
    refine ⟨p4, _, d5, v, rfl, rfl, SqL.of g4, at_of (z := d5) (j := d5.toNat) (by omega) ev, ?_⟩
    exact ⟨.str txt, rfl, txt, rfl, fun H8 s8 => ⟨true, rfl, .str txt, rfl, txt, rfl, fun H9 s9 => ⟨true, rfl, v, rfl, v, dd, rfl, Rv.same (s8.trans s9), hbad, fun H10 => q H10⟩⟩⟩
end
end Kp17
set_option Elab.async false
set_option linter.all false
set_option maxRecDepth 100000
set_option maxHeartbeats 4000000
namespace Kp17
open PySem PySem.Spec PyProof.Rows L2 Vf
/-! ### what the top has written -/
structure ExcK (K : PySem.W.Frag) (nm : Str) (C TE : Addr) : Prop where
  g : PySem.W.nsIn K mainGlobals nm = some (some (.ref C))
  x : PySem.W.excIn K C veMro "ValueError.__new__" = true
  k : PySem.W.keepIn K (.ref C) = true
  t : PySem.W.typeIn K (.ref C) = some (.type "type")
  hg : PySem.W.findIn K (.ref C) "__getattribute__" = some (some (.builtin "BaseException.__getattribute__"))
  hk : PySem.W.findIn K (.ref C) "__getattr__" = some none
  hs : PySem.W.subIn K (.ref C) (.type "BaseException") = some true
  hd : PySem.W.hasDictIn K C = true
  ha : PySem.W.findIn K (.ref C) "__class__" = some (some (.builtin "object.__class__"))
  hm : PySem.W.mroIn K C (.type "object") = some true
  m : ∃ cd, PySem.W.clsIn K C = some cd ∧ cd.mro = .ref C :: .ref TE :: veMro
theorem ExcK.f {K : PySem.W.Frag} {nm : Str} {C TE : Addr} {h : Heap} {mg : Str → Option Value} (E : ExcK K nm C TE) (X : K.In h) (G : h.Ns mainGlobals mg) (hn : PySem.W.specialIn K (.builtin "object.__class__") "__get__" = some (some (.builtin "getset_descriptor.__get__")))
    (ht : PySem.W.takesIn K (.builtin "object.__class__") = some true) : ExcF K mg nm C TE := ⟨PySem.W.mg_of X G E.g, E.x, E.k, E.t, ⟨E.hg, E.hk, E.hs, E.hd, E.ha, hn, ht, E.hm⟩, E.m⟩
theorem inj_nodup {l : List Addr} {n : Nat} (h : l.Nodup) (e : l.length = n) : ∀ i j, i < n → j < n → l.getD i 0 = l.getD j 0 → i = j := fun i j hi hj z => by
  subst e
  rw [List.getD_eq_getElem?_getD, List.getD_eq_getElem?_getD, List.getElem?_eq_getElem hi, List.getElem?_eq_getElem hj] at z
  exact (List.getElem_inj h).mp z
theorem all_mk {l : PySem.W.OpenLaw} {w : World} {K : PySem.W.Frag} {h : Heap} {mg : Str → Option Value} {fa CF fI T0 : Addr} {q0 q1 q2 q3 q4 q5 q6 q7 q8 q9 q10 q11 q12 q13 q14 q15 q16 q17 : Addr} (X : K.In h) (G : h.Ns mainGlobals mg) (hfa : mg "law" = some (.ref fa)) (hG : ∃ t, mg "GREATEST" = some (.int 1000000000000 t)) {tL : Tok}
    {od0 an0 : Option Addr} {sl0 : Array (Option Value)} {oc0 kV0 dc0 pm0 cd0 ct0 : Value} {f0 : Addr}
    {od1 an1 : Option Addr} {sl1 : Array (Option Value)} {oc1 kV1 dc1 pm1 cd1 ct1 : Value} {f1 : Addr}
    {od2 an2 : Option Addr} {sl2 : Array (Option Value)} {oc2 kV2 dc2 pm2 cd2 ct2 : Value} {f2 : Addr}
    {od3 an3 : Option Addr} {sl3 : Array (Option Value)} {oc3 kV3 dc3 pm3 cd3 ct3 : Value} {f3 : Addr}
    {od4 an4 : Option Addr} {sl4 : Array (Option Value)} {oc4 kV4 dc4 pm4 cd4 ct4 : Value} {f4 : Addr}
    {od5 an5 : Option Addr} {sl5 : Array (Option Value)} {oc5 kV5 dc5 pm5 cd5 ct5 : Value} {f5 : Addr}
    {od6 an6 : Option Addr} {sl6 : Array (Option Value)} {oc6 kV6 dc6 pm6 cd6 ct6 : Value} {f6 : Addr}
    {od7 an7 : Option Addr} {sl7 : Array (Option Value)} {oc7 kV7 dc7 pm7 cd7 ct7 : Value} {f7 : Addr}
    {od8 an8 : Option Addr} {sl8 : Array (Option Value)} {oc8 kV8 dc8 pm8 cd8 ct8 : Value} {f8 : Addr}
    {od9 an9 : Option Addr} {sl9 : Array (Option Value)} {oc9 kV9 dc9 pm9 cd9 ct9 : Value} {f9 : Addr}
    {od10 an10 : Option Addr} {sl10 : Array (Option Value)} {oc10 kV10 dc10 pm10 cd10 ct10 : Value} {f10 : Addr}
    {od11 an11 : Option Addr} {sl11 : Array (Option Value)} {oc11 kV11 dc11 pm11 cd11 ct11 : Value} {f11 : Addr}
    {od12 an12 : Option Addr} {sl12 : Array (Option Value)} {oc12 kV12 dc12 pm12 cd12 ct12 : Value} {f12 : Addr}
    {od13 an13 : Option Addr} {sl13 : Array (Option Value)} {oc13 kV13 dc13 pm13 cd13 ct13 : Value} {f13 : Addr}
    {od14 an14 : Option Addr} {sl14 : Array (Option Value)} {oc14 kV14 dc14 pm14 cd14 ct14 : Value} {f14 : Addr}
    {od15 an15 : Option Addr} {sl15 : Array (Option Value)} {oc15 kV15 dc15 pm15 cd15 ct15 : Value} {f15 : Addr}
    {odI anI : Option Addr} {slI : Array (Option Value)} {ocI kVI dcI pmI cdI ctI : Value} {n0 : Nat} {o0 : Obj}
    (a0 : PySem.W.nsIn K mainGlobals "is_whole" = some (some (.ref f0))) (l0 : K.lookup f0 = some ⟨oc0, od0, .func (PySem.W.fnOf "is_whole" "is_whole" (defArgs s_is_whole) (defBody s_is_whole) (defScope s_is_whole) .none kV0 dc0 pm0 an0 cd0 ct0), sl0⟩) (c0 : PySem.W.codeIn K cd0 "is_whole" = true) (k0 : PySem.W.keepIn K (.ref f0) = true)
    (a1 : PySem.W.nsIn K mainGlobals "is_count" = some (some (.ref f1))) (l1 : K.lookup f1 = some ⟨oc1, od1, .func (PySem.W.fnOf "is_count" "is_count" (defArgs s_is_count) (defBody s_is_count) (defScope s_is_count) .none kV1 dc1 pm1 an1 cd1 ct1), sl1⟩) (c1 : PySem.W.codeIn K cd1 "is_count" = true) (k1 : PySem.W.keepIn K (.ref f1) = true)
    (a2 : PySem.W.nsIn K mainGlobals "is_list" = some (some (.ref f2))) (l2 : K.lookup f2 = some ⟨oc2, od2, .func (PySem.W.fnOf "is_list" "is_list" (defArgs s_is_list) (defBody s_is_list) (defScope s_is_list) .none kV2 dc2 pm2 an2 cd2 ct2), sl2⟩) (c2 : PySem.W.codeIn K cd2 "is_list" = true) (k2 : PySem.W.keepIn K (.ref f2) = true)
    (a3 : PySem.W.nsIn K mainGlobals "is_short_list" = some (some (.ref f3))) (l3 : K.lookup f3 = some ⟨oc3, od3, .func (PySem.W.fnOf "is_short_list" "is_short_list" (defArgs s_is_short_list) (defBody s_is_short_list) (defScope s_is_short_list) .none kV3 dc3 pm3 an3 cd3 ct3), sl3⟩) (c3 : PySem.W.codeIn K cd3 "is_short_list" = true) (k3 : PySem.W.keepIn K (.ref f3) = true)
    (a4 : PySem.W.nsIn K mainGlobals "are_counts" = some (some (.ref f4))) (l4 : K.lookup f4 = some ⟨oc4, od4, .func (PySem.W.fnOf "are_counts" "are_counts" (defArgs s_are_counts) (defBody s_are_counts) (defScope s_are_counts) .none kV4 dc4 pm4 an4 cd4 ct4), sl4⟩) (c4 : PySem.W.codeIn K cd4 "are_counts" = true) (k4 : PySem.W.keepIn K (.ref f4) = true)
    (a5 : PySem.W.nsIn K mainGlobals "wanted_sums" = some (some (.ref f5))) (l5 : K.lookup f5 = some ⟨oc5, od5, .func (PySem.W.fnOf "wanted_sums" "wanted_sums" (defArgs s_wanted_sums) (defBody s_wanted_sums) (defScope s_wanted_sums) .none kV5 dc5 pm5 an5 cd5 ct5), sl5⟩) (c5 : PySem.W.codeIn K cd5 "wanted_sums" = true) (k5 : PySem.W.keepIn K (.ref f5) = true)
    (a6 : PySem.W.nsIn K mainGlobals "_law_cell_at" = some (some (.ref f6))) (l6 : K.lookup f6 = some ⟨oc6, od6, .func (PySem.W.fnOf "_law_cell_at" "_law_cell_at" (defArgs s_l_cell_at) (defBody s_l_cell_at) (defScope s_l_cell_at) .none kV6 dc6 pm6 an6 cd6 ct6), sl6⟩) (c6 : PySem.W.codeIn K cd6 "_law_cell_at" = true) (k6 : PySem.W.keepIn K (.ref f6) = true)
    (a7 : PySem.W.nsIn K mainGlobals "_law_tape" = some (some (.ref f7))) (l7 : K.lookup f7 = some ⟨oc7, od7, .func (PySem.W.fnOf "_law_tape" "_law_tape" (defArgs s_l_tape) (defBody s_l_tape) (defScope s_l_tape) .none kV7 dc7 pm7 an7 cd7 ct7), sl7⟩) (c7 : PySem.W.codeIn K cd7 "_law_tape" = true) (k7 : PySem.W.keepIn K (.ref f7) = true)
    (a8 : PySem.W.nsIn K mainGlobals "_law_digit" = some (some (.ref f8))) (l8 : K.lookup f8 = some ⟨oc8, od8, .func (PySem.W.fnOf "_law_digit" "_law_digit" (defArgs s_l_digit) (defBody s_l_digit) (defScope s_l_digit) .none kV8 dc8 pm8 an8 cd8 ct8), sl8⟩) (c8 : PySem.W.codeIn K cd8 "_law_digit" = true) (k8 : PySem.W.keepIn K (.ref f8) = true)
    (a9 : PySem.W.nsIn K mainGlobals "_law_firsts" = some (some (.ref f9))) (l9 : K.lookup f9 = some ⟨oc9, od9, .func (PySem.W.fnOf "_law_firsts" "_law_firsts" (defArgs s_l_firsts) (defBody s_l_firsts) (defScope s_l_firsts) .none kV9 dc9 pm9 an9 cd9 ct9), sl9⟩) (c9 : PySem.W.codeIn K cd9 "_law_firsts" = true) (k9 : PySem.W.keepIn K (.ref f9) = true)
    (a10 : PySem.W.nsIn K mainGlobals "_law_sorts" = some (some (.ref f10))) (l10 : K.lookup f10 = some ⟨oc10, od10, .func (PySem.W.fnOf "_law_sorts" "_law_sorts" (defArgs s_l_sorts) (defBody s_l_sorts) (defScope s_l_sorts) .none kV10 dc10 pm10 an10 cd10 ct10), sl10⟩) (c10 : PySem.W.codeIn K cd10 "_law_sorts" = true) (k10 : PySem.W.keepIn K (.ref f10) = true)
    (a11 : PySem.W.nsIn K mainGlobals "_law_made" = some (some (.ref f11))) (l11 : K.lookup f11 = some ⟨oc11, od11, .func (PySem.W.fnOf "_law_made" "_law_made" (defArgs s_l_made) (defBody s_l_made) (defScope s_l_made) .none kV11 dc11 pm11 an11 cd11 ct11), sl11⟩) (c11 : PySem.W.codeIn K cd11 "_law_made" = true) (k11 : PySem.W.keepIn K (.ref f11) = true)
    (a12 : PySem.W.nsIn K mainGlobals "_law_caught" = some (some (.ref f12))) (l12 : K.lookup f12 = some ⟨oc12, od12, .func (PySem.W.fnOf "_law_caught" "_law_caught" (defArgs s_l_caught) (defBody s_l_caught) (defScope s_l_caught) .none kV12 dc12 pm12 an12 cd12 ct12), sl12⟩) (c12 : PySem.W.codeIn K cd12 "_law_caught" = true) (k12 : PySem.W.keepIn K (.ref f12) = true)
    (a13 : PySem.W.nsIn K mainGlobals "_law_own" = some (some (.ref f13))) (l13 : K.lookup f13 = some ⟨oc13, od13, .func (PySem.W.fnOf "_law_own" "_law_own" (defArgs s_l_own) (defBody s_l_own) (defScope s_l_own) .none kV13 dc13 pm13 an13 cd13 ct13), sl13⟩) (c13 : PySem.W.codeIn K cd13 "_law_own" = true) (k13 : PySem.W.keepIn K (.ref f13) = true)
    (a14 : PySem.W.nsIn K mainGlobals "_law_framed" = some (some (.ref f14))) (l14 : K.lookup f14 = some ⟨oc14, od14, .func (PySem.W.fnOf "_law_framed" "_law_framed" (defArgs s_l_framed) (defBody s_l_framed) (defScope s_l_framed) .none kV14 dc14 pm14 an14 cd14 ct14), sl14⟩) (c14 : PySem.W.codeIn K cd14 "_law_framed" = true) (k14 : PySem.W.keepIn K (.ref f14) = true)
    (a15 : PySem.W.nsIn K mainGlobals "law" = some (some (.ref f15))) (l15 : K.lookup f15 = some ⟨oc15, od15, .func (PySem.W.fnOf "law" "law" (defArgs s_law) (defBody s_law) (defScope s_law) .none kV15 dc15 pm15 an15 cd15 ct15), sl15⟩) (c15 : PySem.W.codeIn K cd15 "law" = true) (k15 : PySem.W.keepIn K (.ref f15) = true)
    (aF : PySem.W.nsIn K mainGlobals "Frame" = some (some (.ref CF))) (mk : PySem.W.makesIn K CF = true) (aI : PySem.W.findIn K (.ref CF) "__init__" = some (some (.ref fI))) (iI : PySem.W.isFn K (.ref fI) = true) (kF : PySem.W.keepIn K (.ref CF) = true)
    (lI : K.lookup fI = some ⟨ocI, odI, .func (PySem.W.fnOf "__init__" "Frame.__init__" (defArgs s_Frame_init) (defBody s_Frame_init) (defScope s_Frame_init) (.ref T0) kVI dcI pmI anI cdI ctI), slI⟩) (cI : PySem.W.codeIn K cdI "Frame.__init__" = true) (kI : PySem.W.keepIn K (.ref fI) = true)
    (lT : K.lookup T0 = some o0) (dT : o0.data = .seq ([Value.none] : List Value).toArray n0)
    (bt : PySem.W.nsIn K mainGlobals "TableError" = some (some (.ref q17))) (tt : PySem.W.typeIn K (.ref q17) = some (.type "type")) (ti : PySem.W.isClsIn K q17 = true) (tb : PySem.W.subIn K (.ref q17) (.type "BaseException") = some true)
    (e0 : ExcK K "NoSums" q0 q17)
    (e1 : ExcK K "NoCaps" q1 q17)
    (e2 : ExcK K "NoTable" q2 q17)
    (e3 : ExcK K "NoOrder" q3 q17)
    (e4 : ExcK K "NoColumns" q4 q17)
    (e5 : ExcK K "NoText" q5 q17)
    (e6 : ExcK K "TooMany" q6 q17)
    (e7 : ExcK K "NoNumber" q7 q17)
    (e8 : ExcK K "NoStep" q8 q17)
    (e9 : ExcK K "Bounded" q9 q17)
    (e10 : ExcK K "NoCell" q10 q17)
    (e11 : ExcK K "NoKind" q11 q17)
    (e12 : ExcK K "NoScores" q12 q17)
    (e13 : ExcK K "NoWhole" q13 q17)
    (e14 : ExcK K "NoCube" q14 q17)
    (e15 : ExcK K "NoFaces" q15 q17)
    (e16 : ExcK K "NoLine" q16 q17)
    (hn : PySem.W.specialIn K (.builtin "object.__class__") "__get__" = some (some (.builtin "getset_descriptor.__get__"))) (ht : PySem.W.takesIn K (.builtin "object.__class__") = some true)
    (nd : [q0, q1, q2, q3, q4, q5, q6, q7, q8, q9, q10, q11, q12, q13, q14, q15, q16, q17].Nodup) (gL : PySem.W.nsIn K mainGlobals "LONGEST" = some (some (.int 6 tL)))
    (z0 : PySem.W.nsIn K mainGlobals "isinstance" = some none) (z1 : PySem.W.nsIn K mainGlobals "len" = some none) (z2 : PySem.W.nsIn K mainGlobals "all" = some none) (z3 : PySem.W.nsIn K mainGlobals "range" = some none) (z4 : PySem.W.nsIn K mainGlobals "enumerate" = some none) (z5 : PySem.W.nsIn K mainGlobals "int" = some none) (z6 : PySem.W.nsIn K mainGlobals "bool" = some none) (z7 : PySem.W.nsIn K mainGlobals "list" = some none) (z8 : PySem.W.nsIn K mainGlobals "tuple" = some none) (z9 : PySem.W.nsIn K mainGlobals "ValueError" = some none) :
    ∃ fd : FuncData, (∀ (s : Shared) (v : Value), BindsTo s fd ⟨[v], []⟩ [("_law_script", v)]) ∧ ∀ base : Heap, K.In base → base.Ns mainGlobals mg → FnOk l.prog w K mg base CX0 8 fa fd ["_law_script"] (sp_law K) := by
  cases hfa.symm.trans (PySem.W.mg_of X G a15)
  obtain ⟨tG, hG⟩ := hG
  have T : Txt K mg (fun i => [q0, q1, q2, q3, q4, q5, q6, q7, q8, q9, q10, q11, q12, q13, q14, q15, q16, q17].getD i 0) tG tL := ⟨inj_nodup nd rfl, hG, PySem.W.mg_of X G gL, PySem.W.mg_none_of X G z0, PySem.W.mg_none_of X G z1, PySem.W.mg_none_of X G z2, PySem.W.mg_none_of X G z3, PySem.W.mg_none_of X G z4, PySem.W.mg_none_of X G z5, PySem.W.mg_none_of X G z6, PySem.W.mg_none_of X G z7, PySem.W.mg_none_of X G z8, PySem.W.mg_none_of X G z9, ⟨PySem.W.mg_of X G bt, tt, ti, tb⟩, e0.f X G hn ht, e1.f X G hn ht, e2.f X G hn ht, e3.f X G hn ht, e4.f X G hn ht, e5.f X G hn ht, e6.f X G hn ht, e7.f X G hn ht, e8.f X G hn ht, e9.f X G hn ht, e10.f X G hn ht, e11.f X G hn ht, e12.f X G hn ht, e13.f X G hn ht, e14.f X G hn ht, e15.f X G hn ht, e16.f X G hn ht⟩
  have F0 := fun_mk (st := s_is_whole) l0 c0 k0
  have b0 := F0.binds (ps := ["thing"]) fun _ _ _ _ _ _ us hl => match us, hl with | [_], _ => rfl
  have F1 := fun_mk (st := s_is_count) l1 c1 k1
  have b1 := F1.binds (ps := ["thing"]) fun _ _ _ _ _ _ us hl => match us, hl with | [_], _ => rfl
  have F2 := fun_mk (st := s_is_list) l2 c2 k2
  have b2 := F2.binds (ps := ["thing"]) fun _ _ _ _ _ _ us hl => match us, hl with | [_], _ => rfl
  have F3 := fun_mk (st := s_is_short_list) l3 c3 k3
  have b3 := F3.binds (ps := ["thing"]) fun _ _ _ _ _ _ us hl => match us, hl with | [_], _ => rfl
  have F4 := fun_mk (st := s_are_counts) l4 c4 k4
  have b4 := F4.binds (ps := ["thing"]) fun _ _ _ _ _ _ us hl => match us, hl with | [_], _ => rfl
  have F5 := fun_mk (st := s_wanted_sums) l5 c5 k5
  have b5 := F5.binds (ps := ["thing"]) fun _ _ _ _ _ _ us hl => match us, hl with | [_], _ => rfl
  have F6 := fun_mk (st := s_l_cell_at) l6 c6 k6
  have b6 := F6.binds (ps := ["_law_script", "_law_k"]) fun _ _ _ _ _ _ us hl => match us, hl with | [_, _], _ => rfl
  have F7 := fun_mk (st := s_l_tape) l7 c7 k7
  have b7 := F7.binds (ps := ["_law_cell"]) fun _ _ _ _ _ _ us hl => match us, hl with | [_], _ => rfl
  have F8 := fun_mk (st := s_l_digit) l8 c8 k8
  have b8 := F8.binds (ps := ["_law_tape_here", "_law_size"]) fun _ _ _ _ _ _ us hl => match us, hl with | [_, _], _ => rfl
  have F9 := fun_mk (st := s_l_firsts) l9 c9 k9
  have b9 := F9.binds (ps := ["_law_e"]) fun _ _ _ _ _ _ us hl => match us, hl with | [_], _ => rfl
  have F10 := fun_mk (st := s_l_sorts) l10 c10 k10
  have b10 := F10.binds (ps := ["_law_e"]) fun _ _ _ _ _ _ us hl => match us, hl with | [_], _ => rfl
  have F11 := fun_mk (st := s_l_made) l11 c11 k11
  have b11 := F11.binds (ps := ["_law_text"]) fun _ _ _ _ _ _ us hl => match us, hl with | [_], _ => rfl
  have F12 := fun_mk (st := s_l_caught) l12 c12 k12
  have b12 := F12.binds (ps := ["_law_text"]) fun _ _ _ _ _ _ us hl => match us, hl with | [_], _ => rfl
  have F13 := fun_mk (st := s_l_own) l13 c13 k13
  have b13 := F13.binds (ps := ["_law_text"]) fun _ _ _ _ _ _ us hl => match us, hl with | [_], _ => rfl
  have F14 := fun_mk (st := s_l_framed) l14 c14 k14
  have b14 := F14.binds (ps := ["_law_bad"]) fun _ _ _ _ _ _ us hl => match us, hl with | [_], _ => rfl
  have F15 := fun_mk (st := s_law) l15 c15 k15
  have FI : FunD K "__init__" "Frame.__init__" (defArgs s_Frame_init) (defBody s_Frame_init) (defScope s_Frame_init) [V.non] [] fI (PySem.W.fnOf "__init__" "Frame.__init__" (defArgs s_Frame_init) (defBody s_Frame_init) (defScope s_Frame_init) (.ref T0) kVI dcI pmI anI cdI ctI) :=
    ⟨⟨ocI, odI, .ref T0, kVI, dcI, pmI, anI, cdI, ctI, slI, rfl, lI, cI, .inr ⟨by simp, T0, _, [.none], n0, rfl, lT, dT, .cons rfl .nil⟩, .inl rfl⟩, kI⟩
  obtain ⟨ds, vI, bI⟩ := FI.binds1 (ps := ["self", "rows", "columns", "caps"]) 3 0 (by simp) rfl fun T kV doc pm an cdv ct us its h1 h2 => match us, its, h1, h2 with | [_, _, _], [_], _, _ => ⟨_, rfl, rfl⟩
  refine ⟨PySem.W.fnOf "law" "law" (defArgs s_law) (defBody s_law) (defScope s_law) .none kV15 dc15 pm15 an15 cd15 ct15, fun s v => .of_eq rfl, fun base _ _ => ?_⟩
  have c_is_whole : Cal l.prog w K mg base CX0 1 "is_whole" ["thing"] (sp_is_whole K) := ⟨_, _, PySem.W.mg_of X G a0, k0, b0, ok_is_whole F0 T⟩
  have c_is_count : Cal l.prog w K mg base CX0 2 "is_count" ["thing"] (sp_is_count K) := ⟨_, _, PySem.W.mg_of X G a1, k1, b1, ok_is_count F1 T c_is_whole⟩
  have c_is_list : Cal l.prog w K mg base CX0 1 "is_list" ["thing"] (sp_is_list K) := ⟨_, _, PySem.W.mg_of X G a2, k2, b2, ok_is_list F2 T⟩
  have c_is_short_list : Cal l.prog w K mg base CX0 2 "is_short_list" ["thing"] (sp_is_short_list K) := ⟨_, _, PySem.W.mg_of X G a3, k3, b3, ok_is_short_list F3 T c_is_list⟩
  have c_are_counts : Cal l.prog w K mg base CX0 3 "are_counts" ["thing"] (sp_are_counts K) := ⟨_, _, PySem.W.mg_of X G a4, k4, b4, ok_are_counts F4 T c_is_short_list c_is_count⟩
  have c_wanted_sums : Cal l.prog w K mg base (L2.CX l.prog w) 4 "wanted_sums" ["thing"] (sp_wanted_sums K q0) := ⟨_, _, PySem.W.mg_of X G a5, k5, b5, ok_wanted_sums F5 T c_are_counts⟩
  have c_l_cell_at : Cal l.prog w K mg base CX0 1 "_law_cell_at" ["_law_script", "_law_k"] (sp_cell_at K) := ⟨_, _, PySem.W.mg_of X G a6, k6, b6, ok_cell_at F6 T⟩
  have c_l_tape : Cal l.prog w K mg base CX0 1 "_law_tape" ["_law_cell"] sp_tape := ⟨_, _, PySem.W.mg_of X G a7, k7, b7, ok_tape F7 T⟩
  have c_l_digit : Cal l.prog w K mg base CX0 1 "_law_digit" ["_law_tape_here", "_law_size"] sp_digit := ⟨_, _, PySem.W.mg_of X G a8, k8, b8, ok_digit F8 T⟩
  have c_l_firsts : CalA l.prog w K mg base 1 "_law_firsts" ["_law_e"] (sp_firsts (fun i => [q0, q1, q2, q3, q4, q5, q6, q7, q8, q9, q10, q11, q12, q13, q14, q15, q16, q17].getD i 0)) := ⟨_, _, PySem.W.mg_of X G a9, k9, b9, ok_firsts F9 T⟩
  have c_l_sorts : CalA l.prog w K mg base 2 "_law_sorts" ["_law_e"] (sp_sorts (fun i => [q0, q1, q2, q3, q4, q5, q6, q7, q8, q9, q10, q11, q12, q13, q14, q15, q16, q17].getD i 0)) := ⟨_, _, PySem.W.mg_of X G a10, k10, b10, ok_sorts F10 T c_l_firsts⟩
  have c_l_made : Cal l.prog w K mg base CX0 1 "_law_made" ["_law_text"] (sp_made (fun i => [q0, q1, q2, q3, q4, q5, q6, q7, q8, q9, q10, q11, q12, q13, q14, q15, q16, q17].getD i 0)) := ⟨_, _, PySem.W.mg_of X G a11, k11, b11, ok_made F11 T⟩
  have c_l_caught : Cal l.prog w K mg base CX0 1 "_law_caught" ["_law_text"] sp_text1 := ⟨_, _, PySem.W.mg_of X G a12, k12, b12, ok_caught F12 T⟩
  have c_l_own : Cal l.prog w K mg base CX0 1 "_law_own" ["_law_text"] sp_text1 := ⟨_, _, PySem.W.mg_of X G a13, k13, b13, ok_own F13 T⟩
  have GI := ok_init (P := l.prog) (w := w) (base := base) FI T c_wanted_sums
  have c_l_framed : Cal l.prog w K mg base CX0 7 "_law_framed" ["_law_bad"] (sp_framed K) := ⟨_, _, PySem.W.mg_of X G a14, k14, b14, ok_framed F14 T ⟨mk, aI, iI, kF⟩ (PySem.W.mg_of X G aF) bI vI GI c_l_sorts⟩
  exact ok_law F15 T c_l_cell_at c_l_tape c_l_digit c_l_made c_l_sorts c_l_caught c_l_own c_l_framed
end Kp17
set_option Elab.async false
open PySem PySem.W PyProof.Rows
set_option maxRecDepth 100000 in
set_option maxHeartbeats 0 in
theorem PySem.Challenge.cw_exacttable_k17_refusals_apart_holds : PySem.Challenge.rw_exacttable_k17_refusals_apart.Holds := by
  w_on; o_law; k_head; (case hw => w_witness2)
  k_fill
  refine Vf.walk_ofG (l := PySem.Challenge.rw_exacttable_k17_refusals_apart) (n := 63) (k := 8) (x := "_law_script") (CX := fun _ => L2.CX0) (sp := fun w => Kp17.sp_law _) rfl (by decide) rfl ⟨rfl, by decide, by decide⟩ (fun w h Y => PySem.W.kIn_of Y) ?F (fun _ _ a ns _ _ _ hS => ⟨a, ns, rfl, hS, fun _ => rfl⟩) (fun _ _ _ _ _ h => h)
  case F =>
    intro w mg fa h KX G LL hmg
    refine' Kp17.all_mk KX G hmg (Vf.loose_int LL (List.mem_cons_self ..)) ?a0 ?l0 ?c0 ?k0 ?a1 ?l1 ?c1 ?k1 ?a2 ?l2 ?c2 ?k2 ?a3 ?l3 ?c3 ?k3 ?a4 ?l4 ?c4 ?k4 ?a5 ?l5 ?c5 ?k5 ?a6 ?l6 ?c6 ?k6 ?a7 ?l7 ?c7 ?k7 ?a8 ?l8 ?c8 ?k8 ?a9 ?l9 ?c9 ?k9 ?a10 ?l10 ?c10 ?k10 ?a11 ?l11 ?c11 ?k11 ?a12 ?l12 ?c12 ?k12 ?a13 ?l13 ?c13 ?k13 ?a14 ?l14 ?c14 ?k14 ?a15 ?l15 ?c15 ?k15 ?aF ?mk ?aI ?iI ?kF ?lI ?cI ?kI ?lT ?dT ?bt ?tt ?ti ?tb ?e0 ?e1 ?e2 ?e3 ?e4 ?e5 ?e6 ?e7 ?e8 ?e9 ?e10 ?e11 ?e12 ?e13 ?e14 ?e15 ?e16 ?hn ?ht ?nd ?gL ?z0 ?z1 ?z2 ?z3 ?z4 ?z5 ?z6 ?z7 ?z8 ?z9
    (case a0 => k_is)
    (case l0 => k_is)
    (case c0 => k_is)
    (case k0 => k_is)
    (case a1 => k_is)
    (case l1 => k_is)
    (case c1 => k_is)
    (case k1 => k_is)
    (case a2 => k_is)
    (case l2 => k_is)
    (case c2 => k_is)
    (case k2 => k_is)
    (case a3 => k_is)
    (case l3 => k_is)
    (case c3 => k_is)
    (case k3 => k_is)
    (case a4 => k_is)
    (case l4 => k_is)
    (case c4 => k_is)
    (case k4 => k_is)
    (case a5 => k_is)
    (case l5 => k_is)
    (case c5 => k_is)
    (case k5 => k_is)
    (case a6 => k_is)
    (case l6 => k_is)
    (case c6 => k_is)
    (case k6 => k_is)
    (case a7 => k_is)
    (case l7 => k_is)
    (case c7 => k_is)
    (case k7 => k_is)
    (case a8 => k_is)
    (case l8 => k_is)
    (case c8 => k_is)
    (case k8 => k_is)
    (case a9 => k_is)
    (case l9 => k_is)
    (case c9 => k_is)
    (case k9 => k_is)
    (case a10 => k_is)
    (case l10 => k_is)
    (case c10 => k_is)
    (case k10 => k_is)
    (case a11 => k_is)
    (case l11 => k_is)
    (case c11 => k_is)
    (case k11 => k_is)
    (case a12 => k_is)
    (case l12 => k_is)
    (case c12 => k_is)
    (case k12 => k_is)
    (case a13 => k_is)
    (case l13 => k_is)
    (case c13 => k_is)
    (case k13 => k_is)
    (case a14 => k_is)
    (case l14 => k_is)
    (case c14 => k_is)
    (case k14 => k_is)
    (case a15 => k_is)
    (case l15 => k_is)
    (case c15 => k_is)
    (case k15 => k_is)
    (case aF => k_is)
    (case mk => k_is)
    (case aI => k_is)
    (case iI => k_is)
    (case kF => k_is)
    (case lI => k_is)
    (case cI => k_is)
    (case kI => k_is)
    (case lT => k_is)
    (case dT => rfl)
    (case bt => k_is)
    (case tt => k_is)
    (case ti => k_is)
    (case tb => k_is)
    (case e0 => constructor; k_is; k_exc; k_is; k_is; k_is; k_is; k_is; k_is; k_is; k_is; exact ⟨_, by k_is, rfl⟩)
    (case e1 => constructor; k_is; k_exc; k_is; k_is; k_is; k_is; k_is; k_is; k_is; k_is; exact ⟨_, by k_is, rfl⟩)
    (case e2 => constructor; k_is; k_exc; k_is; k_is; k_is; k_is; k_is; k_is; k_is; k_is; exact ⟨_, by k_is, rfl⟩)
    (case e3 => constructor; k_is; k_exc; k_is; k_is; k_is; k_is; k_is; k_is; k_is; k_is; exact ⟨_, by k_is, rfl⟩)
    (case e4 => constructor; k_is; k_exc; k_is; k_is; k_is; k_is; k_is; k_is; k_is; k_is; exact ⟨_, by k_is, rfl⟩)
    (case e5 => constructor; k_is; k_exc; k_is; k_is; k_is; k_is; k_is; k_is; k_is; k_is; exact ⟨_, by k_is, rfl⟩)
    (case e6 => constructor; k_is; k_exc; k_is; k_is; k_is; k_is; k_is; k_is; k_is; k_is; exact ⟨_, by k_is, rfl⟩)
    (case e7 => constructor; k_is; k_exc; k_is; k_is; k_is; k_is; k_is; k_is; k_is; k_is; exact ⟨_, by k_is, rfl⟩)
    (case e8 => constructor; k_is; k_exc; k_is; k_is; k_is; k_is; k_is; k_is; k_is; k_is; exact ⟨_, by k_is, rfl⟩)
    (case e9 => constructor; k_is; k_exc; k_is; k_is; k_is; k_is; k_is; k_is; k_is; k_is; exact ⟨_, by k_is, rfl⟩)
    (case e10 => constructor; k_is; k_exc; k_is; k_is; k_is; k_is; k_is; k_is; k_is; k_is; exact ⟨_, by k_is, rfl⟩)
    (case e11 => constructor; k_is; k_exc; k_is; k_is; k_is; k_is; k_is; k_is; k_is; k_is; exact ⟨_, by k_is, rfl⟩)
    (case e12 => constructor; k_is; k_exc; k_is; k_is; k_is; k_is; k_is; k_is; k_is; k_is; exact ⟨_, by k_is, rfl⟩)
    (case e13 => constructor; k_is; k_exc; k_is; k_is; k_is; k_is; k_is; k_is; k_is; k_is; exact ⟨_, by k_is, rfl⟩)
    (case e14 => constructor; k_is; k_exc; k_is; k_is; k_is; k_is; k_is; k_is; k_is; k_is; exact ⟨_, by k_is, rfl⟩)
    (case e15 => constructor; k_is; k_exc; k_is; k_is; k_is; k_is; k_is; k_is; k_is; k_is; exact ⟨_, by k_is, rfl⟩)
    (case e16 => constructor; k_is; k_exc; k_is; k_is; k_is; k_is; k_is; k_is; k_is; k_is; exact ⟨_, by k_is, rfl⟩)
    (case hn => k_is)
    (case ht => k_is)
    (case nd => decide +kernel)
    (case gL => k_is)
    (case z0 => k_is)
    (case z1 => k_is)
    (case z2 => k_is)
    (case z3 => k_is)
    (case z4 => k_is)
    (case z5 => k_is)
    (case z6 => k_is)
    (case z7 => k_is)
    (case z8 => k_is)
    (case z9 => k_is)
