import PyProof.Rows.All
import Wide.All
import OpenK.AllK
import Wide.FinOn
import HandS.ForMost
import HandS.ForExc
import HandS.ExcValue
import HandS.ExcIs
import HandS.IsInst
import HandS.HotCalls
import HandS.RaiseMore
import HandS.Wide
import HandS.EndBits
import HandS.Defaults
import PyProof.ReprRoads
import HandS.TupMul
import HandS.MakeKw
import HandS.Codes
import HandS.Star
import HandS.Zip
import HandS.Rev
import HandS.RevTup
import PyProof.ListStr
import HandS.Conv
import HandS.SortInts
import PyProof.Rows.SortShellAny
import HandS.ExcCtx
import KE.GoesComp
import HandS.Walk
import HandS.TupAny
import HandS.WideBits
import HandS.DictComp
import HandS.Text
import HandS.Steps
import PySem.Challenge.RW_exacttable_k15_texts
set_option Elab.async false
set_option linter.all false
set_option maxRecDepth 100000
set_option maxHeartbeats 4000000
/-! Rules of my own over the hand layer: a caught exception that is tracked; several clauses, with and without a name; defs that may be called while an exception is handled. -/
namespace Vf
open PySem PySem.Spec PyProof.Rows L2

/-! ### an exception object by its class -/
def ExIs (h : Heap) (a : Addr) (cls : Value) : Prop := ∃ (oe : Obj) (vs : Array Value), h.get? a = some oe ∧ Zc cls none oe ∧ oe.data = .fields vs
def ExT (cls : Value) (a : Addr) : HO := .ext fun h => ExIs h a cls
def ExAt (H : Hp) (a D : Addr) : Prop := ∃ φ, H a = some (.ext φ) ∧ ∀ h, φ h → ExIs h a (.ref D)
theorem ExAt.ofT {H : Hp} {a D : Addr} (e : H a = some (ExT (.ref D) a)) : ExAt H a D := ⟨_, e, fun _ q => q⟩
theorem ExAt.ofO {H : Hp} {a D : Addr} (e : H a = some (ExO (.ref D) a)) : ExAt H a D := ⟨_, e, fun _ ⟨oe, vs, q1, q2, q3, _⟩ => ⟨oe, vs, q1, q2, q3⟩⟩
theorem ExAt.same {H H' : Hp} {a D : Addr} (e : ExAt H a D) (s : Same H H') : ExAt H' a D := by
  obtain ⟨φ, q, r⟩ := e
  exact ⟨φ, s _ _ q, r⟩
/-- isinstance of such an object -/
def rIsX (K : PySem.W.Frag) : List V → Hp → VK → Prop := fun xs H Q => ∃ (a D : Addr) (c : V) (cv : Value) (b : Bool), xs = [.ref a, c] ∧ ClsV c cv ∧ ExAt H a D ∧ ExcC K D ∧ PySem.W.kitOne K (.ref D) cv = some b ∧ Q (.bl b) H
theorem call_isX {X : Cx} : CallR X (.builtin "isinstance") (rIsX X.K) := by
  intro pins s σ H xs us Q I r h
  obtain ⟨a, D, c, cv, b, rfl, k, ⟨φ, ha, hφ⟩, C, e, q⟩ := h
  obtain ⟨u1, u2, rfl, r1, r2⟩ := vals2 r
  obtain rfl := k.eq r2
  cases (show u1 = Value.ref a from r1)
  obtain ⟨p, _, _⟩ := I.hok a _ ha
  obtain ⟨⟨oc, od, oda, osl⟩, vs, hg, ⟨z1, z2⟩, hv⟩ := hφ _ p
  dsimp only at z1 z2 hv
  subst z1 z2 hv
  exact PySem.W.kia_one (PySem.W.handS_kitx_exc C.hg C.hk C.hs C.hd C.ha C.hn C.ht C.hm) I.kIn ⟨hg, rfl, rfl, trivial⟩ e (fun z => nomatch z) fun tk => ⟨.bl b, H, I.tok tk, rfl, q⟩

/-! ### a new object that was not tracked is tracked from now on -/
theorem adopt {X : Cx} {pins : List (Addr × Obj)} {σ : L2.St} {H : Hp} {s : Shared} {a : Addr} {cls : Value} (I : Inv X pins σ H s) (he : ExIs s.heap a cls) (na : H a = none) (n0 : X.s_0.heap.get? a = none) (nL : a ≠ X.env.locals) (nP : ∀ p ∈ X.pn ++ pins, p.1 ≠ a) :
    Inv X pins σ (upd H a (ExT cls a)) s := by
  obtain ⟨oe, vs, ha, hz, hd⟩ := id he
  have nC : ∀ x c, X.env.cells.lookup x = some c → c ≠ a := fun x c e z => by
    obtain ⟨v, o, ho, hc⟩ := I.cell x c e
    rw [z, ha] at ho
    cases ho
    rw [hd] at hc
    cases hc
  have nb0 : ∀ b o, X.s_0.heap.get? b = some o → b ≠ a := fun b o e z => by
    rw [z, n0] at e
    cases e
  have nbH : ∀ b o, H b = some o → b ≠ a := fun b o e => ne_of_none e na
  refine ⟨I.ok, I.os, I.bare, ⟨I.base.keep, I.base.slot, fun b o e n hx => ?_, I.base.there, fun b xs e => ?_, fun b o u e => ?_, fun b ps e => ?_⟩, I.loc, I.cell, ?_, fun x c e => ?_, fun p hp => ?_, fun b u e => ?_, I.len⟩
  · rw [upd_ne (nb0 b o e)]
    exact I.base.free b o e n hx
  · have q := I.base.tups b xs e
    rw [upd_ne (nbH _ _ q)]
    exact q
  · have q := I.base.frzs b o u e
    rw [upd_ne (nbH _ _ q)]
    exact q
  · obtain ⟨m, q⟩ := I.base.tbls b ps e
    exact ⟨m, by rw [upd_ne (nbH _ _ q)]; exact q⟩
  · rw [upd_ne nL.symm]
    exact I.free
  · rw [upd_ne (nC x c e)]
    exact I.freeC x c e
  · obtain ⟨e1, e2, e3⟩ := I.pin p hp
    exact ⟨e1, by rw [upd_ne (nP p hp)]; exact e2, e3⟩
  · by_cases hb : b = a
    · subst hb
      rw [upd_same] at e
      cases e
      exact ⟨he, ⟨oe, ha⟩, fun h1 h2 ⟨o1, v1, g1, g2⟩ k => ⟨o1, v1, k _ g1, g2⟩⟩
    · rw [upd_ne hb] at e
      exact (I.hok b u e).stay (fun _ _ _ q => q) (fun c q => by rw [upd_ne (nbH _ _ q)]; exact q) fun c xs q => by rw [upd_ne (nbH _ _ q)]; exact q
theorem toSuite {X : Cx} {pins : List (Addr × Obj)} {σ : L2.St} {H : Hp} {s : Shared} (I : Inv X pins σ H s) (a : Addr) : Inv (X.suite a (X.pn ++ pins)) [] σ H s :=
  ⟨I.ok.suite _ _, I.os, I.bare, I.base, I.loc, I.cell, I.free, I.freeC, fun p hp => I.pin p (by rw [List.append_nil] at hp; exact hp), I.hok, I.len⟩
theorem offSuite {X : Cx} {pins pn' : List (Addr × Obj)} {σ : L2.St} {H : Hp} {s : Shared} {a : Addr} (I : Inv (X.suite a (X.pn ++ pins)) pn' σ H s) (ok : X.Ok) : Inv X pins σ H s :=
  ⟨ok, I.os, I.bare, I.base, I.loc, I.cell, I.free, I.freeC, fun p hp => I.pin p (List.mem_append_left _ hp), I.hok, I.len⟩

/-! ### try with any number of clauses -/
def sw (oi : Option Nat) (v : Option V) (σ : L2.St) : L2.St := match oi with
  | none => σ
  | some i => σ.set i v
def dw (oi : Option Nat) (D : Ends) : Ends := { nx := fun σ H => D.nx (sw oi none σ) H, rt := D.rt, bk := fun σ H => D.bk (sw oi none σ) H, ct := fun σ H => D.ct (sw oi none σ) H }
abbrev Cls1 := Value × Option Nat × (Addr → Value → TS)
def wT (K : PySem.W.Frag) (Wout : WX) (D : Ends) : List Cls1 → WX
  | [] => Wout
  | (c, oi, ts) :: r => fun cls d σ H => ∃ b, PySem.W.exmOne K cls c = some b ∧ (b = true → d = none ∧ ∀ a, H a = none → ts a cls (dw oi D) (sw oi (some (.ref a)) σ) (upd H a (ExT cls a))) ∧ (b = false → wT K Wout D r cls d σ H)
inductive HdT (X : Cx) : List ExceptHandler → List Cls1 → Prop
  | nil : HdT X [] []
  | plain {x : Str} {c : Value} {ts : Addr → Value → TS} {b₀ : Stmt} {su : List Stmt} {p1 p2 : Pos} {hds : List ExceptHandler} {l : List Cls1} (hc : Names X x c)
      (hsu : ∀ (a : Addr) (cls : Value) (pn : List (Addr × Obj)), PSs (X.suite a pn) (b₀ :: su) (ts a cls)) (r : HdT X hds l) : HdT X (.ExceptHandler (some (.Name x p1)) none (b₀ :: su) p2 :: hds) ((c, none, ts) :: l)
  | named {x n : Str} {i : Nat} {c : Value} {ts : Addr → Value → TS} {b₀ : Stmt} {su : List Stmt} {p1 p2 : Pos} {hds : List ExceptHandler} {l : List Cls1} (hc : Names X x c) (hi : X.N[i]? = some n) (hln : X.env.kindOf n = some .local)
      (hsu : ∀ (a : Addr) (cls : Value) (pn : List (Addr × Obj)), PSs (X.suite a pn) (b₀ :: su) (ts a cls)) (r : HdT X hds l) : HdT X (.ExceptHandler (some (.Name x p1)) (some n) (b₀ :: su) p2 :: hds) ((c, some i, ts) :: l)
theorem ps_tryT {X : Cx} {body : List Stmt} {h₀ : ExceptHandler} {hds : List ExceptHandler} {l : List Cls1} {pos : Pos} {tb : WX → TS} {Wout : WX} (hs : X.stack = X.env :: X.outer) (hf : X.env.frame = some X.env.locals) (hex : X.ex = []) (hN : X.N.Nodup) (tk : L2.Takes X Wout)
    (hb : ∀ (W : WX) (pn : List (Addr × Obj)) (xe : Value → Shared → Prop), L2.Takes (X.tr pn xe) W → PassesOwn (model X.prog X.w) X.A X.env xe → PSs (X.tr pn xe) body (tb W))
    (hh : HdT X (h₀ :: hds) l) : PS X (.Try body (h₀ :: hds) [] [] pos) (fun D σ H => tb (wT X.K Wout D l) D σ H) := by
  refine ⟨fun pins s σ H D I h => ?_⟩
  have ok := I.ok
  have hfr : X.A.frames = some (X.env :: X.outer) := ok.frames.trans (congrArg some hs)
  refine wpAny_Try_except (wpAny_mono ((hb (wT X.K Wout D l) (X.pn ++ pins) (fun e s₁ => wpAny (model X.prog X.w) X.A (noteFrame e X.env) (fun _ s₂ => wpAny (model X.prog X.w) X.A (setFlight e none) (fun _ s₃ =>
    wpAny (model X.prog X.w) X.A (handleBy e X.env (h₀ :: hds)) (SP X pins D) X.xe s₃) X.xe s₂) X.xe s₁) (fun u s' air => ?_) PassesOwn.looking).run [] s σ H D (I.toTry _) h) (fun f s1 hsp => ?_) (fun _ _ he => he))
  · obtain ⟨a, B, sI, pins', σ', H', cls, d, rfl, J', nb, up, sky, na, os, ag, wish⟩ := air
    have J : Inv X pins σ' H' sI := J'.ofTry ok
    rw [hs] at sky
    show wpAny (model X.prog X.w) X.A (noteFrame (.ref a) X.env) _ _ _
    refine L2.Sky.land Zc.steady hfr hf sky fun h3 fl3 up3 => ?_
    have J3 : Inv X pins σ' H' { s' with heap := h3 } := J.landed nb fl3.1 (up.trans up3) os ag
    obtain ⟨oe3, vs3, he3, hz3, hd3⟩ := fl3.there
    have nfr : a ∉ frs (X.env :: X.outer) := fun hm => by
      obtain ⟨_, o', e', hnf⟩ := fl3.2.2.1.mem hm
      rw [he3] at e'
      cases e'
      exact hnf _ hd3
    have nst : a ∉ frs X.stack := by rw [hs]; exact nfr
    have nL : a ≠ X.env.locals := fun z => nfr (List.mem_filterMap.mpr ⟨X.env, List.mem_cons_self, hf.trans (congrArg some z.symm)⟩)
    have Ba : B.get? a = none := fl3.2.1
    have nI : sI.heap.get? a = none := by
      cases q : sI.heap.get? a with
      | none => rfl
      | some o =>
        rw [nb a o q nst] at Ba
        cases Ba
    have n0 : X.s_0.heap.get? a = none := by
      cases q : X.s_0.heap.get? a with
      | none => rfl
      | some o =>
        obtain ⟨o', q'⟩ := J.base.there a o q (by rw [hex]; exact fun z => nomatch z)
        rw [nI] at q'
        cases q'
    have nP : ∀ p ∈ X.pn ++ pins, p.1 ≠ a := fun p hp z => by
      have q := (J.pin p hp).1
      rw [z, nI] at q
      cases q
    have S3 := toSuite J3 a
    have go : ∀ {hds' : List ExceptHandler} {l' : List Cls1}, HdT X hds' l' → wT X.K Wout D l' cls d σ' H' →
        wpAny (model X.prog X.w) X.A (handleBy (.ref a) X.env hds') (SP X pins D) X.xe { s' with heap := h3 } := by
      have LT : PySem.W.Looks (model X.prog X.w) h3 (typeOf (.ref a)) cls := fun A Q E s k q => wpAny_typeOf_ref (k _ _ he3) (by rw [hz3.1]; exact q)
      have test : ∀ {x : Str} {c : Value} {np : Pos} {Q : Value → Shared → Prop} {E : Value → Shared → Prop}, Names X x c → Q c { s' with heap := h3 } → wpAny (model X.prog X.w) (X.A.mark (some (.ref a))) (eval (.Name x np) X.env) Q E { s' with heap := h3 } := fun {x c np Q E} hc q => by
        obtain ⟨hg, hdbg, hm | ⟨hm, hv, hnn⟩⟩ := hc
        · exact ld_glob (X := X.suite a (X.pn ++ pins)) S3 hg hm q hdbg
        · exact ld_blt (X := X.suite a (X.pn ++ pins)) S3 hg hm hv q hnn hdbg
      have adopted : d = none → ∀ h4, L2.Inv X pins σ' H' { s' with heap := h4 } → HandSPX.FlyingZ B (X.env :: X.outer) a (Zc cls d) h4 → L2.Inv X pins σ' (upd H' a (ExT cls a)) { s' with heap := h4 } := fun ed h4 J4 fl4 => by
        obtain ⟨oe4, vs4, he4, hz4, hd4⟩ := fl4.there
        rw [ed] at hz4
        exact adopt J4 ⟨oe4, vs4, he4, hz4, hd4⟩ na n0 nL nP
      intro hds' l' hk
      induction hk with
      | nil =>
        intro w
        refine wpAny_handleBy_nil ?_
        obtain ⟨k1, k2, k3, oe, vs, T, oT, ts', he, hz, hd, h1, hr⟩ := id fl3
        unfold PySem.passOn
        refine wpAny_bind (wpAny_field he hd h1 ?_)
        rw [if_neg (show ¬ ((Value.ref T == Value.none) = true) from by simp)]
        have fin : wpAny (model X.prog X.w) X.A (setFlight (.ref a) X.env.frame) (fun _ s4 => wpAny (model X.prog X.w) X.A (throw (.ref a) : Sem Flow) (SP X pins D) X.xe s4) X.xe { s' with heap := h3 } := by
          rw [hf]
          refine HandSPX.setFlight_upZ fl3 fun h4 hh4 up4 => wpAny_throw (tk _ _ ?_)
          exact ⟨a, B, sI, pins, σ', H', cls, d, rfl, J, nb, (up.trans up3).trans up4, .inr (.inr (hs ▸ hh4)), na, os, ag, w⟩
        first
          | exact wpAny_bind (wpAny_pure (wpAny_bind fin))
          | exact wpAny_bind fin
      | @plain x c ts b₀ su p1 p2 hds2 l2 hc hsu r ih =>
        intro w
        obtain ⟨b, hb1, hyes, hno⟩ := w
        refine wpAny_handleBy_cons (codeAny_handlers_test ?_) (by intro q; cases q)
        refine test hc ((PySem.W.exm_one (M := model X.prog X.w) (J3.kIn) LT hb1).here ?_)
        cases b with
        | true =>
          refine codeAny_handlers_suite (HandSPX.lands_againZ fl3 fun h4 fl4 up4 => ?_)
          have J4 := adopted (hyes rfl).1 h4 (J.landed nb fl4.1 ((up.trans up3).trans up4) os ag) fl4
          refine wpAny_mono ((hsu a cls (X.pn ++ pins)).run [] _ _ _ _ (toSuite J4 a) ((hyes rfl).2 a na)) (fun f s6 q6 => ?_) (fun _ _ z => False.elim z)
          cases f with
          | next => exact let ⟨σ6, H6, S6, q⟩ := q6; ⟨_, _, offSuite S6 ok, q⟩
          | brk => exact let ⟨σ6, H6, S6, q⟩ := q6; ⟨_, _, offSuite S6 ok, q⟩
          | cont => exact let ⟨σ6, H6, S6, q⟩ := q6; ⟨_, _, offSuite S6 ok, q⟩
          | ret u => exact let ⟨v6, σ6, H6, S6, r6, q⟩ := q6; ⟨_, _, _, offSuite S6 ok, r6, q⟩
        | false =>
          show wpAny _ X.A (handleBy (.ref a) X.env hds2) _ _ _
          exact ih (hno rfl)
      | @named x n i c ts b₀ su p1 p2 hds2 l2 hc hi hln hsu r ih =>
        intro w
        obtain ⟨b, hb1, hyes, hno⟩ := w
        refine wpAny_handleBy_cons (codeAny_handlers_test ?_) (by intro q; cases q)
        refine test hc ((PySem.W.exm_one (M := model X.prog X.w) (J3.kIn) LT hb1).here ?_)
        cases b with
        | true =>
          refine codeAny_handlers_suite_as (HandSPX.lands_againZ fl3 fun h4 fl4 up4 => ?_)
          have J4 := adopted (hyes rfl).1 h4 (J.landed nb fl4.1 ((up.trans up3).trans up4) os ag) fl4
          refine store_ok (X := X.suite a (X.pn ++ pins)) (v := .ref a) (toSuite J4 a) hN hi (.inl hln) rfl (fun s5 S5 => ?_) (.inr hln)
          refine wpAny_mono ((hsu a cls (X.pn ++ pins)).run [] s5 _ _ _ S5 ((hyes rfl).2 a na)) (fun f s6 q6 => ?_) (fun _ _ z => False.elim z)
          have gone : ∀ {σ6 : L2.St} {H6 : Hp} {Q : Shared → Prop}, Inv (X.suite a (X.pn ++ pins)) [] σ6 H6 s6 → (∀ s7, Inv X pins (σ6.set i none) H6 s7 → Q s7) →
              wpAny (model X.prog X.w) X.A (do bindName X.env n .none; unbindBehindTheSuite X.env n p2) (fun _ s7 => Q s7) X.xe s6 := fun {σ6 H6 Q} S6 hq => gone_ok (offSuite S6 ok) hN hi hln hq
          cases f with
          | next => exact let ⟨σ6, H6, S6, q⟩ := q6; gone S6 fun s7 J7 => ⟨_, _, J7, q⟩
          | brk => exact let ⟨σ6, H6, S6, q⟩ := q6; gone S6 fun s7 J7 => ⟨_, _, J7, q⟩
          | cont => exact let ⟨σ6, H6, S6, q⟩ := q6; gone S6 fun s7 J7 => ⟨_, _, J7, q⟩
          | ret u => exact let ⟨v6, σ6, H6, S6, r6, q⟩ := q6; gone S6 fun s7 J7 => ⟨_, _, _, J7, r6, q⟩
        | false =>
          show wpAny _ X.A (handleBy (.ref a) X.env hds2) _ _ _
          exact ih (hno rfl)
    exact go hh wish
  · cases f with
    | next => exact let ⟨σ', H', J', q⟩ := hsp; wpAny_execs_nil ⟨σ', H', J'.ofTry ok, q⟩
    | brk => exact let ⟨σ', H', J', q⟩ := hsp; ⟨σ', H', J'.ofTry ok, q⟩
    | cont => exact let ⟨σ', H', J', q⟩ := hsp; ⟨σ', H', J'.ofTry ok, q⟩
    | ret u => exact let ⟨v, σ', H', J', r, q⟩ := hsp; ⟨v, σ', H', J'.ofTry ok, r, q⟩

/-! ### defs that run wherever they are called: no loop, nothing raised -/
structure FnA (P : Program) (w : World) (K : PySem.W.Frag) (mg : Str → Option Value) (base : Heap) (k : Nat) (f : Addr) (fd : FuncData) (ps : List Str) (sp : Sp) : Prop where
  len : ∀ vs H Q E, sp vs H Q E → vs.length = ps.length
  run : ∀ (A : Around) (outer : List Env) (s : Shared) (H : Hp) (args : Args) (us : List Value) (vs : List V) (Q : VK) (E : XK), L2H.RoomH k A → Env0 P w K mg base A outer s H → BindsTo s fd args (ps.zip us) → Vals vs us → sp vs H Q E →
    codeAny (model P w) A (.call (.ref f) args) (CR CX0 outer P w H s Q E) s
section
variable {P : Program} {w : World} {K : PySem.W.Frag} {mg : Str → Option Value} {base : Heap} {k : Nat} {f : Addr} {fd : FuncData} {ps N : List Str} {sp : Sp}
theorem FnA.ok (F : FnA P w K mg base k f fd ps sp) : FnOk P w K mg base CX0 k f fd ps sp := ⟨F.len, fun A outer s H args us vs Q E hr => F.run A outer s H args us vs Q E (L2H.roomH_of hr)⟩
/-- the context of such a def's body -/
def cxA (P : Program) (w : World) (K : PySem.W.Frag) (mg : Str → Option Value) (base : Heap) (N : List Str) (qual : Str) (scope : Scope) (f : Addr) (cd : Value) (A : Around) (outer : List Env) (s : Shared) (H : Hp) : Cx :=
  { cxOf CX0 P w K mg base N qual scope f cd A outer s H E0 with calm := false, xe := fun _ _ => False }
theorem fn_ofA {name qual : Str} {params : Arguments} {body : List Stmt} {scope : Scope} {dV kV doc pm cdv ct oc : Value} {an od : Option Addr} {osl : Array (Option Value)}
    (lk : K.lookup f = some ⟨oc, od, .func (PySem.W.fnOf name qual params body scope dV kV doc pm an cdv ct), osl⟩) (hcd : PySem.W.codeIn K cdv qual = true) (S : FnScope N ps scope) (len : ∀ vs H Q E, sp vs H Q E → vs.length = ps.length)
    (hbody : ∀ (A : Around) (outer : List Env) (s : Shared) (H : Hp) (vs : List V) (Q : VK) (E : XK), L2H.RoomH k (A.deeper (envOfC qual scope s.heap.objs.size f cdv)) → sp vs H Q E →
      ∃ t, PSs (cxA P w K mg base N qual scope f cdv A outer s H) body t ∧ t { nx := fun _ H' => Q .non H', rt := Q } (L2.start N vs) H) :
    FnA P w K mg base (k + 1) f (PySem.W.fnOf name qual params body scope dV kV doc pm an cdv ct) ps sp := by
  refine ⟨len, fun A outer s H args us vs Q E room e0 hb rv hsp => ?_⟩
  have kx : K.In s.heap := e0.mod.kin.keeps fun b o e => (e0.bs b o e).1
  have nolim : s.heap.NoLimit := e0.mod.nolimit.keeps fun b o e => (e0.bs b o e).1
  refine codeAny_call_function room.depth (kx _ _ lk) rfl S.co S.gen rfl (PySem.W.codeRec_of kx hcd) (hb _ _ _ _ (wpAny_newFunctionEnv_cells S.kind (fun ⟨n, v⟩ hy => ?_) fun env he s1 x => ?_))
  · rcases S.par n (List.of_mem_zip hy).1 with q | q
    · exact .inl q
    · exact .inr ⟨q, PySem.W.cellsFrom_some _ _ _ (.inl q)⟩
  subst he
  refine ⟨nolim.keeps x.toInCall.keep, codeAny_func ?_⟩
  obtain ⟨t, ht, hq⟩ := hbody A outer s H vs Q E (room.deeper _) hsp
  have I0 := inv_start (CX := CX0) (E := E0) (A := { A with handled := none }) S rfl (⟨e0.frames, e0.mod, e0.bs, e0.bsz, e0.funs, e0.frf, e0.hok, e0.bare⟩ : Env0 P w K mg base { A with handled := none } outer s H) (len _ _ _ _ hsp) rv x
  have I : Inv (cxA P w K mg base N qual scope f cdv A outer s H) [] (L2.start N vs) H s1 :=
    ⟨⟨I0.ok.mod, I0.ok.kind, I0.ok.glob, I0.ok.blt, I0.ok.above, I0.ok.inj, I0.ok.has, I0.ok.cab, (fun z => nomatch (show false = true from z)), Around.frames_deeper e0.frames, I0.ok.stk, I0.ok.exf, I0.ok.bs, I0.ok.bsz, I0.ok.noex, I0.ok.exfs, I0.ok.funs, I0.ok.frf⟩,
      I0.os, I0.bare, I0.base, I0.loc, I0.cell, I0.free, I0.freeC, I0.pin, I0.hok, I0.len⟩
  refine wpAny_mono (ht.run [] s1 (L2.start N vs) H _ I hq) (fun fl s' hs => ?_) fun e s' z => z.elim
  cases fl with
  | ret u => exact let ⟨v, σ', H', J, r2, q⟩ := hs; (⟨v, H', J.os, J.bare, J.base, J.hok, r2, q⟩ : CE outer P w H s Q u s')
  | next => exact let ⟨σ', H', J, q⟩ := hs; (⟨V.non, H', J.os, J.bare, J.base, J.hok, rfl, q⟩ : CE outer P w H s Q .none s')
  | brk => exact let ⟨_, _, _, q⟩ := hs; False.elim q
  | cont => exact let ⟨_, _, _, q⟩ := hs; False.elim q
theorem funOkA {x qual : Str} {st : Stmt} (F : Fun K x qual st f fd) (S : FnScope N ps (defScope st)) (len : ∀ vs H Q E, sp vs H Q E → vs.length = ps.length)
    (hbody : ∀ (cdv : Value) (A : Around) (outer : List Env) (s : Shared) (H : Hp) (vs : List V) (Q : VK) (E : XK), L2H.RoomH k (A.deeper (envOfC qual (defScope st) s.heap.objs.size f cdv)) → sp vs H Q E →
      ∃ t, PSs (cxA P w K mg base N qual (defScope st) f cdv A outer s H) (defBody st) t ∧ t { nx := fun _ H' => Q .non H', rt := Q } (L2.start N vs) H) : FnA P w K mg base (k + 1) f fd ps sp := by
  obtain ⟨oc, od, kV, doc, pm, an, cdv, ct, osl, rfl, lk, hcd⟩ := F.ex
  exact fn_ofA lk hcd S len fun A outer s H vs Q E => hbody cdv A outer s H vs Q E
end
/-- such a def called, anywhere -/
theorem pe_callA {X : Cx} {k : Nat} {f : Addr} {fd : FuncData} {ps : List Str} {sp : Sp} {x : Str} {q pos : Pos} {e : Expr} {es : List Expr} {t : TA} (F : FnA X.prog X.w X.K X.mg X.base k f fd ps sp) (hr : L2H.RoomH k X.A) (hg : Gl X x) (hm : X.mg x = some (.ref f)) (hk : PySem.W.keepIn X.K (.ref f) = true) (hb : Binds X.K fd ps [])
    (ha : PA X (e :: es) t) (hdb : (x == ("__debug__" : Str)) = false := by decide) (he : starEach (e :: es) X.env = (false, eval e X.env) :: starEach es X.env := by rfl) (hpl : (backTo pos (starEach es X.env)).any (·.1) = false := by rfl) :
    PE X (.Call (.Name x q) (e :: es) [] pos) (fun σ H Q => t σ H fun vs H1 => sp vs H1 Q E0) := by
  refine ⟨fun pins s σ H Q I h => ?_⟩
  refine wpAny_Call_Name_kw (ld_glob I hg hm (PySem.W.callWith_K (h₀ := X.base) I.ok.mod.kin hk (thn (ha.run pos pins s σ H _ I h) fun us s1 ⟨vs, H1, I1, r, q⟩ => ⟨I1.kIn, ?_⟩) he hpl) hdb)
  have b := hb s1 us I1.kIn (by rw [List.append_nil, ← r.length]; exact F.len _ _ _ _ q)
  rw [List.append_nil] at b
  refine wpAny_call (codeAny_mono (F.run X.A X.stack s1 H1 ⟨us, []⟩ us vs Q E0 hr I1.env0 b r q) fun r' s' hq => ?_)
  cases r' with
  | error e => exact False.elim hq
  | ok fl => cases fl with
    | ret u => exact I1.after hq
    | next => exact False.elim hq
    | brk => exact False.elim hq
    | cont => exact False.elim hq
theorem roomH_mark {k : Nat} {A : Around} {v : Option Value} (r : Room k A) : L2H.RoomH k (A.mark v) := ⟨r.dp, r.un⟩
end Vf
set_option Elab.async false
set_option linter.all false
set_option maxRecDepth 100000
set_option maxHeartbeats 4000000
/-! More rules of my own: callees by name, a list or a tuple walked, data, the program's exception classes, the end with loose names. -/
namespace Vf
open PySem PySem.Spec PyProof.Rows L2

/-! ### heaps -/
theorem same_upd {H : Hp} {p : Addr} {o : HO} (h : H p = none) : Same H (upd H p o) := fun b x e => by
  rw [upd_ne (ne_of_none e h)]
  exact e
theorem Same.seqT {K : PySem.W.Frag} {H H' : Hp} {a : Addr} {xs : List V} (e : Same H H') (h : SqT K H a xs) : SqT K H' a xs := by
  rcases h with (h | ⟨o, h⟩) | h
  · exact .inl (.inl (e _ _ h))
  · exact .inl (.inr ⟨o, e _ _ h⟩)
  · exact .inr h
/-- the tape: a list of one int -/
def Tp (H : Hp) (t : Addr) : Prop := ∃ n : Int, H t = some (.lst [.int n])
/-- all but the tape is as it was -/
def Kp (t : Addr) (H H' : Hp) : Prop := (∀ b o, H b = some o → b ≠ t → H' b = some o) ∧ Tp H' t
theorem Kp.refl {t : Addr} {H : Hp} (h : Tp H t) : Kp t H H := ⟨fun _ _ e _ => e, h⟩
theorem Kp.trans {t : Addr} {H H1 H2 : Hp} (a : Kp t H H1) (b : Kp t H1 H2) : Kp t H H2 := ⟨fun c o e n => b.1 c o (a.1 c o e n) n, b.2⟩
theorem Kp.same {t : Addr} {H H1 H2 : Hp} (a : Kp t H H1) (b : Same H1 H2) : Kp t H H2 := ⟨fun c o e n => b c o (a.1 c o e n), let ⟨n, e⟩ := a.2; ⟨n, b _ _ e⟩⟩
theorem Kp.ofSame {t : Addr} {H H1 : Hp} (a : Tp H t) (b : Same H H1) : Kp t H H1 := (Kp.refl a).same b
theorem Kp.lay {t p : Addr} {o : HO} {H H1 : Hp} (a : Kp t H H1) (n : H1 p = none) : Kp t H (upd H1 p o) := a.same (same_upd n)
theorem Kp.tape {t : Addr} {n : Int} {H H1 : Hp} (a : Kp t H H1) : Kp t H (upd H1 t (.lst [.int n])) := ⟨fun b o e h => by rw [upd_ne h]; exact a.1 b o e h, ⟨n, upd_same⟩⟩
theorem Kp.free {t : Addr} {H H' : Hp} (a : Kp t H H') (h : Tp H t) {l : Addr} (e : H' l = none) : H l = none := by
  cases q : H l with
  | none => rfl
  | some o =>
    by_cases z : l = t
    · obtain ⟨n, r⟩ := a.2
      rw [z, r] at e
      cases e
    · rw [a.1 l o q z] at e
      cases e

/-! ### readings may be weakened -/
theorem _root_.L2.PE.imp {X : Cx} {e : Expr} {t t' : TE} (h : PE X e t) (i : ∀ σ H Q, t' σ H Q → t σ H Q) : PE X e t' := ⟨fun pins s σ H Q I q => h.run pins s σ H Q I (i _ _ _ q)⟩
theorem _root_.L2.PA.imp {X : Cx} {e : List Expr} {t t' : TA} (h : PA X e t) (i : ∀ σ H Q, t' σ H Q → t σ H Q) : PA X e t' := ⟨fun pos pins s σ H Q I q => h.run pos pins s σ H Q I (i _ _ _ q)⟩
theorem _root_.L2.PSs.imp {X : Cx} {e : List Stmt} {t t' : TS} (h : PSs X e t) (i : ∀ σ H Q, t' σ H Q → t σ H Q) : PSs X e t' := ⟨fun pins s σ H Q I q => h.run pins s σ H Q I (i _ _ _ q)⟩

/-! ### callees by their names -/
structure Cal (P : Program) (w : World) (K : PySem.W.Frag) (mg : Str → Option Value) (base : Heap) (CX : CXT) (k : Nat) (x : Str) (ps : List Str) (sp : Sp) : Prop where
  ex : ∃ (f : Addr) (fd : FuncData), mg x = some (.ref f) ∧ PySem.W.keepIn K (.ref f) = true ∧ Binds K fd ps [] ∧ FnOk P w K mg base CX k f fd ps sp
structure CalA (P : Program) (w : World) (K : PySem.W.Frag) (mg : Str → Option Value) (base : Heap) (k : Nat) (x : Str) (ps : List Str) (sp : Sp) : Prop where
  ex : ∃ (f : Addr) (fd : FuncData), mg x = some (.ref f) ∧ PySem.W.keepIn K (.ref f) = true ∧ Binds K fd ps [] ∧ FnA P w K mg base k f fd ps sp
theorem CalA.cal {P : Program} {w : World} {K : PySem.W.Frag} {mg : Str → Option Value} {base : Heap} {k : Nat} {x : Str} {ps : List Str} {sp : Sp} (c : CalA P w K mg base k x ps sp) : Cal P w K mg base CX0 k x ps sp := by
  obtain ⟨f, fd, h1, h2, h3, h4⟩ := c.ex
  exact ⟨f, fd, h1, h2, h3, h4.ok⟩
def tCal (sp : Sp) (E : XK) (t : TA) : TE := fun σ H Q => t σ H fun vs H1 => sp vs H1 Q E
section
variable {X : Cx} {CX : CXT} {k : Nat} {ps : List Str} {sp : Sp} {x : Str} {p pos : Pos} {e : Expr} {es : List Expr} {t : TA}
theorem pe_cal {E : XK} (c : Cal X.prog X.w X.K X.mg X.base CX k x ps sp) (hr : Room k X.A) (hg : Gl X x) (hx : Passes CX X E) (ha : PA X (e :: es) t) (hdb : (x == ("__debug__" : Str)) = false := by decide)
    (he : starEach (e :: es) X.env = (false, eval e X.env) :: starEach es X.env := by rfl) (hpl : (backTo pos (starEach es X.env)).any (·.1) = false := by rfl) : PE X (.Call (.Name x p) (e :: es) [] pos) (tCal sp E t) := by
  obtain ⟨f, fd, h1, h2, h3, h4⟩ := c.ex
  exact (pe_call (dvs := []) h4 hr hg h1 h2 h3 .nil hx ha hdb he hpl).imp fun σ H Q q => by
    unfold tCall
    simp only [List.append_nil]
    exact q
theorem pe_calS {E : L2.St → XK} (c : Cal X.prog X.w X.K X.mg X.base CX k x ps sp) (hr : Room k X.A) (hg : Gl X x) (hx : ∀ σ, PassesAt CX X σ (E σ)) (ha : PA X (e :: es) t) (hdb : (x == ("__debug__" : Str)) = false := by decide)
    (he : starEach (e :: es) X.env = (false, eval e X.env) :: starEach es X.env := by rfl) (hpl : (backTo pos (starEach es X.env)).any (·.1) = false := by rfl) : PE X (.Call (.Name x p) (e :: es) [] pos) (tCallS sp E t) := by
  obtain ⟨f, fd, h1, h2, h3, h4⟩ := c.ex
  exact pe_callS h4 hr hg h1 h2 h3 hx ha hdb he hpl
theorem pe_calA (c : CalA X.prog X.w X.K X.mg X.base k x ps sp) (hr : L2H.RoomH k X.A) (hg : Gl X x) (ha : PA X (e :: es) t) (hdb : (x == ("__debug__" : Str)) = false := by decide)
    (he : starEach (e :: es) X.env = (false, eval e X.env) :: starEach es X.env := by rfl) (hpl : (backTo pos (starEach es X.env)).any (·.1) = false := by rfl) : PE X (.Call (.Name x p) (e :: es) [] pos) (tCal sp E0 t) := by
  obtain ⟨f, fd, h1, h2, h3, h4⟩ := c.ex
  exact pe_callA h4 hr hg h1 h2 h3 ha hdb he hpl
/-- an object made by an __init__ that may raise, the wish at the slots as they stand -/
theorem pe_makS {C f : Addr} {fd : FuncData} {dvs : List V} {ds : List Value} {E : L2.St → XK} (M : Mk X.K C f) (F : FnOk X.prog X.w X.K X.mg X.base CX k f fd ps sp) (hr : Room (k + 1) X.A) (hg : Gl X x) (hm : X.mg x = some (.ref C)) (hb : Binds X.K fd ps ds) (hd : Vals dvs ds)
    (hx : ∀ σ, PassesAt CX X σ (E σ)) (ha : PA X (e :: es) t) (hdb : (x == ("__debug__" : Str)) = false := by decide) (he : starEach (e :: es) X.env = (false, eval e X.env) :: starEach es X.env := by rfl) (hpl : (backTo pos (starEach es X.env)).any (·.1) = false := by rfl) :
    PE X (.Call (.Name x p) (e :: es) [] pos) (fun σ H Q => t σ H fun vs H1 => ∀ y dy, H1 y = none → H1 dy = none → dy ≠ y →
      sp (.ref y :: (vs ++ dvs)) (upd (upd H1 dy (.own y)) y (.ins C dy [])) (fun v H2 => v = .non ∧ Q (.ref y) H2) (E σ)) := by
  refine ⟨fun pins s σ H Q I h => ?_⟩
  refine wpAny_Call_Name_kw (ld_glob I hg hm (PySem.W.callWith_K (h₀ := X.base) I.ok.mod.kin M.kp (thn (ha.run pos pins s σ H _ I h) fun us s1 ⟨vs, H1, I1, r, q⟩ => ⟨I1.kIn, ?_⟩) he hpl) hdb)
  have hq := q (s1.heap.objs.size + 1) s1.heap.objs.size (I1.hok.fresh (Nat.le_succ _)) (I1.hok.fresh (Nat.le_refl _)) (Nat.ne_of_lt (Nat.lt_succ_self _))
  have J := Inv.made (C := C) I1
  have rr : Vals (V.ref (s1.heap.objs.size + 1) :: (vs ++ dvs)) (Value.ref (s1.heap.objs.size + 1) :: (us ++ ds)) := .cons rfl (r.append hd)
  have hl : (Value.ref (s1.heap.objs.size + 1) :: us ++ ds).length = ps.length := rr.length.symm.trans (F.len _ _ _ _ hq)
  refine wpAny_call (make_map (f := f) I1.kIn M.makes M.init (beq_iff_eq.mp M.fn) (codeAny_mono (F.run _ X.stack _ _ ⟨Value.ref (s1.heap.objs.size + 1) :: us, []⟩ (Value.ref (s1.heap.objs.size + 1) :: (us ++ ds)) _ _ (E σ) (hr.make C us [])
    (J.env0.make C us []) (hb _ (Value.ref (s1.heap.objs.size + 1) :: us) J.kIn hl) rr hq) fun r' s' hq' => ?_))
  cases r' with
  | error e => exact hx σ pins _ _ e s' J hq'
  | ok fl => cases fl with
    | ret u =>
      obtain ⟨v, H', I3, rv, rfl, q3⟩ := J.after hq'
      exact ⟨rv, ⟨V.ref (s1.heap.objs.size + 1), H', I3, rfl, q3⟩⟩
    | next => exact False.elim hq'
    | brk => exact False.elim hq'
    | cont => exact False.elim hq'
end

/-! ### a list or a tuple -/
def SqV (K : PySem.W.Frag) (H : Hp) (a : Addr) (xs : List V) : Prop := SqL K H a xs ∨ SqT K H a xs
theorem SqV.same {K : PySem.W.Frag} {H H' : Hp} {a : Addr} {xs : List V} (h : SqV K H a xs) (e : Same H H') : SqV K H' a xs := h.elim (fun q => .inl (e.seq q)) fun q => .inr (Same.seqT e q)
def iSeq (K : PySem.W.Frag) (tl : TE) : TI := fun σ H R => tl σ H fun x H1 => ∃ a, x = .ref a ∧ (((∃ xs, SqL K H1 a xs) ∧ R (Itl K a) H1) ∨ ((∃ xs, SqT K H1 a xs) ∧ R (Itt K a) H1))
theorem pi_seq {X : Cx} {tg l : Expr} {tl : TE} (hl : PE X l tl) : PI X tg l (iSeq X.K tl) := by
  refine ⟨fun pins s σ H R I h => thn (hl.run pins s σ H _ I h) fun v s1 ⟨x, H1, I1, r1, q1⟩ => ?_⟩
  obtain ⟨a, rfl, q⟩ := q1
  cases r1
  rcases q with ⟨⟨xs, hq⟩, q⟩ | ⟨⟨xs, hq⟩, q⟩
  · obtain ⟨its, rv, p, hz⟩ := I1.list hq
    refine wpAny_pyIter_list p.isList ⟨s1.heap.objs.size, [s1.heap.objs.size], _, _, H1, rfl, I1.kept (t' := s1.toks) fun b o e => Heap.get?_push_of_some _ e, turn_list a _, ⟨_, Heap.get?_push_size _ rfl, rfl, rfl⟩, fun b hb => ?_, q⟩
    obtain rfl : b = s1.heap.objs.size := by simpa using hb
    exact I1.fpOk (Nat.le_refl _) (I1.hok.fresh (Nat.le_refl _))
  · obtain ⟨its, rv, p, hz⟩ := I1.tuple hq
    refine wpAny_pyIter_tuple (show s1.heap.IsTuple a its.toArray from p) ⟨s1.heap.objs.size, [s1.heap.objs.size], _, _, H1, rfl, I1.kept (t' := s1.toks) fun b o e => Heap.get?_push_of_some _ e, turn_tuple a _, ⟨_, Heap.get?_push_size _ rfl, rfl, rfl⟩, fun b hb => ?_, q⟩
    obtain rfl : b = s1.heap.objs.size := by simpa using hb
    exact I1.fpOk (Nat.le_refl _) (I1.hok.fresh (Nat.le_refl _))
/-- a comprehension over either -/
theorem lc_seq {K : PySem.W.Frag} {a : Addr} {xs : List V} {g : TG} {tt : TT} {te : TE} {vs : List Nat} {σ : L2.St} {H1 : Hp} {Q : Addr → Hp → Prop} (h : SqV K H1 a xs) (Pv : Addr → Nat → Hp → Prop) (h0 : ∀ D, H1 D = none → Pv D 0 (upd H1 D (.lst [])))
    (hl : ∀ D i H, H1 D = none → i ≤ xs.length → Pv D i H → Same H1 H)
    (hs : ∀ D i x H, H1 D = none → xs[i]? = some x → Pv D i H → g x (wipe σ vs) H fun σ2 H2 => wipe σ2 vs = wipe σ vs ∧ tt σ2 H2 fun b H3 =>
      if b = true then te σ2 H3 fun y H4 => ∃ acc, H4 D = some (.lst acc) ∧ acc.length < sizeLine ∧ Pv D (i + 1) (upd H4 D (.lst (acc ++ [y]))) else Pv D (i + 1) H3) (hd : ∀ D H, H1 D = none → Pv D xs.length H → Q D H) :
    ((∃ xs, SqL K H1 a xs) ∧ ∀ D, H1 D = none → ∃ W : Nat → Nat → Hp → Prop, (∃ m, W 0 m (upd H1 D (.lst []))) ∧ ∀ i m H, W i m H →
      ((Itl K a).stop i H ∧ Q D H) ∨ ((Itl K a).go i H ∧ ∃ Nx : Hp → Prop, (∀ H', Nx H' → ∃ m', m' < m ∧ W (i + 1) m' H') ∧ ∀ x H', (Itl K a).yld i H x H' → g x (wipe σ vs) H' fun σ2 H2 => wipe σ2 vs = wipe σ vs ∧ tt σ2 H2 fun b H3 =>
        if b = true then te σ2 H3 fun y H4 => ∃ acc, H4 D = some (.lst acc) ∧ acc.length < sizeLine ∧ Nx (upd H4 D (.lst (acc ++ [y]))) else Nx H3)) ∨
    ((∃ xs, SqT K H1 a xs) ∧ ∀ D, H1 D = none → ∃ W : Nat → Nat → Hp → Prop, (∃ m, W 0 m (upd H1 D (.lst []))) ∧ ∀ i m H, W i m H →
      ((Itt K a).stop i H ∧ Q D H) ∨ ((Itt K a).go i H ∧ ∃ Nx : Hp → Prop, (∀ H', Nx H' → ∃ m', m' < m ∧ W (i + 1) m' H') ∧ ∀ x H', (Itt K a).yld i H x H' → g x (wipe σ vs) H' fun σ2 H2 => wipe σ2 vs = wipe σ vs ∧ tt σ2 H2 fun b H3 =>
        if b = true then te σ2 H3 fun y H4 => ∃ acc, H4 D = some (.lst acc) ∧ acc.length < sizeLine ∧ Nx (upd H4 D (.lst (acc ++ [y]))) else Nx H3)) := by
  rcases h with h | h
  · exact .inl ⟨⟨xs, h⟩, fun D nD => lc_list (xs := xs) (Pv D) (h0 D nD) (fun i H hi p => (hl D i H nD hi p).seq h) (fun i x H e p => hs D i x H nD e p) fun H p => hd D H nD p⟩
  · exact .inr ⟨⟨xs, h⟩, fun D nD => lc_tup (xs := xs) (Pv D) (h0 D nD) (fun i H hi p => Same.seqT (hl D i H nD hi p) h) (fun i x H e p => hs D i x H nD e p) fun H p => hd D H nD p⟩
/-- the same as an expression's rule -/
def MonoE (t : TE) : Prop := ∀ σ H (Q Q' : VK), (∀ x H1, Q x H1 → Q' x H1) → t σ H Q → t σ H Q'
theorem mono_var {i : Nat} : MonoE (tVar i) := fun _ _ _ _ h ⟨v, e, q⟩ => ⟨v, e, h _ _ q⟩
def tLcS (K : PySem.W.Frag) (tl : TE) (g : TG) (tt : TT) (te : TE) (vs : List Nat) : TE := fun σ H Q => tl σ H fun x H1 => ∃ (a : Addr) (xs : List V) (Pv : Addr → Nat → Hp → Prop), x = .ref a ∧ SqV K H1 a xs ∧ (∀ D, H1 D = none → Pv D 0 (upd H1 D (.lst []))) ∧
  (∀ D i H2, H1 D = none → i ≤ xs.length → Pv D i H2 → Same H1 H2) ∧
  (∀ D i x H2, H1 D = none → xs[i]? = some x → Pv D i H2 → g x (wipe σ vs) H2 fun σ2 H2 => wipe σ2 vs = wipe σ vs ∧ tt σ2 H2 fun b H3 =>
    if b = true then te σ2 H3 fun y H4 => ∃ acc, H4 D = some (.lst acc) ∧ acc.length < sizeLine ∧ Pv D (i + 1) (upd H4 D (.lst (acc ++ [y]))) else Pv D (i + 1) H3) ∧
  (∀ D H2, H1 D = none → Pv D xs.length H2 → Q (.ref D) H2)
theorem pe_lcS {X : Cx} {elt tg l : Expr} {ifs : List Expr} {scope : Scope} {own : List (Str × Nat)} {pos : Pos} {tl : TE} {g : TG} {tt : TT} {te : TE} (hc : X.calm = true) (hN : X.N.Nodup) (hl : PE X l tl) (mo : MonoE tl) (ok : BlkOk X.N X.env.scope scope own)
    (hg : ∀ (s : Shared) (H : Hp) (C : Addr) (cl : List (Str × Addr)) (fp : List Addr), PG (X.blk s H scope (compEnvC scope cl C X.env) fp) tg g) (ht : ∀ (s : Shared) (H : Hp) (C : Addr) (cl : List (Str × Addr)) (fp : List Addr), PTs (X.blk s H scope (compEnvC scope cl C X.env) fp) ifs tt)
    (he : ∀ (s : Shared) (H : Hp) (C : Addr) (cl : List (Str × Addr)) (fp : List Addr), PE (X.blk s H scope (compEnvC scope cl C X.env) fp) elt te) (hs : ∀ x, foldedSetIterable l X.env x = pure x := by intro _; rfl) :
    PE X (.ListComp elt [⟨tg, l, ifs, 0⟩] scope pos) (tLcS X.K tl g tt te (own.map (·.2))) := by
  refine (pe_lc hc hN (pi_seq hl) ok hg ht he hs).imp fun σ H Q q => mo _ _ _ _ (fun x H1 q => ?_) q
  obtain ⟨a, xs, Pv, rfl, hS, h0, hk, hst, hd⟩ := q
  exact ⟨a, rfl, lc_seq (g := g) (tt := tt) (te := te) (vs := own.map (·.2)) (σ := σ) (Q := fun D H2 => Q (.ref D) H2) hS Pv h0 hk hst hd⟩
/-- for i, x in enumerate(list) -/
theorem for_enum {K : PySem.W.Frag} {a : Addr} {xs : List V} {g : TG} {tb : TS} {D : Ends} {σ : L2.St} {H : Hp} (Pv : Nat → L2.St → Hp → Prop) (h0 : Pv 0 σ H) (hl : ∀ i σ H, i ≤ xs.length → Pv i σ H → SqL K H a xs)
    (hs : ∀ i x T σ H, xs[i]? = some x → Pv i σ H → H T = none → g (.ref T) σ (upd H T (.tup [.int (i : Nat), x])) fun σ2 H2 => tb { D with nx := Pv (i + 1), ct := Pv (i + 1), bk := D.nx } σ2 H2) (hd : ∀ σ H, Pv xs.length σ H → D.nx σ H) :
    ∃ W : Nat → Nat → L2.St → Hp → Prop, (∃ m, W 0 m σ H) ∧ ∀ i m σ H, W i m σ H →
      ((Ite K a).stop i H ∧ D.nx σ H) ∨ ((Ite K a).go i H ∧ ∃ N : L2.St → Hp → Prop, (∀ σ' H', N σ' H' → ∃ m', m' < m ∧ W (i + 1) m' σ' H') ∧ ∀ x H', (Ite K a).yld i H x H' → g x σ H' fun σ2 H2 => tb { D with nx := N, ct := N, bk := D.nx } σ2 H2) := by
  refine ⟨fun i m σ H => m = xs.length - i ∧ i ≤ xs.length ∧ Pv i σ H, ⟨xs.length, by simp, Nat.zero_le _, h0⟩, ?_⟩
  rintro i m σ H ⟨rfl, hi, p⟩
  have q := hl i σ H hi p
  by_cases hlt : i < xs.length
  · refine .inr ⟨⟨xs, xs[i], q, by simp [hlt]⟩, Pv (i + 1), fun σ' H' p' => ⟨xs.length - (i + 1), by omega, rfl, hlt, p'⟩, fun x H' y => ?_⟩
    obtain ⟨T, z, rfl, nT, rfl, f⟩ := y
    exact hs i z T σ H (f xs q) p nT
  · obtain rfl : i = xs.length := by omega
    exact .inl ⟨⟨xs, q, Nat.le_refl _⟩, hd σ H p⟩

/-! ### data: what a thing is, whatever it may be -/
inductive Dt where
  | non | bl (b : Bool) | int (i : Int) | str (s : Str) | lst (l : List Dt) | tup (l : List Dt) | dct (l : List (Key × Dt))
mutual
inductive Rp (K : PySem.W.Frag) (H : Hp) : V → Dt → Prop
  | non : Rp K H .non .non
  | bl (b : Bool) : Rp K H (.bl b) (.bl b)
  | int (i : Int) : Rp K H (.int i) (.int i)
  | str (x : Str) : Rp K H (.str x) (.str x)
  | lst {a : Addr} {xs : List V} {ds : List Dt} : SqL K H a xs → RpL K H xs ds → Rp K H (.ref a) (.lst ds)
  | tup {a : Addr} {xs : List V} {ds : List Dt} : SqT K H a xs → RpL K H xs ds → Rp K H (.ref a) (.tup ds)
  | dct {a : Addr} {kvs : List (Key × V)} {ds : List (Key × Dt)} : H a = some (.dK kvs) → RpD K H kvs ds → Rp K H (.ref a) (.dct ds)
inductive RpL (K : PySem.W.Frag) (H : Hp) : List V → List Dt → Prop
  | nil : RpL K H [] []
  | cons {v : V} {vs : List V} {d : Dt} {ds : List Dt} : Rp K H v d → RpL K H vs ds → RpL K H (v :: vs) (d :: ds)
inductive RpD (K : PySem.W.Frag) (H : Hp) : List (Key × V) → List (Key × Dt) → Prop
  | nil : RpD K H [] []
  | cons {k : Key} {v : V} {vs : List (Key × V)} {d : Dt} {ds : List (Key × Dt)} : Rp K H v d → RpD K H vs ds → RpD K H ((k, v) :: vs) ((k, d) :: ds)
end
section
variable {K : PySem.W.Frag} {H H' : Hp}
mutual
theorem Rp.same (s : Same H H') : ∀ {v : V} {d : Dt}, Rp K H v d → Rp K H' v d
  | _, _, .non => .non
  | _, _, .bl b => .bl b
  | _, _, .int i => .int i
  | _, _, .str x => .str x
  | _, _, .lst h r => .lst (s.seq h) (RpL.same s r)
  | _, _, .tup h r => .tup (Same.seqT s h) (RpL.same s r)
  | _, _, .dct h r => .dct (s _ _ h) (RpD.same s r)
theorem RpL.same (s : Same H H') : ∀ {v : List V} {d : List Dt}, RpL K H v d → RpL K H' v d
  | _, _, .nil => .nil
  | _, _, .cons h r => .cons (Rp.same s h) (RpL.same s r)
theorem RpD.same (s : Same H H') : ∀ {v : List (Key × V)} {d : List (Key × Dt)}, RpD K H v d → RpD K H' v d
  | _, _, .nil => .nil
  | _, _, .cons h r => .cons (Rp.same s h) (RpD.same s r)
end
theorem RpL.length : ∀ {v : List V} {d : List Dt}, RpL K H v d → v.length = d.length
  | _, _, .nil => rfl
  | _, _, .cons _ r => congrArg (· + 1) (RpL.length r)
theorem RpL.get : ∀ {v : List V} {d : List Dt} {i : Nat} {x : V}, RpL K H v d → v[i]? = some x → ∃ y, d[i]? = some y ∧ Rp K H x y
  | _, _, _, _, .nil, e => by simp at e
  | _, _, 0, _, .cons h _, e => by
    obtain rfl := Option.some.inj e
    exact ⟨_, rfl, h⟩
  | _, _, i + 1, x, .cons _ r, e => RpL.get (i := i) (x := x) r e
/-- the things that are lists or tuples -/
def Dt.items : Dt → Option (List Dt)
  | .lst l => some l
  | .tup l => some l
  | _ => none
theorem ty_list {a : Addr} {xs : List V} (h : SqL K H a xs) : TyX K H (.ref a) (.type "list") := by
  rcases h with (h | ⟨o, h⟩) | ⟨o, its, n, e, c, _⟩
  · exact .base (.lst h)
  · exact .base (.frz h)
  · exact .kList e c
theorem ty_tuple {a : Addr} {xs : List V} (h : SqT K H a xs) : TyX K H (.ref a) (.type "tuple") := by
  rcases h with (h | ⟨o, h⟩) | ⟨o, its, n, e, c, _⟩
  · exact .base (.tup h)
  · exact .fTuple h
  · exact .kTuple e c
/-- the name of a thing's class -/
def Dt.ty : Dt → String
  | .non => "NoneType"
  | .bl _ => "bool"
  | .int _ => "int"
  | .str _ => "str"
  | .lst _ => "list"
  | .tup _ => "tuple"
  | .dct _ => "dict"
theorem Rp.ty {v : V} {d : Dt} (r : Rp K H v d) : TyX K H v (.type d.ty) := by
  cases r with
  | non => exact .base .non
  | bl b => exact .base (.bl b)
  | int i => exact .base (.int i)
  | str x => exact .base (.str x)
  | lst h _ => exact ty_list h
  | tup h _ => exact ty_tuple h
  | dct h _ => exact .base (.dK h)
theorem Rp.items_some {v : V} {d : Dt} {l : List Dt} (r : Rp K H v d) (e : d.items = some l) : ∃ a xs, v = .ref a ∧ SqV K H a xs ∧ RpL K H xs l := by
  cases r with
  | lst h q =>
    obtain rfl := Option.some.inj e
    exact ⟨_, _, rfl, .inl h, q⟩
  | tup h q =>
    obtain rfl := Option.some.inj e
    exact ⟨_, _, rfl, .inr h, q⟩
  | _ => cases e
end
/-- isinstance of a thing, of one built-in class -/
def Dt.isInt : Dt → Bool
  | .bl _ => true
  | .int _ => true
  | _ => false
def Dt.isBool : Dt → Bool
  | .bl _ => true
  | _ => false
def Dt.isList : Dt → Bool
  | .lst _ => true
  | _ => false
def Dt.isTuple : Dt → Bool
  | .tup _ => true
  | _ => false
theorem isa_int : ∀ d : Dt, kitB d.ty "int" = some d.isInt
  | .non => show kitB "NoneType" "int" = some false by decide +kernel
  | .bl _ => show kitB "bool" "int" = some true by decide +kernel
  | .int _ => show kitB "int" "int" = some true by decide +kernel
  | .str _ => show kitB "str" "int" = some false by decide +kernel
  | .lst _ => show kitB "list" "int" = some false by decide +kernel
  | .tup _ => show kitB "tuple" "int" = some false by decide +kernel
  | .dct _ => show kitB "dict" "int" = some false by decide +kernel
theorem isa_bool : ∀ d : Dt, kitB d.ty "bool" = some d.isBool
  | .non => show kitB "NoneType" "bool" = some false by decide +kernel
  | .bl _ => show kitB "bool" "bool" = some true by decide +kernel
  | .int _ => show kitB "int" "bool" = some false by decide +kernel
  | .str _ => show kitB "str" "bool" = some false by decide +kernel
  | .lst _ => show kitB "list" "bool" = some false by decide +kernel
  | .tup _ => show kitB "tuple" "bool" = some false by decide +kernel
  | .dct _ => show kitB "dict" "bool" = some false by decide +kernel
theorem isa_list : ∀ d : Dt, kitB d.ty "list" = some d.isList
  | .non => show kitB "NoneType" "list" = some false by decide +kernel
  | .bl _ => show kitB "bool" "list" = some false by decide +kernel
  | .int _ => show kitB "int" "list" = some false by decide +kernel
  | .str _ => show kitB "str" "list" = some false by decide +kernel
  | .lst _ => show kitB "list" "list" = some true by decide +kernel
  | .tup _ => show kitB "tuple" "list" = some false by decide +kernel
  | .dct _ => show kitB "dict" "list" = some false by decide +kernel
theorem isa_tuple : ∀ d : Dt, kitB d.ty "tuple" = some d.isTuple
  | .non => show kitB "NoneType" "tuple" = some false by decide +kernel
  | .bl _ => show kitB "bool" "tuple" = some false by decide +kernel
  | .int _ => show kitB "int" "tuple" = some false by decide +kernel
  | .str _ => show kitB "str" "tuple" = some false by decide +kernel
  | .lst _ => show kitB "list" "tuple" = some false by decide +kernel
  | .tup _ => show kitB "tuple" "tuple" = some true by decide +kernel
  | .dct _ => show kitB "dict" "tuple" = some false by decide +kernel
theorem isa_seq {K : PySem.W.Frag} (d : Dt) : PySem.W.kitAny K (.type d.ty) [.type "list", .type "tuple"] = some d.items.isSome := by
  refine kitAny_cons (kit_ty (isa_list d)) (fun e => kitAny_cons (kit_ty (isa_tuple d)) (fun e2 => ?_) fun e2 => ?_) fun e => ?_
  · cases d <;> first | rfl | (cases e; done) | (cases e2; done)
  · cases d <;> first | rfl | cases e2
  · cases d <;> first | rfl | cases e

/-! ### the program's exception classes -/
abbrev veMro : List Value := [.type "ValueError", .type "Exception", .type "BaseException", .type "object"]
structure ExcF (K : PySem.W.Frag) (mg : Str → Option Value) (nm : Str) (C TE : Addr) : Prop where
  g : mg nm = some (.ref C)
  x : PySem.W.excIn K C veMro "ValueError.__new__" = true
  k : PySem.W.keepIn K (.ref C) = true
  t : PySem.W.typeIn K (.ref C) = some (.type "type")
  c : ExcC K C
  m : ∃ cd, PySem.W.clsIn K C = some cd ∧ cd.mro = .ref C :: .ref TE :: veMro
structure ExcB (K : PySem.W.Frag) (mg : Str → Option Value) (nm : Str) (TE : Addr) : Prop where
  g : mg nm = some (.ref TE)
  t : PySem.W.typeIn K (.ref TE) = some (.type "type")
  i : PySem.W.isClsIn K TE = true
  b : PySem.W.subIn K (.ref TE) (.type "BaseException") = some true
section
variable {K : PySem.W.Frag} {mg : Str → Option Value} {n n' : Str} {C D TE : Addr}
theorem ExcF.b (F : ExcF K mg n C TE) : PySem.W.subIn K (.ref C) (.type "BaseException") = some true := F.c.hs
theorem ExcF.is (F : ExcF K mg n C TE) : (PySem.W.clsIn K C).isSome = true := let ⟨cd, e, _⟩ := F.m; by rw [e]; rfl
theorem ExcF.sub (F : ExcF K mg n D TE) (v : Value) : PySem.W.subIn K (.ref D) v = some ((Value.ref D :: .ref TE :: veMro).contains v) := by
  obtain ⟨cd, e, m⟩ := F.m
  show PySem.W.mroIn K D v = _
  unfold PySem.W.mroIn
  rw [e, Option.bind_some, m]
  rfl
theorem kitCls_own (F : ExcF K mg n D TE) (h1 : (PySem.W.clsIn K C).isSome = true) (h2 : PySem.W.typeIn K (.ref C) = some (.type "type")) : PySem.W.kitCls K (.ref D) (.ref C) = some (decide (C = D) || decide (C = TE)) := by
  show (if ((PySem.W.clsIn K C).isSome && PySem.W.typeIn K (.ref C) == some (.type "type")) = true then PySem.W.subIn K (.ref D) (.ref C) else none) = _
  rw [h1, h2, if_pos (by rfl), F.sub]
  congr 1
  have e : ∀ a b : Addr, (Value.ref a == Value.ref b) = decide (a = b) := fun a b => by
    by_cases q : a = b
    · subst q
      simp
    · have : ¬ Value.ref a = Value.ref b := fun z => q (Value.ref.inj z)
      simp [q]
  rw [List.contains_cons, List.contains_cons, e, e, show veMro.contains (Value.ref C) = false from rfl, Bool.or_false]
theorem kit_own (F : ExcF K mg n D TE) (h1 : (PySem.W.clsIn K C).isSome = true) (h2 : PySem.W.typeIn K (.ref C) = some (.type "type")) : PySem.W.kitOne K (.ref D) (.ref C) = some (decide (C = D) || decide (C = TE)) := by
  unfold PySem.W.kitOne
  by_cases q : D = C
  · subst q
    simp
  · rw [if_neg (by simpa using fun z => q z)]
    exact kitCls_own F h1 h2
theorem exm_own (F : ExcF K mg n D TE) (h1 : (PySem.W.clsIn K C).isSome = true) (h2 : PySem.W.typeIn K (.ref C) = some (.type "type")) (h3 : PySem.W.subIn K (.ref C) (.type "BaseException") = some true) : PySem.W.exmOne K (.ref D) (.ref C) = some (decide (C = D) || decide (C = TE)) := by
  unfold PySem.W.exmOne
  rw [h3, if_pos (by rfl)]
  exact kitCls_own F h1 h2
theorem kit_VE (F : ExcF K mg n D TE) : PySem.W.kitOne K (.ref D) (.type "ValueError") = some true := by
  unfold PySem.W.kitOne
  rw [if_neg (by simp)]
  show (if PySem.W.kitMeta "ValueError" = true then PySem.W.subIn K (.ref D) (.type "ValueError") else none) = _
  rw [if_pos (by decide +kernel), F.sub]
  rfl
end
/-- isinstance(e, C) of an exception of one of these classes, C one of them -/
theorem pe_isC {X : Cx} {n : Str} {C TE : Addr} {i : Nat} {x : Str} {p p1 p2 pos : Pos} (G : ExcF X.K X.mg n C TE) (hne : C ≠ TE) (hv : PE X (.Name x p1) (tVar i)) (hc : PE X (.Name n p2) (tC (.ref C))) (hg : Gl X "isinstance") (hm : X.mg "isinstance" = none)
    (he : starEach [.Name x p1, .Name n p2] X.env = (false, eval (.Name x p1) X.env) :: starEach [.Name n p2] X.env := by rfl) (he2 : starEach [.Name n p2] X.env = (false, eval (.Name n p2) X.env) :: starEach [] X.env := by rfl) (hpl : (backTo pos (starEach [.Name n p2] X.env)).any (·.1) = false := by rfl) :
    PE X (.Call (.Name "isinstance" p) [.Name x p1, .Name n p2] [] pos) (fun σ H Q => ∃ (a D : Addr) (m : Str), σ[i]? = some (some (.ref a)) ∧ ExAt H a D ∧ ExcF X.K X.mg m D TE ∧ Q (.bl (decide (C = D))) H) := by
  refine (pe_callB call_isX hg hm (by decide +kernel) (pa_cons hv (pa_cons hc pa_nil he2) he) (by decide) (by decide) he hpl).imp fun σ H Q ⟨a, D, m, e, E, F, q⟩ => ?_
  exact ⟨_, e, a, D, _, _, _, rfl, .own C, E, F.c, kit_own F G.is G.t, by rw [decide_eq_false hne, Bool.or_false]; exact q⟩

/-! ### rules whose reading names the written part, for suites -/
theorem call_isXK {X : Cx} {K : PySem.W.Frag} (hK : X.K = K) : CallR X (.builtin "isinstance") (rIsX K) := hK ▸ call_isX
theorem op_eqDK {X : Cx} {K : PySem.W.Frag} (hK : X.K = K) (hu : X.A.units + 64 < cLine) : OpR X (compareOp .Eq) (rEqD K) := hK ▸ op_eqD hu
theorem op_neDK {X : Cx} {K : PySem.W.Frag} (hK : X.K = K) (hu : X.A.units + 64 < cLine) : OpR X (compareOp .NotEq) (rNeD K) := hK ▸ op_neD hu

/-! ### the end, the loose names told -/
theorem walk_ofG {l : PySem.W.OpenLaw} {n k : Nat} {q : Program} {loose : List Str} {lv : List (Str × PySem.W.WData)} {qp : Program} {YP : World → Heap → Prop} {d : DefRec} {K : Params → PySem.W.Frag} {CX : World → CXT} {sp : World → Sp} {x : Str}
    (hn : l.most = some n) (hn2 : n ≤ sizeLine) (hdf : d.params.defaults = []) (hr : Room k callerA) (hY : ∀ (w : World) (h : Heap), YP w h → (K w.params).In h)
    (F : ∀ (w : World) (mg : Str → Option Value) (fa : Addr) (h : Heap), (K w.params).In h → h.Ns mainGlobals mg → PySem.W.LooseAre lv mg h → mg d.name = some (.ref fa) →
      ∃ fd : FuncData, (∀ (s : Shared) (u : Value), BindsTo s fd ⟨[u], []⟩ [(x, u)]) ∧ ∀ base : Heap, (K w.params).In base → base.Ns mainGlobals mg → FnOk l.prog w (K w.params) mg base (CX w) k fa fd [x] (sp w))
    (hsp : ∀ (w : World) (H : Hp) (a : Addr) (ns : List Int), ns.length ≤ n → (∀ z ∈ ns, Builtin.Int.intBits z ≤ 1048576) → Only H → SqL (K w.params) H a (ns.map V.int) → sp w [.ref a] H (fun v _ => v = .bl true) fun _ _ _ => False)
    (hCX : ∀ (w : World) (H : Hp) (s : Shared) (e : Value) (s' : Shared), CX w [] H s (fun _ _ _ => False) e s' → False) :
    PySem.W.WalkO q loose (PySem.W.XL qp lv) YP l.row.toRowW d [] (fun f vs => PySem.call f vs) := by
  refine Att.attach_callB hn hdf fun w s₀ s₁ mg mb fa o pm cd doc a vs ns G Y ho hd hcd hmg hobj hints hlen hbits hg => ?_
  obtain ⟨fd, hb, hF⟩ := F w mg fa _ (hY w _ Y) G.T.g G.X.2 hmg
  exact law_call (hY w _ Y) G.T.g G.T.b G.T.builtins G.T.nolimit hg hobj hints (Nat.le_trans hlen hn2) hr hF hb (fun H hO hS => hsp w H a ns hlen hbits hO hS) fun H e s' => hCX w H s₁ e s'
theorem loose_int {lv : List (Str × PySem.W.WData)} {mg : Str → Option Value} {h : Heap} {x : Str} {i : Int} (L : PySem.W.LooseAre lv mg h) (hm : (x, PySem.W.WData.int i) ∈ lv) : ∃ t, mg x = some (.int i t) := by
  obtain ⟨v, e, r⟩ := L.val _ hm
  cases r
  exact ⟨_, e⟩
end Vf
set_option Elab.async false
set_option linter.all false
set_option maxRecDepth 100000
set_option maxHeartbeats 4000000
/-! repr of data: it asks that no repr is under way, so the defs that use it are promised with that in hand. -/
namespace Vf
open PySem PySem.Spec PyProof.Rows L2

/-! ### defs that may use repr -/
structure RoomG (k : Nat) (A : Around) : Prop where
  r : Room k A
  g : A.guards = some []
theorem RoomG.mono {j k : Nat} {A : Around} (h : RoomG k A) (e : j ≤ k) : RoomG j A := ⟨h.r.mono e, h.g⟩
theorem RoomG.deeper {k : Nat} {A : Around} (h : RoomG (k + 1) A) (env : Env) : RoomG k (A.deeper env) := ⟨h.r.deeper env, h.g⟩
structure FnG (P : Program) (w : World) (K : PySem.W.Frag) (mg : Str → Option Value) (base : Heap) (k : Nat) (f : Addr) (fd : FuncData) (ps : List Str) (sp : Sp) : Prop where
  len : ∀ vs H Q E, sp vs H Q E → vs.length = ps.length
  run : ∀ (A : Around) (outer : List Env) (s : Shared) (H : Hp) (args : Args) (us : List Value) (vs : List V) (Q : VK) (E : XK), RoomG k A → Env0 P w K mg base A outer s H → BindsTo s fd args (ps.zip us) → Vals vs us → sp vs H Q E →
    codeAny (model P w) A (.call (.ref f) args) (CR CX0 outer P w H s Q E) s
section
variable {P : Program} {w : World} {K : PySem.W.Frag} {mg : Str → Option Value} {base : Heap} {k : Nat} {f : Addr} {fd : FuncData} {ps N : List Str} {sp : Sp}
theorem fn_ofG {name qual : Str} {params : Arguments} {body : List Stmt} {scope : Scope} {dV kV doc pm cdv ct oc : Value} {an od : Option Addr} {osl : Array (Option Value)}
    (lk : K.lookup f = some ⟨oc, od, .func (PySem.W.fnOf name qual params body scope dV kV doc pm an cdv ct), osl⟩) (hcd : PySem.W.codeIn K cdv qual = true) (S : FnScope N ps scope) (len : ∀ vs H Q E, sp vs H Q E → vs.length = ps.length)
    (hbody : ∀ (A : Around) (outer : List Env) (s : Shared) (H : Hp) (vs : List V) (Q : VK) (E : XK), RoomG k (A.deeper (envOfC qual scope s.heap.objs.size f cdv)) → sp vs H Q E →
      ∃ t, PSs (cxOf CX0 P w K mg base N qual scope f cdv A outer s H E).nox body t ∧ t { nx := fun _ H' => Q .non H', rt := Q } (L2.start N vs) H) :
    FnG P w K mg base (k + 1) f (PySem.W.fnOf name qual params body scope dV kV doc pm an cdv ct) ps sp := by
  refine ⟨len, fun A outer s H args us vs Q E room e0 hb rv hsp => ?_⟩
  have kx : K.In s.heap := e0.mod.kin.keeps fun b o e => (e0.bs b o e).1
  have nolim : s.heap.NoLimit := e0.mod.nolimit.keeps fun b o e => (e0.bs b o e).1
  refine codeAny_call_function room.r.depth (kx _ _ lk) rfl S.co S.gen rfl (PySem.W.codeRec_of kx hcd) (hb _ _ _ _ (wpAny_newFunctionEnv_cells S.kind (fun ⟨n, v⟩ hy => ?_) fun env he s1 x => ?_))
  · rcases S.par n (List.of_mem_zip hy).1 with q | q
    · exact .inl q
    · exact .inr ⟨q, PySem.W.cellsFrom_some _ _ _ (.inl q)⟩
  subst he
  refine ⟨nolim.keeps x.toInCall.keep, codeAny_func ?_⟩
  obtain ⟨t, ht, hq⟩ := hbody A outer s H vs Q E (room.deeper _) hsp
  have I := inv_start (CX := CX0) (E := E) (A := A) S room.r.hd e0 (len _ _ _ _ hsp) rv x
  refine wpAny_mono (ht.nox.run [] s1 (L2.start N vs) H _ I hq) (fun fl s' hs => ?_) fun e s' z => z
  cases fl with
  | ret u => exact let ⟨v, σ', H', J, r2, q⟩ := hs; (⟨v, H', J.os, J.bare, J.base, J.hok, r2, q⟩ : CE outer P w H s Q u s')
  | next => exact let ⟨σ', H', J, q⟩ := hs; (⟨V.non, H', J.os, J.bare, J.base, J.hok, rfl, q⟩ : CE outer P w H s Q .none s')
  | brk => exact let ⟨_, _, _, q⟩ := hs; False.elim q
  | cont => exact let ⟨_, _, _, q⟩ := hs; False.elim q
theorem funOkG {x qual : Str} {st : Stmt} (F : Fun K x qual st f fd) (S : FnScope N ps (defScope st)) (len : ∀ vs H Q E, sp vs H Q E → vs.length = ps.length)
    (hbody : ∀ (cdv : Value) (A : Around) (outer : List Env) (s : Shared) (H : Hp) (vs : List V) (Q : VK) (E : XK), RoomG k (A.deeper (envOfC qual (defScope st) s.heap.objs.size f cdv)) → sp vs H Q E →
      ∃ t, PSs (cxOf CX0 P w K mg base N qual (defScope st) f cdv A outer s H E).nox (defBody st) t ∧ t { nx := fun _ H' => Q .non H', rt := Q } (L2.start N vs) H) : FnG P w K mg base (k + 1) f fd ps sp := by
  obtain ⟨oc, od, kV, doc, pm, an, cdv, ct, osl, rfl, lk, hcd⟩ := F.ex
  exact fn_ofG lk hcd S len fun A outer s H vs Q E => hbody cdv A outer s H vs Q E
end
structure CalG (P : Program) (w : World) (K : PySem.W.Frag) (mg : Str → Option Value) (base : Heap) (k : Nat) (x : Str) (ps : List Str) (sp : Sp) : Prop where
  ex : ∃ (f : Addr) (fd : FuncData), mg x = some (.ref f) ∧ PySem.W.keepIn K (.ref f) = true ∧ Binds K fd ps [] ∧ FnG P w K mg base k f fd ps sp
theorem pe_calG {X : Cx} {k : Nat} {ps : List Str} {sp : Sp} {x : Str} {p pos : Pos} {e : Expr} {es : List Expr} {t : TA} (c : CalG X.prog X.w X.K X.mg X.base k x ps sp) (hr : RoomG k X.A) (hg : Gl X x) (ha : PA X (e :: es) t) (hdb : (x == ("__debug__" : Str)) = false := by decide)
    (he : starEach (e :: es) X.env = (false, eval e X.env) :: starEach es X.env := by rfl) (hpl : (backTo pos (starEach es X.env)).any (·.1) = false := by rfl) : PE X (.Call (.Name x p) (e :: es) [] pos) (tCal sp E0 t) := by
  obtain ⟨f, fd, hm, hk, hb, F⟩ := c.ex
  refine ⟨fun pins s σ H Q I h => ?_⟩
  refine wpAny_Call_Name_kw (ld_glob I hg hm (PySem.W.callWith_K (h₀ := X.base) I.ok.mod.kin hk (thn (ha.run pos pins s σ H _ I h) fun us s1 ⟨vs, H1, I1, r, q⟩ => ⟨I1.kIn, ?_⟩) he hpl) hdb)
  have b := hb s1 us I1.kIn (by rw [List.append_nil, ← r.length]; exact F.len _ _ _ _ q)
  rw [List.append_nil] at b
  refine wpAny_call (codeAny_mono (F.run X.A X.stack s1 H1 ⟨us, []⟩ us vs Q E0 hr I1.env0 b r q) fun r' s' hq => ?_)
  cases r' with
  | error e => exact False.elim hq
  | ok fl => cases fl with
    | ret u => exact I1.after hq
    | next => exact False.elim hq
    | brk => exact False.elim hq
    | cont => exact False.elim hq

/-! ### the end for such a law -/
theorem law_callG {P : Program} {w : World} {K : PySem.W.Frag} {mg mb : Str → Option Value} {k : Nat} {fa a : Addr} {fd : FuncData} {x : Str} {sp : Sp} {s₁ : Shared} {vs : List Value} {ns : List Int}
    (KX : K.In s₁.heap) (hns : s₁.heap.Ns mainGlobals mg) (hb : s₁.heap.Ns builtinsNs mb) (hbb : ∀ x : Str, x ≠ "__name__" → mb x = bootBuiltins x) (hlim : s₁.heap.NoLimit) (hg : s₁.gens = #[])
    (ha : s₁.heap.get? a = some { cls := .type "list", data := .seq vs.toArray }) (hi : IntsAre vs ns) (hl : ns.length ≤ sizeLine) (hr : RoomG k callerA)
    (F : ∀ base : Heap, K.In base → base.Ns mainGlobals mg → FnG P w K mg base k fa fd [x] sp) (hbind : ∀ (s : Shared) (u : Value), BindsTo s fd ⟨[u], []⟩ [(x, u)])
    (hsp : ∀ H : Hp, Only H → SqL K H a (ns.map V.int) → sp [.ref a] H (fun v _ => v = .bl true) fun _ _ _ => False) :
    codeAny (model P w) callerA (.call (.ref fa) ⟨[.ref a], []⟩) (fun r s' => r = .ok (.ret (.bool true)) ∧ OldK s₁.heap s'.heap ∧ s'.os = s₁.os ∧ AllBare s'.gens) s₁ := by
  have rv := vals_ints hi
  have lv := hi.length
  have go : ∀ H : Hp, Only H → SqL K H a (ns.map V.int) → HOk P w H s₁.heap → (∀ b u, H b = some u → b = a ∧ K.lookup a = none) →
      codeAny (model P w) callerA (.call (.ref fa) ⟨[.ref a], []⟩) (fun r s' => r = .ok (.ret (.bool true)) ∧ OldK s₁.heap s'.heap ∧ s'.os = s₁.os ∧ AllBare s'.gens) s₁ := by
    intro H hO hS hok hA
    have dicts : ∀ {b : Addr} {o : Obj} {es : Array DictEntry} {ep : Nat}, s₁.heap.get? b = some o → o.data = .dict es ep → H b = none := fun {b o es ep} e d => by
      cases q : H b with
      | none => rfl
      | some u =>
        obtain ⟨rfl, _⟩ := hA b u q
        rw [ha] at e
        cases e
        exact nomatch (show Data.seq vs.toArray _ = Data.dict es ep from d)
    have ns' : ∀ {b : Addr} {m : Str → Option Value}, s₁.heap.Ns b m → (hidT s₁.heap H).Ns b m := fun {b m} ⟨o, es, ep, e, d, r⟩ => ⟨o, es, ep, hidT_get e (dicts e d), d, r⟩
    have kin : K.In (hidT s₁.heap H) := fun b o e => hidT_get (KX b o e) (by
      cases q : H b with
      | none => rfl
      | some u =>
        obtain ⟨rfl, z⟩ := hA b u q
        rw [z] at e
        cases e)
    have e0 : Env0 P w K mg (hidT s₁.heap H) callerA [] s₁ H := ⟨rfl, ⟨kin, ns' hns, ⟨mb, ns' hb, hbb⟩, let ⟨mc, h1, h2⟩ := hlim; ⟨mc, ns' h1, h2⟩⟩, fun b o e => of_hidT e, Nat.le_of_eq (hidT_size _ _), trivial, fun b z => absurd (show b ∈ ([] : List Addr) from z) (by simp), hok, .of_eq hg⟩
    refine codeAny_mono ((F _ kin (ns' hns)).run callerA [] s₁ H ⟨[.ref a], []⟩ [.ref a] [.ref a] _ _ hr e0 (hbind s₁ (.ref a)) (.cons rfl .nil) (hsp H hO hS)) fun r s' h => ?_
    cases r with
    | error e => exact False.elim h
    | ok fl => cases fl with
      | next => exact False.elim h
      | brk => exact False.elim h
      | cont => exact False.elim h
      | ret u =>
        obtain ⟨v, H', os, bare, un, hok', r', q⟩ := h
        obtain rfl : v = .bl true := q
        obtain rfl : u = Value.bool true := r'
        refine ⟨rfl, OldK.of_keep fun b o e => ?_, os, bare⟩
        cases q : H b with
        | none => exact un.keep b o e q (fun z => nomatch z) (fun z => nomatch z)
        | some u =>
          rcases hO b with z | ⟨ob, xs, z⟩
          · rw [q] at z
            cases z
          · have e1 := (hok b _ z).1
            rw [e] at e1
            cases e1
            exact (hok' b _ (un.frzs b _ _ z)).1
  cases hk : K.lookup a with
  | some o =>
    have e := KX a o hk
    rw [ha] at e
    cases e
    exact go (fun _ => none) (fun _ => .inl rfl) (.inr ⟨_, vs.toArray, _, hk, rfl, rfl, rfl, by rw [List.size_toArray, lv]; exact hl, by simpa using rv⟩) (fun b u z => nomatch z) fun b u z => nomatch z
  | none =>
    have at_ : ∀ b u, (if b = a then some (HO.frz { cls := .type "list", data := .seq vs.toArray } (.lst (ns.map V.int))) else none) = some u → b = a ∧ u = HO.frz { cls := .type "list", data := .seq vs.toArray } (.lst (ns.map V.int)) := fun b u z => by
      by_cases h : b = a
      · rw [if_pos h] at z
        exact ⟨h, (Option.some.inj z).symm⟩
      · rw [if_neg h] at z
        cases z
    refine go (fun b => if b = a then some (.frz { cls := .type "list", data := .seq vs.toArray } (.lst (ns.map V.int))) else none) (fun b => ?_) (.inl (.inr ⟨_, if_pos rfl⟩)) (fun b u z => ?_) fun b u z => ⟨(at_ b u z).1, hk⟩
    · by_cases h : b = a
      · exact .inr ⟨_, _, if_pos h⟩
      · exact .inl (if_neg h)
    · obtain ⟨rfl, rfl⟩ := at_ b u z
      exact ⟨ha, by rw [List.length_map]; exact hl, vs, _, rv, ha⟩
theorem walk_ofR {l : PySem.W.OpenLaw} {n k : Nat} {q : Program} {loose : List Str} {lv : List (Str × PySem.W.WData)} {qp : Program} {YP : World → Heap → Prop} {d : DefRec} {K : Params → PySem.W.Frag} {sp : World → Sp} {x : Str}
    (hn : l.most = some n) (hn2 : n ≤ sizeLine) (hdf : d.params.defaults = []) (hr : RoomG k callerA) (hY : ∀ (w : World) (h : Heap), YP w h → (K w.params).In h)
    (F : ∀ (w : World) (mg : Str → Option Value) (fa : Addr) (h : Heap), (K w.params).In h → h.Ns mainGlobals mg → PySem.W.LooseAre lv mg h → mg d.name = some (.ref fa) →
      ∃ fd : FuncData, (∀ (s : Shared) (u : Value), BindsTo s fd ⟨[u], []⟩ [(x, u)]) ∧ ∀ base : Heap, (K w.params).In base → base.Ns mainGlobals mg → FnG l.prog w (K w.params) mg base k fa fd [x] (sp w))
    (hsp : ∀ (w : World) (H : Hp) (a : Addr) (ns : List Int), ns.length ≤ n → Only H → SqL (K w.params) H a (ns.map V.int) → sp w [.ref a] H (fun v _ => v = .bl true) fun _ _ _ => False) :
    PySem.W.WalkO q loose (PySem.W.XL qp lv) YP l.row.toRowW d [] (fun f vs => PySem.call f vs) := by
  refine Att.attach_callB hn hdf fun w s₀ s₁ mg mb fa o pm cd doc a vs ns G Y ho hd hcd hmg hobj hints hlen hbits hg => ?_
  obtain ⟨fd, hb, hF⟩ := F w mg fa _ (hY w _ Y) G.T.g G.X.2 hmg
  exact law_callG (hY w _ Y) G.T.g G.T.b G.T.builtins G.T.nolimit hg hobj hints (Nat.le_trans hlen hn2) hr hF hb fun H hO hS => hsp w H a ns hlen hO hS

/-! ### repr -/
def rRepr (K : PySem.W.Frag) : List V → Hp → VK → Prop := fun xs H Q => ∃ (v : V) (d : PyData), xs = [v] ∧ Dp K H v d ∧ d.showable = true ∧ d.hasDict = false ∧ d.depth ≤ 60 ∧ d.shown.length ≤ sizeLine ∧ Q (.str d.shown) H
theorem call_repr {X : Cx} (hg : X.A.guards = some []) (hu : X.A.units + 64 < cLine) : CallR X (.builtin "repr") (rRepr X.K) := by
  intro pins s σ H xs us Q I r h
  obtain ⟨v, d, rfl, D, hs, hD, hd, hz, q⟩ := h
  obtain ⟨u, rfl, ru⟩ := vals1 r
  cases D with
  | non => cases ru; exact PySem.P.repr_of_none ⟨.str _, H, I.tok _, ⟨_, rfl⟩, q⟩
  | bl b =>
    cases ru
    exact PySem.P.repr_of_bool ⟨.str _, H, I.tok _, ⟨_, rfl⟩, q⟩
  | int i =>
    obtain ⟨t, rfl⟩ := ru
    exact PySem.P.repr_of_int (of_decide_eq_true hs) ⟨.str _, H, I.tok _, ⟨_, rfl⟩, q⟩
  | str x =>
    obtain ⟨t, rfl⟩ := ru
    exact PySem.P.repr_of_str ⟨.str _, H, I.tok _, ⟨_, rfl⟩, q⟩ hz
  | @lst a ys ds h1 h2 =>
    cases ru
    obtain ⟨as, R⟩ := Dp.reads I (.list ds) (.ref a) (.ref a) (.lst h1 h2) rfl
    exact repr_of_reads' R hs (fun z => by rw [hD] at z; cases z) hg (by omega) (fun b o e => e) (fun h' u tk k => ⟨.str _, H, I.kept (t' := tk) k, ⟨_, rfl⟩, q⟩) hz
  | @tup a ys ds h1 h2 =>
    cases ru
    obtain ⟨as, R⟩ := Dp.reads I (.tuple ds) (.ref a) (.ref a) (.tup h1 h2) rfl
    exact repr_of_reads' R hs (fun z => by rw [hD] at z; cases z) hg (by omega) (fun b o e => e) (fun h' u tk k => ⟨.str _, H, I.kept (t' := tk) k, ⟨_, rfl⟩, q⟩) hz

/-! ### data that is small enough to be shown -/
mutual
/-- numbers of at most sixty figures, no texts, no dicts; at most n things, d deep -/
def Nice : PyData → Bool
  | .none => true
  | .bool _ => true
  | .int i => decide (i.natAbs < 10 ^ 60)
  | .str _ => false
  | .list l => NiceL l
  | .tuple l => NiceL l
  | .dict _ => false
def NiceL : List PyData → Bool
  | [] => true
  | d :: r => Nice d && NiceL r
end
mutual
def nodes : PyData → Nat
  | .list l => 1 + nodesL l
  | .tuple l => 1 + nodesL l
  | _ => 1
def nodesL : List PyData → Nat
  | [] => 0
  | d :: r => nodes d + nodesL r
end
theorem textFrom_le : ∀ (ts : List Str) (k : Nat) (acc : Str), (textFrom k acc ts).length ≤ acc.length + piled ts
  | [], k, acc => by simp [textFrom, piled]
  | t :: r, k, acc => by
    have e : (acc ++ (if k > 0 then ", " else "" : String) ++ t).length ≤ acc.length + 2 + t.length := by
      rw [strLen_append, strLen_append]
      have : ((if k > 0 then ", " else "" : String) : Str).length ≤ 2 := by split <;> decide
      omega
    have ih := textFrom_le r (k + 1) (acc ++ (if k > 0 then ", " else "" : String) ++ t)
    show (textFrom (k + 1) _ r).length ≤ _
    rw [piled_cons]
    omega
theorem listText_le (ts : List Str) : (listText ts).length ≤ 2 + piled ts := by
  have h := textFrom_le ts 0 "["
  unfold listText
  rw [strLen_append]
  have e1 : (("[" : String) : Str).length = 1 := rfl
  have e2 : (("]" : String) : Str).length = 1 := rfl
  omega
theorem tupleText_le (ts : List Str) : (tupleText ts).length ≤ 3 + piled ts := by
  unfold tupleText
  rw [strLen_append, strLen_append]
  have e1 : (("(" : String) : Str).length = 1 := rfl
  have e3 : (((if ts.length == 1 then ",)" else ")" : String) : Str)).length ≤ 2 := by split <;> decide
  have e2 : (Str.join ", " ts).length ≤ piled ts := by
    cases ts with
    | nil => decide
    | cons t r =>
      have := join_length_add (t :: r) (by simp)
      omega
  omega
mutual
theorem nice_show : ∀ d : PyData, Nice d = true → d.showable = true ∧ d.hasDict = false ∧ d.shown.length + 2 ≤ 100 * nodes d
  | .none, _ => ⟨rfl, rfl, by decide⟩
  | .bool b, _ => ⟨rfl, rfl, by cases b <;> decide⟩
  | .int i, h => by
    have h : i.natAbs < 10 ^ 60 := of_decide_eq_true h
    refine ⟨?_, rfl, ?_⟩
    · refine decide_eq_true ?_
      by_cases z : i.natAbs = 0
      · rw [z]; decide
      · exact (Nat.log2_lt z).mpr (Nat.lt_of_lt_of_le h (by decide +kernel))
    · have e := int_text_length_le10 (k := 60) (by decide) h
      have e2 : (PyData.shown (.int i)).length = (toString i).length := by
        show (Str.ofString (toString i)).length = _
        rw [PySem.ofString_length]
      rw [e2]
      show _ ≤ 100 * 1
      omega
  | .str _, h => nomatch h
  | .list l, h => by
    obtain ⟨h1, h2, h3⟩ := nice_showL l h
    refine ⟨h1, h2, ?_⟩
    have := listText_le (PyData.shownAll l)
    show (listText (PyData.shownAll l)).length + 2 ≤ 100 * (1 + nodesL l)
    omega
  | .tuple l, h => by
    obtain ⟨h1, h2, h3⟩ := nice_showL l h
    refine ⟨h1, h2, ?_⟩
    have := tupleText_le (PyData.shownAll l)
    show (tupleText (PyData.shownAll l)).length + 2 ≤ 100 * (1 + nodesL l)
    omega
  | .dict _, h => nomatch h
theorem nice_showL : ∀ l : List PyData, NiceL l = true → PyData.showableAll l = true ∧ PyData.hasDictAll l = false ∧ piled (PyData.shownAll l) ≤ 100 * nodesL l
  | [], _ => ⟨rfl, rfl, by decide⟩
  | d :: r, h => by
    have h : (Nice d && NiceL r) = true := h
    rw [Bool.and_eq_true] at h
    obtain ⟨a1, a2, a3⟩ := nice_show d h.1
    obtain ⟨b1, b2, b3⟩ := nice_showL r h.2
    refine ⟨?_, ?_, ?_⟩
    · show (d.showable && PyData.showableAll r) = true
      rw [a1, b1]
      rfl
    · show (d.hasDict || PyData.hasDictAll r) = false
      rw [a2, b2]
      rfl
    · show piled (d.shown :: PyData.shownAll r) ≤ 100 * (nodes d + nodesL r)
      rw [piled_cons]
      omega
end
/-- what repr asks, of nice data of at most 1,000 things -/
theorem repr_ok {K : PySem.W.Frag} {H : Hp} {v : V} {d : PyData} {Q : VK} (D : Dp K H v d) (n : Nice d = true) (h : nodes d ≤ 1000) (hd : d.depth ≤ 60) (q : Q (.str d.shown) H) : rRepr K [v] H Q := by
  obtain ⟨h1, h2, h3⟩ := nice_show d n
  exact ⟨v, d, rfl, D, h1, h2, hd, by rw [sizeLine_eq]; omega, q⟩
end Vf
set_option Elab.async false
set_option linter.all false
set_option maxRecDepth 100000
set_option maxHeartbeats 4000000
namespace Vf
open PySem PySem.Spec PyProof.Rows L2
/-! ### a tuple times one is the tuple itself -/
theorem tuple_mul1 (l : Addr) (items : Array Value) (n : Nat) (dd : Option Addr) (sl : Array (Option Value)) (u : Tok) :
    Meets (Builtin.«tuple.__mul__» ⟨[.ref l, .int 1 u], []⟩) (fun _ R s => s.heap.get? l = some { cls := .type "tuple", dict := dd, data := .seq items n, slots := sl } ∧ R (.ok (.ret (Value.ref l))) s) :=
  .of_wp fun prog w A R s h => by
    obtain ⟨hp, g, d, tk, os⟩ := s
    obtain ⟨hl, h⟩ := h
    have f1 := AutoSeq1.idx_int
    wp_walk using wpAny_loadPart' hl
    exact ⟨_, rfl, h⟩
/-- a tuple times a number from 1 on -/
def rRepU (K : PySem.W.Frag) : R2 := fun x y H Q => ∃ l k xs, x = .ref l ∧ y = .int k ∧ SqT K H l xs ∧ xs ≠ [] ∧ 1 ≤ k ∧ k ≤ 1000 ∧ xs.length ≤ 1000 ∧ ∀ (H' : Hp) (p : Addr), Same H H' → SqT K H' p (List.replicate k.toNat xs).flatten → Q (.ref p) H'
theorem op_repU {X : Cx} : OpR X (binaryOp .Mult) (rRepU X.K) := by
  intro pins s σ H x y v u Q I rx ry h
  obtain ⟨l, k, xs, rfl, rfl, hT, hne, h1, h2, hz, q⟩ := h
  by_cases e : k = 1
  · subst e
    cases rx
    obtain ⟨t, rfl⟩ := ry
    obtain ⟨its, r, ⟨⟨cls, dd, data, sl⟩, ho, hc, n, hd⟩, hs⟩ := I.tuple hT
    simp only at hc hd
    subst hc hd
    refine wpAny_binaryOp_repeat_ref (T := "tuple") (U := "int") (by decide) ⟨_, ho, rfl⟩ (fun s' => typeIs_int s' 1 t) noFill_tuple_mul F.fills_int_mul F.slot_int_rmul repeat_tuple F.slot_int_index.lookup
      (call_meets F.slot_int_rmul (typeIs_int s 1 t) F.entry_int_rmul (F.args_int_rmul_2 _ _) (int_rmul_tuple 1 t l its.toArray n dd sl)
        ⟨ho, rfl, ⟨_, ho, rfl⟩, call_meets F.slot_tuple_mul ⟨_, ho, rfl⟩ F.entry_tuple_mul (F.args_tuple_mul_2 _ _) (tuple_mul1 l its.toArray n dd sl t) ⟨ho, ?_⟩⟩)
    refine ⟨.ref l, H, I, rfl, q H l (Same.refl _) ?_⟩
    have e2 : (List.replicate (Int.toNat 1) xs).flatten = xs := by simp
    rw [e2]
    exact hT
  · exact op_repT pins s σ H _ _ v u Q I rx ry ⟨l, k, xs, rfl, rfl, hT, hne, by omega, h2, hz, fun p np => q _ p (same_upd np) (SqT.of upd_same)⟩
/-! ### the rules that name the written part, with it as a letter -/
section
variable {X : Cx} {K : PySem.W.Frag}
def rTupOf (K : PySem.W.Frag) : List V → Hp → VK → Prop := fun xs H Q => ∃ p ys, xs = [.ref p] ∧ ((SqL K H p ys ∧ ∀ l, H l = none → Q (.ref l) (upd H l (.tup ys))) ∨ (SqT K H p ys ∧ Q (.ref p) H))
def rLstOf (K : PySem.W.Frag) : List V → Hp → VK → Prop := fun xs H Q => ∃ p ys, xs = [.ref p] ∧ (SqL K H p ys ∨ SqT K H p ys) ∧ ∀ l, H l = none → Q (.ref l) (upd H l (.lst ys))
def rLenOf (K : PySem.W.Frag) : List V → Hp → VK → Prop := fun xs H Q => ∃ p ys, xs = [.ref p] ∧ (SqL K H p ys ∨ SqT K H p ys) ∧ Q (.int ys.length) H
theorem tuple_ofK (hK : X.K = K) : CallR X (.type "tuple") (rTupOf K) := by subst hK; exact call_tuple_of
theorem list_ofK (hK : X.K = K) : CallR X (.type "list") (rLstOf K) := by subst hK; exact call_list_of
theorem len_ofK (hK : X.K = K) : CallR X (.builtin "len") (rLenOf K) := by subst hK; exact call_len_seq
theorem ix_listK (hK : X.K = K) : IxR X (rIxL K) := by subst hK; exact ix_list
theorem ix_tupK (hK : X.K = K) : IxR X (rIxT K) := by subst hK; exact ix_tup
theorem isiK (hK : X.K = K) : CallR X (.builtin "isinstance") (rIsi K) := by subst hK; exact call_isi
theorem isiTK (hK : X.K = K) : CallR X (.builtin "isinstance") (rIsiT K) := by subst hK; exact call_isiT
theorem sumK (hK : X.K = K) (hc : X.calm = true) : CallR X (.builtin "sum") (rSum K) := by subst hK; exact cr_sum hc
theorem allK (hK : X.K = K) (hc : X.calm = true) : CallR X (.builtin "all") (rAll K) := by subst hK; exact cr_all hc
theorem reprK (hK : X.K = K) (hg : X.A.guards = some []) (hu : X.A.units + 64 < cLine) : CallR X (.builtin "repr") (rRepr K) := by subst hK; exact call_repr hg hu
theorem repUK (hK : X.K = K) : OpR X (binaryOp .Mult) (rRepU K) := by subst hK; exact op_repU
end
/-! ### for over a list or a tuple -/
def tForS (K : PySem.W.Frag) (tl : TE) (g : TG) (tb : TS) : TS := fun D σ H => tl σ H fun x H1 => ∃ (a : Addr) (xs : List V) (Pv : Nat → L2.St → Hp → Prop), x = .ref a ∧ SqV K H1 a xs ∧ Pv 0 σ H1 ∧
  (∀ i σ2 H2, i ≤ xs.length → Pv i σ2 H2 → (SqL K H1 a xs → SqL K H2 a xs) ∧ (SqT K H1 a xs → SqT K H2 a xs)) ∧
  (∀ i x σ2 H2, xs[i]? = some x → Pv i σ2 H2 → g x σ2 H2 fun σ3 H3 => tb { D with nx := Pv (i + 1), ct := Pv (i + 1), bk := D.nx } σ3 H3) ∧ (∀ σ2 H2, Pv xs.length σ2 H2 → D.nx σ2 H2)
theorem ps_forS {X : Cx} {tg l : Expr} {body : List Stmt} {tl : TE} {g : TG} {tb : TS} {pos : Pos} (hp : PassesOwn (model X.prog X.w) X.A X.env X.xe) (hc : X.calm = true) (hl : PE X l tl) (mo : MonoE tl) (hg : PG X tg g) (hb : PSs X body tb)
    (hs : ∀ x, foldedSetIterable l X.env x = pure x := by intro _; rfl) : PS X (.For tg l body [] pos) (tForS X.K tl g tb) := by
  refine ⟨fun pins s σ H D I h => (ps_for hp hc (pi_seq hl) hg hb hs).run pins s σ H D I (mo _ _ _ _ (fun x H1 q => ?_) h)⟩
  obtain ⟨a, xs, Pv, rfl, hS, h0, hk, hst, hd⟩ := q
  refine ⟨a, rfl, ?_⟩
  rcases hS with hS | hS
  · exact .inl ⟨⟨xs, hS⟩, for_list (K := X.K) (a := a) (xs := xs) (g := g) (tb := tb) (D := D) Pv h0 (fun i σ2 H2 hi p => (hk i σ2 H2 hi p).1 hS) hst hd⟩
  · exact .inr ⟨⟨xs, hS⟩, for_tup (K := X.K) (a := a) (xs := xs) (g := g) (tb := tb) (D := D) Pv h0 (fun i σ2 H2 hi p => (hk i σ2 H2 hi p).2 hS) hst hd⟩
theorem Kp.put {t b : Addr} {o : HO} {H H1 : Hp} (a : Kp t H H1) (n : H b = none) (nt : b ≠ t) : Kp t H (upd H1 b o) := ⟨fun c u e h => by rw [upd_ne (ne_of_none e n)]; exact a.1 c u e h, let ⟨m, e⟩ := a.2; ⟨m, by rw [upd_ne nt.symm]; exact e⟩⟩
section
variable {K : PySem.W.Frag} {H H' : Hp}
mutual
theorem dp_same (s : Same H H') : ∀ {v : V} {d : PyData}, Dp K H v d → Dp K H' v d
  | _, _, .non => .non
  | _, _, .bl b => .bl b
  | _, _, .int i => .int i
  | _, _, .str x => .str x
  | _, _, .lst h r => .lst (s.seq h) (dp_sameL s r)
  | _, _, .tup h r => .tup (Same.seqT s h) (dp_sameL s r)
theorem dp_sameL (s : Same H H') : ∀ {v : List V} {d : List PyData}, DpAll K H v d → DpAll K H' v d
  | _, _, .nil => .nil
  | _, _, .cons h r => .cons (dp_same s h) (dp_sameL s r)
end
end
end Vf
set_option Elab.async false
set_option linter.all false
set_option maxRecDepth 100000
set_option maxHeartbeats 4000000
namespace Vf
open PySem PySem.Spec PyProof.Rows L2
/-! ### methods by their names -/
structure Mth (P : Program) (w : World) (K : PySem.W.Frag) (mg : Str → Option Value) (base : Heap) (CX : CXT) (k : Nat) (C : Addr) (m : Str) (ps : List Str) (sp : Sp) : Prop where
  cl : Cls K C
  ex : ∃ (f : Addr) (fd : FuncData), Meth K C m f ∧ Binds K fd ps [] ∧ FnOk P w K mg base CX k f fd ps sp
def tMth (C : Addr) (m : Str) (sp : Sp) (E : XK) (ta : TE) (t : TA) : TE := fun σ H Q => ta σ H fun x H1 => ∃ a dx fs, x = .ref a ∧ H1 a = some (.ins C dx fs) ∧ fs.lookup m = none ∧ t σ H1 fun vs H2 => sp (x :: vs) H2 Q E
section
variable {X : Cx} {CX : CXT} {k : Nat} {C : Addr} {m : Str} {ps : List Str} {sp : Sp} {E : XK} {o e : Expr} {es : List Expr} {ta : TE} {t : TA} {apos pos : Pos}
theorem pe_mth {pl : Sem Bool} (c : Mth X.prog X.w X.K X.mg X.base CX k C m ps sp) (hr : Room k X.A) (hx : Passes CX X E) (he : PE X o ta) (ha : PA X (e :: es) t)
    (hst : starEach (e :: es) X.env = (false, eval e X.env) :: starEach es X.env := by rfl) (hpl : (backTo pos (starEach es X.env)).any (·.1) = false := by rfl)
    (ht : eval (.Call (.Attribute o m apos) (e :: es) [] pos) X.env = (do
      let ov ← eval o X.env
      standAt apos.atName
      let (f, first) ← holding [ov] (getMethod ov m pl)
      callWith pos f first (backTo pos (starEach (e :: es) X.env)) (backToKw pos (keywordEach [] X.env))) := by rfl) :
    PE X (.Call (.Attribute o m apos) (e :: es) [] pos) (tMth C m sp E ta t) := by
  obtain ⟨f, fd, hm, hb, F⟩ := c.ex
  exact (pe_meth (dvs := []) (pl := pl) he c.cl hm F hr hb .nil hx ha hst hpl ht).imp fun σ H Q q => by
    unfold tMeth
    simp only [List.append_nil]
    exact q
theorem pe_mth0 {pl : Sem Bool} (c : Mth X.prog X.w X.K X.mg X.base CX k C m ps sp) (hr : Room k X.A) (hx : Passes CX X E) (he : PE X o ta)
    (ht : eval (.Call (.Attribute o m apos) [] [] pos) X.env = (do
      let ov ← eval o X.env
      standAt apos.atName
      let (f, first) ← holding [ov] (getMethod ov m pl)
      callWith pos f first (backTo pos (starEach [] X.env)) (backToKw pos (keywordEach [] X.env))) := by rfl) :
    PE X (.Call (.Attribute o m apos) [] [] pos) (tMth C m sp E ta tNil) := by
  obtain ⟨f, fd, hm, hb, F⟩ := c.ex
  exact (pe_meth0 (dvs := []) (pl := pl) he c.cl hm F hr hb .nil hx ht).imp fun σ H Q q => by
    unfold tMeth
    simp only [List.append_nil]
    exact q
end
theorem Same.put {H H1 : Hp} {b : Addr} {o : HO} (s : Same H H1) (n : H b = none) : Same H (upd H1 b o) := fun c u e => by
  rw [upd_ne (ne_of_none e n)]
  exact s c u e
end Vf
set_option Elab.async false
set_option linter.all false
set_option maxRecDepth 100000
set_option maxHeartbeats 4000000
/-! zip of any number of lists and tuples. -/
namespace Vf
open PySem PySem.Spec PyProof.Rows L2
/-- a part of a zip: is it a list's, its iterator, what that goes through -/
structure Pt where
  b : Bool
  it : Addr
  l : Addr
def Pt.ic (p : Pt) : String := match p.b with
  | true => "list_iterator"
  | false => "tuple_iterator"
def Pt.sc (p : Pt) : String := match p.b with
  | true => "list"
  | false => "tuple"
def Pt.At (p : Pt) (h : Heap) (i : Nat) : Prop := ∃ o, h.get? p.it = some o ∧ o.cls = .type p.ic ∧ o.data = .fields #[.ref p.l, .int i 0]
def Pt.Src (p : Pt) (h : Heap) (vs : List Value) : Prop := ∃ o, h.get? p.l = some o ∧ o.cls = .type p.sc ∧ ∃ n, o.data = .seq vs.toArray n
theorem Pt.At.move {p : Pt} {h h' : Heap} {i : Nat} (a : p.At h i) (f : ∀ o, h.get? p.it = some o → h'.get? p.it = some o) : p.At h' i := let ⟨o, e, r⟩ := a; ⟨o, f o e, r⟩
theorem Pt.Src.move {p : Pt} {h h' : Heap} {vs : List Value} (a : p.Src h vs) (f : ∀ o, h.get? p.l = some o → h'.get? p.l = some o) : p.Src h' vs := let ⟨o, e, r⟩ := a; ⟨o, f o e, r⟩
section
variable {prog : Program} {w : World} {A : Around} {E : Value → Shared → Prop} {s : Shared}
theorem Pt.next {p : Pt} {i : Nat} {vs : List Value} {x : Value} {Q : Value → Shared → Prop} (a : p.At s.heap i) (c : p.Src s.heap vs) (hx : vs[i]? = some x)
    (hQ : ∀ h', p.At h' (i + 1) → Heap.SameBut p.it s.heap h' → Q x { s with heap := h' }) : wpAny (model prog w) A (Builtin.SmallTypes.nextOf (.ref p.it)) Q E s := by
  obtain ⟨b, it, l⟩ := p
  have hx' : vs.toArray[i]? = some x := by simpa using hx
  cases b with
  | true => exact wpAny_nextOf_list_item a c hx' hQ
  | false => exact RZ.nextOf_tuple_item a c hx' hQ
theorem Pt.stop {p : Pt} {i : Nat} {vs : List Value} {Q : Value → Shared → Prop} (hh : A.handled = none) (a : p.At s.heap i) (c : p.Src s.heap vs) (hx : vs[i]? = none)
    (hE : ∀ h' e, Heap.ExtBut p.it s.heap h' → (∃ o, h'.get? e = some o ∧ o.cls = .type "StopIteration") → E (.ref e) { s with heap := h' }) : wpAny (model prog w) A (Builtin.SmallTypes.nextOf (.ref p.it)) Q E s := by
  obtain ⟨b, it, l⟩ := p
  have hx' : vs.toArray[i]? = none := by simpa using hx
  cases b with
  | true => exact wpAny_nextOf_list_end hh a c hx' hE
  | false => exact RZ.nextOf_tuple_end hh a c hx' hE
end
/-- all these are apart -/
structure ZAp (z TI TO : Addr) (ps : List Pt) : Prop where
  TIz : TI ≠ z
  TOz : TO ≠ z
  TITO : TI ≠ TO
  i : ∀ p ∈ ps, p.it ≠ z ∧ p.it ≠ TI ∧ p.it ≠ TO
  l : ∀ p ∈ ps, p.l ≠ z ∧ p.l ≠ TO ∧ ∀ q ∈ ps, p.l ≠ q.it
  nd : (ps.map (·.it)).Nodup
abbrev ZO (h : Heap) (z TI TO : Addr) (f0 : Value) (f1 : Bool) : Prop := h.get? z = some { cls := .type "zip", dict := none, data := .fields #[f0, .bool f1, .bool false, .ref TI, .ref TO], slots := #[] }
abbrev TupIs (h : Heap) (T : Addr) (ys : Array Value) : Prop := h.get? T = some { cls := .type "tuple", data := .seq ys }
def Own0 (f0 : Value) : Prop := f0 = .none ∨ ∃ T : Nat, f0 = rawInt T
section
variable {prog : Program} {w : World} {A : Around} {E : Value → Shared → Prop} {s : Shared} {z TI TO : Addr} {f0 : Value} {f1 : Bool}
theorem alive_any {a : Addr} {Q : Option Obj → Shared → Prop} (h : Q (s.heap.get? a) s) : wpAny (model prog w) A (loadIfAlive a) Q E s := fun _ _ _ => h
theorem owned_free {Q : Bool → Shared → Prop} (hz : ZO s.heap z TI TO f0 f1) (hf0 : Own0 f0) (ht : Q true s) (hf : ∀ h', ZO h' z TI TO f0 true → Heap.SameBut z s.heap h' → Q false { s with heap := h' }) :
    wpAny (model prog w) A (Builtin.SmallTypes.ownedTupleIsFree (.ref z)) Q E s := by
  unfold Builtin.SmallTypes.ownedTupleIsFree
  refine wpAny_bind (wpAny_field hz rfl (x := f0) rfl ?_)
  rcases hf0 with rfl | ⟨T, rfl⟩
  · exact wpAny_pure ht
  · show wpAny _ _ (loadIfAlive ((T : Int).toNat) >>= _) _ _ _
    refine wpAny_bind (alive_any ?_)
    cases s.heap.get? ((T : Int).toNat) with
    | none => exact wpAny_pure ht
    | some o =>
      simp only [Option.isNone_some, Bool.false_eq_true, if_false]
      refine wpAny_bind (wpAny_field hz rfl (x := .bool f1) rfl ?_)
      cases f1 with
      | true => exact wpAny_pure (hf s.heap hz (Heap.SameBut.refl _ _))
      | false => exact wpAny_bind (wpAny_setField_rec hz (by simp) fun h1 hz1 hs1 => wpAny_pure (hf h1 hz1 hs1))
/-- what a turn leaves as it was -/
def Still (z TO : Addr) (ps : List Pt) (h h' : Heap) : Prop := ∀ c o, c ≠ z → c ≠ TO → (∀ p ∈ ps, c ≠ p.it) → h.get? c = some o → h'.get? c = some o
theorem wp_putSeq {T : Addr} {ys : Array Value} {k : Nat} {x : Value} {Q : Unit → Shared → Prop} (hT : TupIs s.heap T ys) (hy : ys.size ≤ sizeLine) (h : ∀ h', TupIs h' T (ys.setIfInBounds k x) → Heap.SameBut T s.heap h' → Q () { s with heap := h' }) :
    wpAny (model prog w) A (updateSeq T fun q => q.setIfInBounds k x) Q E s := by
  refine wpAny_updateSeq hT rfl (h _ ?_ (Heap.SameBut.update ..)) hy (by rw [Array.size_setIfInBounds]; omega)
  exact (Heap.get?_update_self _ hT rfl).trans (by simp [Obj.mapSeq])
/-- the parts in the midst of a turn: d are a step on, r not yet -/
structure ZMid (z TI TO : Addr) (ps : List Pt) (i : Nat) (h0 : Heap) (d r : List Pt) (h : Heap) : Prop where
  on : ∀ p ∈ d, p.At h (i + 1)
  off : ∀ p ∈ r, p.At h i
  size : h.objs.size = h0.objs.size
  still : Still z TO ps h0 h
theorem ZMid.start {ps : List Pt} {i : Nat} {h0 h : Heap} (D : ZAp z TI TO ps) (hat : ∀ p ∈ ps, p.At h0 i) (sb : Heap.SameBut z h0 h) : ZMid z TI TO ps i h0 [] ps h :=
  ⟨fun _ m => (nomatch m), fun p m => (hat p m).move fun o e => sb.extBut _ _ (D.i p m).1 e, sb.1, fun c o c1 _ _ e => sb.extBut _ _ c1 e⟩
theorem ZMid.step {ps d r : List Pt} {p : Pt} {i : Nat} {h0 h h' : Heap} (D : ZAp z TI TO ps) (e : ps = d ++ p :: r) (M : ZMid z TI TO ps i h0 d (p :: r) h) (a : p.At h' (i + 1)) (sb : Heap.SameBut p.it h h') : ZMid z TI TO ps i h0 (d ++ [p]) r h' := by
  have nd := D.nd
  rw [e, List.map_append, List.map_cons, List.nodup_append] at nd
  obtain ⟨_, n2, n3⟩ := nd
  rw [List.nodup_cons] at n2
  refine ⟨fun q m => ?_, fun q m => (M.off q (List.mem_cons_of_mem _ m)).move fun o x => sb.extBut _ _ (fun y => n2.1 (y ▸ List.mem_map_of_mem m)) x, sb.1.trans M.size, fun c o c1 c2 c3 x => sb.extBut _ _ (c3 p (by rw [e]; simp)) (M.still c o c1 c2 c3 x)⟩
  rcases List.mem_append.mp m with m | m
  · exact (M.on q m).move fun o x => sb.extBut _ _ (n3 _ (List.mem_map_of_mem m) _ List.mem_cons_self) x
  · obtain rfl : q = p := by simpa using m
    exact a
theorem ZMid.over {ps d r : List Pt} {i : Nat} {h0 h h' : Heap} (D : ZAp z TI TO ps) (hd : ∀ p ∈ d, p ∈ ps) (hr : ∀ p ∈ r, p ∈ ps) (M : ZMid z TI TO ps i h0 d r h) (sb : Heap.SameBut TO h h') : ZMid z TI TO ps i h0 d r h' :=
  ⟨fun q m => (M.on q m).move fun o x => sb.extBut _ _ (D.i q (hd q m)).2.2 x, fun q m => (M.off q m).move fun o x => sb.extBut _ _ (D.i q (hr q m)).2.2 x, sb.1.trans M.size, fun c o c1 c2 c3 x => sb.extBut _ _ c2 (M.still c o c1 c2 c3 x)⟩
theorem ZMid.src {ps d r : List Pt} {p : Pt} {i : Nat} {h0 h : Heap} {vs : List Value} (D : ZAp z TI TO ps) (hp : p ∈ ps) (M : ZMid z TI TO ps i h0 d r h) (c : p.Src h0 vs) : p.Src h vs :=
  c.move fun o e => M.still _ _ (D.l p hp).1 (D.l p hp).2.1 (D.l p hp).2.2 e
theorem take_set {ys : List Value} {dv : List Value} {v : Value} (h : ys.take dv.length = dv) (hl : dv.length < ys.length) : (ys.set dv.length v).take (dv ++ [v]).length = dv ++ [v] := by
  rw [List.length_append, List.length_singleton, List.take_add_one, List.take_set_of_le (Nat.le_refl _), h, List.getElem?_set_self hl]
  rfl
theorem zip_item {ps : List Pt} {vals : List Value} {i : Nat} {ys : Array Value} {Q : Value → Shared → Prop} (D : ZAp z TI TO ps) (hz : ZO s.heap z TI TO f0 f1) (hf0 : Own0 f0) (hTI : TupIs s.heap TI (ps.map fun p => Value.ref p.it).toArray) (hTO : TupIs s.heap TO ys) (hys : ys.size = ps.length)
    (hne : ps ≠ []) (hsz : ps.length ≤ sizeLine) (hat : ∀ p ∈ ps, p.At s.heap i) (hv : Paired (fun p v => ∃ vs, p.Src s.heap vs ∧ vs[i]? = some v) ps vals)
    (hQ : ∀ h' g0 g1 ys', ZO h' z TI TO g0 g1 → Own0 g0 → TupIs h' TO ys' → ys'.size = ps.length → (∀ p ∈ ps, p.At h' (i + 1)) → TupIs h' s.heap.objs.size vals.toArray → h'.objs.size = s.heap.objs.size + 1 → Still z TO ps s.heap h' → Q (.ref s.heap.objs.size) { s with heap := h' }) :
    wpAny (model prog w) A (Builtin.«zip.__next__» ⟨[.ref z], []⟩) (fun fin s' => ∃ v, fin = .done (.ret v) ∧ Q v s') E s := by
  show wpAny _ _ (field (.ref z) 2 >>= _) _ _ _
  refine wpAny_bind (wpAny_field hz rfl (x := .bool false) rfl ?_)
  show wpAny _ _ (field (.ref z) 3 >>= _) _ _ _
  refine wpAny_bind (wpAny_field hz rfl (x := .ref TI) rfl ?_)
  refine wpAny_bind (wpAny_seqItems hTI rfl ?_)
  have hem : (ps.map fun p => Value.ref p.it).toArray.isEmpty = false := by
    cases ps with
    | nil => exact absurd rfl hne
    | cons p r => simp
  simp only [hem, Bool.false_eq_true, if_false]
  have hvl : ps.length = vals.length := Paired.length hv
  refine wpAny_bind (owned_free hz hf0 ?_ fun h1 hz1 hs1 => ?_)
  · simp only [if_true]
    refine wpAny_bind (wpAny_rule (wpAny_bind (wpAny_field hz rfl (x := .ref TO) rfl ?_)))
    refine wpAny_bind (wpAny_setField_rec hz (by simp) fun h1 hz1 hs1 => ?_)
    replace hz1 : ZO h1 z TI TO .ellipsis f1 := hz1
    refine wpAny_bind (wpAny_forIn_list _ (fun rest b s' => ∃ (d r : List Pt) (dv rv : List Value) (ya : Array Value), b = (none, ()) ∧ s' = { s with heap := s'.heap } ∧ ps = d ++ r ∧ vals = dv ++ rv ∧ d.length = dv.length ∧ Paired (fun p v => ∃ vs, p.Src s.heap vs ∧ vs[i]? = some v) r rv ∧
      rest = (r.map fun p => Value.ref p.it).zipIdx d.length ∧ ZO s'.heap z TI TO .ellipsis f1 ∧ TupIs s'.heap TO ya ∧ ya.size = ps.length ∧ ya.toList.take dv.length = dv ∧ ZMid z TI TO ps i s.heap d r s'.heap) _ ?turn ?fin _ _ ?start)
    case start => exact ⟨[], ps, [], vals, ys, rfl, rfl, rfl, rfl, rfl, hv, rfl, hz1, hs1.extBut _ _ D.TOz hTO, hys, rfl, ZMid.start D hat hs1⟩
    case turn =>
      rintro x rest b s' ⟨d, r, dv, rv, ya, rfl, es, ep, ev, el, pr, er, hz2, hT2, hya, htk, M⟩
      cases pr with
      | nil => simp at er
      | @cons p v r rv hp pr =>
        obtain ⟨vs, hsrc, hvi⟩ := hp
        rw [List.map_cons, List.zipIdx_cons] at er
        obtain ⟨rfl, rfl⟩ := List.cons.inj er
        have pm : p ∈ ps := by rw [ep]; simp
        refine wpAny_bind (wpAny_onRaise ?_)
        show wpAny _ _ (Builtin.SmallTypes.nextOf (.ref p.it) >>= _) _ _ _
        refine wpAny_bind (Pt.next (M.off p List.mem_cons_self) (M.src D pm hsrc) hvi fun h3 a3 s3 => wpAny_pure ?_)
        have M3 := M.step D ep a3 s3
        have hT3 : TupIs h3 TO ya := s3.extBut _ _ (D.i p pm).2.2.symm hT2
        refine wpAny_bind (wpAny_seqItems hT3 rfl ?_)
        refine wpAny_bind (wp_putSeq (s := { s' with heap := h3 }) hT3 (by rw [hya]; exact hsz) fun h4 hT4 s4 => ?_)
        refine wpAny_bind (wpAny_letGo (wpAny_pure ?_))
        refine ⟨d ++ [p], r, dv ++ [v], rv, _, rfl, by rw [es], by rw [ep]; simp, by rw [ev]; simp, by simp [el], pr, by rw [List.length_append]; rfl, ?_, hT4, by rw [Array.size_setIfInBounds]; exact hya, ?_, M3.over D (fun q m => ?_) (fun q m => by rw [ep]; simp [m]) s4⟩
        · exact s4.extBut _ _ D.TOz.symm (s3.extBut _ _ (D.i p pm).1.symm hz2)
        · rw [Array.toList_setIfInBounds, el]
          refine take_set htk ?_
          have : ya.toList.length = ps.length := hya
          rw [this, ep, List.length_append, el, List.length_cons]
          omega
        · rcases List.mem_append.mp m with m | m
          · rw [ep]; simp [m]
          · obtain rfl : q = p := by simpa using m
            exact pm
    case fin =>
      rintro b s' ⟨d, r, dv, rv, ya, rfl, es, ep, ev, el, pr, er, hz2, hT2, hya, htk, M⟩
      obtain rfl : r = [] := by
        cases r with
        | nil => rfl
        | cons p r => simp at er
      cases pr
      rw [List.append_nil] at ep ev
      subst ep ev
      refine wpAny_bind (wpAny_seqItems hT2 rfl ?_)
      have hyv : ya.toList = vals := by
        rw [← htk, List.take_of_length_le (by rw [← hvl, ← hya]; exact Nat.le_refl _)]
      refine wpAny_bind (wpAny_newTuple ?_ (by rw [hyv, ← hvl]; exact hsz))
      rw [hyv]
      show wpAny _ _ (Builtin.SmallTypes.ownedTupleHandOut (.ref z) (.ref s'.heap.objs.size) >>= _) _ _ _
      refine wpAny_bind ?_
      unfold Builtin.SmallTypes.ownedTupleHandOut
      have hz3 : ZO (s'.heap.push { cls := .type "tuple", data := .seq vals.toArray }) z TI TO .ellipsis f1 := Heap.get?_push_of_some _ hz2
      refine wpAny_bind (wpAny_setField_rec hz3 (by simp) fun h5 hz5 hs5 => ?_)
      replace hz5 : ZO h5 z TI TO (rawInt s'.heap.objs.size) f1 := hz5
      refine wpAny_setField_rec hz5 (by simp) fun h6 hz6 hs6 => ?_
      replace hz6 : ZO h6 z TI TO (rawInt s'.heap.objs.size) false := hz6
      have up : ∀ c o, c ≠ z → s'.heap.get? c = some o → h6.get? c = some o := fun c o c1 e => hs6.extBut _ _ c1 (hs5.extBut _ _ c1 (Heap.get?_push_of_some _ e))
      have zlt : z < s'.heap.objs.size := Heap.lt_size hz2
      have hT6 : TupIs h6 s'.heap.objs.size vals.toArray := hs6.extBut _ _ (Nat.ne_of_gt zlt) (hs5.extBut _ _ (Nat.ne_of_gt zlt) (Heap.get?_push_size _ rfl))
      have hsz6 : h6.objs.size = s'.heap.objs.size + 1 := by rw [hs6.1, hs5.1, Heap.size_push]
      have hq := hQ h6 _ _ ya hz6 (.inr ⟨_, rfl⟩) (up _ _ D.TOz hT2) hya (fun p m => (M.on p m).move fun o e => up _ o (D.i p m).1 e) (by rw [← M.size]; exact hT6) (by rw [hsz6, M.size]) fun c o c1 c2 c3 e => up c o c1 (M.still c o c1 c2 c3 e)
      rw [← M.size] at hq
      refine wpAny_pure ⟨_, rfl, ?_⟩
      rw [es]
      exact hq
  · simp only [Bool.false_eq_true, if_false]
    refine wpAny_bind (MeetsSeq2.wpAny_forIn_array _ (fun rest b s' => ∃ (d r : List Pt) (dv rv : List Value), b = (none, dv.toArray) ∧ s' = { s with heap := s'.heap } ∧ ps = d ++ r ∧ vals = dv ++ rv ∧ d.length = dv.length ∧ Paired (fun p v => ∃ vs, p.Src s.heap vs ∧ vs[i]? = some v) r rv ∧
      rest = (r.map fun p => Value.ref p.it) ∧ ZO s'.heap z TI TO f0 true ∧ TupIs s'.heap TO ys ∧ ZMid z TI TO ps i s.heap d r s'.heap) _ ?turn ?fin _ _ ?start)
    case start => exact ⟨[], ps, [], vals, rfl, rfl, rfl, rfl, rfl, hv, by simp, hz1, hs1.extBut _ _ D.TOz hTO, ZMid.start D hat hs1⟩
    case turn =>
      rintro x rest b s' ⟨d, r, dv, rv, rfl, es, ep, ev, el, pr, er, hz2, hT2, M⟩
      cases pr with
      | nil => simp at er
      | @cons p v r rv hp pr =>
        obtain ⟨vs, hsrc, hvi⟩ := hp
        rw [List.map_cons] at er
        obtain ⟨rfl, rfl⟩ := List.cons.inj er
        have pm : p ∈ ps := by rw [ep]; simp
        refine wpAny_bind (wpAny_holding ?_)
        show wpAny _ _ (Builtin.SmallTypes.nextOf (.ref p.it) >>= _) _ _ _
        refine wpAny_bind (Pt.next (M.off p List.mem_cons_self) (M.src D pm hsrc) hvi fun h3 a3 s3 => wpAny_pure (wpAny_pure ?_))
        exact ⟨d ++ [p], r, dv ++ [v], rv, by simp, by rw [es], by rw [ep]; simp, by rw [ev]; simp, by simp [el], pr, rfl, s3.extBut _ _ (D.i p pm).1.symm hz2, s3.extBut _ _ (D.i p pm).2.2.symm hT2, M.step D ep a3 s3⟩
    case fin =>
      rintro b s' ⟨d, r, dv, rv, rfl, es, ep, ev, el, pr, er, hz2, hT2, M⟩
      obtain rfl : r = [] := by
        cases r with
        | nil => rfl
        | cons p r => simp at er
      cases pr
      rw [List.append_nil] at ep ev
      subst ep ev
      refine wpAny_bind (wpAny_newTuple ?_ (by show vals.length ≤ sizeLine; rw [← hvl]; exact hsz))
      refine wpAny_pure ⟨_, rfl, ?_⟩
      have hp : TupIs (s'.heap.push { cls := .type "tuple", data := .seq vals.toArray }) s'.heap.objs.size vals.toArray := Heap.get?_push_size _ rfl
      have hq := hQ _ _ _ ys (Heap.get?_push_of_some _ hz2) hf0 (Heap.get?_push_of_some _ hT2) hys (fun p m => (M.on p m).move fun o e => Heap.get?_push_of_some _ e) (by rw [← M.size]; exact hp) (by rw [Heap.size_push, M.size]) fun c o c1 c2 c3 e => Heap.get?_push_of_some _ (M.still c o c1 c2 c3 e)
      rw [← M.size] at hq
      rw [es]
      exact hq
theorem zip_end {p : Pt} {r : List Pt} {i : Nat} {ys : Array Value} {vs : List Value} {Q : PySem.Fin → Shared → Prop} (D : ZAp z TI TO (p :: r)) (hz : ZO s.heap z TI TO f0 f1) (hf0 : Own0 f0) (hTI : TupIs s.heap TI ((p :: r).map fun p => Value.ref p.it).toArray) (hTO : TupIs s.heap TO ys)
    (ha : p.At s.heap i) (hc : p.Src s.heap vs)
    (hend : ∀ (s2 : Shared) (Q2 : Value → Shared → Prop) (E2 : Value → Shared → Prop), Still z TO (p :: r) s.heap s2.heap → p.At s2.heap i → p.Src s2.heap vs → (∀ h' e, Heap.ExtBut p.it s2.heap h' → (∃ o, h'.get? e = some o ∧ o.cls = .type "StopIteration") → E2 (.ref e) { s2 with heap := h' }) →
      wpAny (model prog w) A (Builtin.SmallTypes.nextOf (.ref p.it)) Q2 E2 s2)
    (hE : ∀ h' e, Still z TO (p :: r) s.heap h' → (∃ o, h'.get? e = some o ∧ o.cls = .type "StopIteration") → E (.ref e) { s with heap := h' }) :
    wpAny (model prog w) A (Builtin.«zip.__next__» ⟨[.ref z], []⟩) Q E s := by
  show wpAny _ _ (field (.ref z) 2 >>= _) _ _ _
  refine wpAny_bind (wpAny_field hz rfl (x := .bool false) rfl ?_)
  show wpAny _ _ (field (.ref z) 3 >>= _) _ _ _
  refine wpAny_bind (wpAny_field hz rfl (x := .ref TI) rfl ?_)
  refine wpAny_bind (wpAny_seqItems hTI rfl ?_)
  have hem : ((p :: r).map fun p => Value.ref p.it).toArray.isEmpty = false := by simp
  simp only [hem, Bool.false_eq_true, if_false]
  have pm : p ∈ p :: r := List.mem_cons_self
  have st : ∀ {h1 : Heap}, Heap.SameBut z s.heap h1 → Still z TO (p :: r) s.heap h1 := fun sb c o c1 _ _ e => sb.extBut _ _ c1 e
  refine wpAny_bind (owned_free hz hf0 ?_ fun h1 hz1 hs1 => ?_)
  · simp only [if_true]
    refine wpAny_bind (wpAny_rule (wpAny_bind (wpAny_field hz rfl (x := .ref TO) rfl ?_)))
    refine wpAny_bind (wpAny_setField_rec hz (by simp) fun h1 hz1 hs1 => ?_)
    replace hz1 : ZO h1 z TI TO .ellipsis f1 := hz1
    refine wpAny_bind ?_
    simp only [List.map_cons, List.zipIdx_cons, List.forIn_cons]
    refine wpAny_bind (wpAny_bind (wpAny_onRaise ?_))
    show wpAny _ _ (Builtin.SmallTypes.nextOf (.ref p.it) >>= _) _ _ _
    refine wpAny_bind (hend { s with heap := h1 } _ _ (st hs1) (ha.move fun o e => hs1.extBut _ _ (D.i p pm).1 e) (hc.move fun o e => hs1.extBut _ _ (D.l p pm).1 e) fun h2 e hx he => ?_)
    obtain ⟨oe, hoe, hce⟩ := he
    have hz2 : ZO h2 z TI TO .ellipsis f1 := hx _ _ (D.i p pm).1.symm hz1
    have hez : e ≠ z := fun x => by
      subst x
      rw [hz2] at hoe
      cases hoe
      simp at hce
    exact wpAny_setField_rec hz2 (by simp) fun h3 _ hs3 => hE h3 e (fun c o c1 c2 c3 x => hs3.extBut _ _ c1 (hx _ _ (c3 p pm) (hs1.extBut _ _ c1 x))) ⟨oe, hs3.extBut _ _ hez hoe, hce⟩
  · simp only [Bool.false_eq_true, if_false]
    refine wpAny_bind ?_
    rw [← Array.forIn_toList]
    simp only [List.map_cons, List.forIn_cons]
    refine wpAny_bind (wpAny_bind (wpAny_holding ?_))
    show wpAny _ _ (Builtin.SmallTypes.nextOf (.ref p.it) >>= _) _ _ _
    refine wpAny_bind (hend { s with heap := h1 } _ _ (st hs1) (ha.move fun o e => hs1.extBut _ _ (D.i p pm).1 e) (hc.move fun o e => hs1.extBut _ _ (D.l p pm).1 e) fun h2 e hx he => ?_)
    exact hE h2 e (fun c o c1 c2 c3 x => hx _ _ (c3 p pm) (hs1.extBut _ _ c1 x)) he
theorem pyNext_zip {ps : List Pt} {vals : List Value} {i : Nat} {ys : Array Value} {Q : Option Value → Shared → Prop} (D : ZAp z TI TO ps) (hz : ZO s.heap z TI TO f0 f1) (hf0 : Own0 f0) (hTI : TupIs s.heap TI (ps.map fun p => Value.ref p.it).toArray) (hTO : TupIs s.heap TO ys) (hys : ys.size = ps.length)
    (hne : ps ≠ []) (hsz : ps.length ≤ sizeLine) (hat : ∀ p ∈ ps, p.At s.heap i) (hv : Paired (fun p v => ∃ vs, p.Src s.heap vs ∧ vs[i]? = some v) ps vals)
    (hQ : ∀ h' g0 g1 ys', ZO h' z TI TO g0 g1 → Own0 g0 → TupIs h' TO ys' → ys'.size = ps.length → (∀ p ∈ ps, p.At h' (i + 1)) → TupIs h' s.heap.objs.size vals.toArray → h'.objs.size = s.heap.objs.size + 1 → Still z TO ps s.heap h' → Q (some (.ref s.heap.objs.size)) { s with heap := h' }) :
    wpAny (model prog w) A (pyNext (.ref z)) Q E s := by
  have hT : s.TypeIs (.ref z) "zip" := ⟨_, hz, rfl⟩
  unfold pyNext
  exact wpAny_bind (wpAny_attempt (wpAny_callSpecial?_slot (name := Str.ofString "__next__") hT F.slot_zip_next (wpAny_call_entry F.slot_zip_next hT F.entry_zip_next
    (zip_item D hz hf0 hTI hTO hys hne hsz hat hv fun h' g0 g1 y a1 a2 a3 a4 a5 a6 a7 a8 => wpAny_pure (hQ h' g0 g1 y a1 a2 a3 a4 a5 a6 a7 a8)) (F.args_zip_next_1 _))))
theorem pyNext_zipEnd {p : Pt} {r : List Pt} {i : Nat} {ys : Array Value} {vs : List Value} {Q : Option Value → Shared → Prop} (D : ZAp z TI TO (p :: r)) (hz : ZO s.heap z TI TO f0 f1) (hf0 : Own0 f0) (hTI : TupIs s.heap TI ((p :: r).map fun p => Value.ref p.it).toArray) (hTO : TupIs s.heap TO ys)
    (ha : p.At s.heap i) (hc : p.Src s.heap vs)
    (hend : ∀ (s2 : Shared) (Q2 : Value → Shared → Prop) (E2 : Value → Shared → Prop), Still z TO (p :: r) s.heap s2.heap → p.At s2.heap i → p.Src s2.heap vs → (∀ h' e, Heap.ExtBut p.it s2.heap h' → (∃ o, h'.get? e = some o ∧ o.cls = .type "StopIteration") → E2 (.ref e) { s2 with heap := h' }) →
      wpAny (model prog w) A.in1 (Builtin.SmallTypes.nextOf (.ref p.it)) Q2 E2 s2)
    (hQ : ∀ h', Still z TO (p :: r) s.heap h' → Q none { s with heap := h' }) : wpAny (model prog w) A (pyNext (.ref z)) Q E s := by
  have hT : s.TypeIs (.ref z) "zip" := ⟨_, hz, rfl⟩
  unfold pyNext
  refine wpAny_bind (wpAny_attempt (wpAny_callSpecial?_slot (name := Str.ofString "__next__") hT F.slot_zip_next (wpAny_call_entry F.slot_zip_next hT F.entry_zip_next
    (zip_end D hz hf0 hTI hTO ha hc hend fun h' e hk he => ?_) (F.args_zip_next_1 _))))
  obtain ⟨o, ho, hoc⟩ := he
  exact wpAny_bind (wpAny_isInstance (T := "StopIteration") (b := true) ⟨o, ho, hoc⟩ isSubtype_stop (wpAny_pure (hQ _ hk)))
theorem go_zip {tg : Expr} {T : Addr} {Q : Unit → Shared → Prop} (hz : ZO s.heap z TI TO f0 f1) (hQ : ∀ h' g0, ZO h' z TI TO g0 f1 → (g0 = f0 ∨ g0 = .none) → Heap.SameBut z s.heap h' → Q () { s with heap := h' }) :
    wpAny (model prog w) A (letOwnedTupleGo tg (.ref z) (.ref T)) Q E s := by
  have same : Q () s := hQ s.heap f0 hz (.inl rfl) (Heap.SameBut.refl _ _)
  unfold letOwnedTupleGo
  cases tg <;> first
    | exact wpAny_pure same
    | (refine wpAny_bind (wpAny_load hz ?_)
       show wpAny _ _ (if _ then _ else _) Q E s
       split
       · exact wpAny_bind (wpAny_rule (wpAny_setField_rec hz (by simp) fun h' hz' hs' => hQ h' _ hz' (.inr rfl) hs'))
       · exact wpAny_pure same)
theorem iter_zip {Q : Value → Shared → Prop} (hz : ZO s.heap z TI TO f0 f1) (h : Q (.ref z) s) : wpAny (model prog w) A (pyIter (.ref z)) Q E s := by
  have hT : s.TypeIs (.ref z) "zip" := ⟨_, hz, rfl⟩
  refine wpAny_pyIter_slot hT F.slot_zip_iter (wpAny_call_entry F.slot_zip_iter hT F.entry_zip_iter ?_ (F.args_zip_iter_1 _))
  show wpAny _ _ (ret (.ref z)) _ _ s
  exact wpAny_pure ⟨_, rfl, "zip", _, hT, F.slot_zip_next.lookup, h⟩
end
end Vf
set_option Elab.async false
set_option linter.all false
set_option maxRecDepth 100000
set_option maxHeartbeats 4000000
namespace Vf
open PySem PySem.Spec PyProof.Rows L2
theorem typeCall_zip (l : List Value) : checkTypeCall "zip" ⟨l, []⟩ = pure () := by kernel_rfl
theorem newCall_z1 (a : Value) : checkBuiltinCall "zip.__new__" ⟨.type "zip" :: [a], []⟩ = pure () := by kernel_rfl
theorem newCall_z2 (a b : Value) : checkBuiltinCall "zip.__new__" ⟨.type "zip" :: [a, b], []⟩ = pure () := by kernel_rfl
theorem newCall_z3 (a b c : Value) : checkBuiltinCall "zip.__new__" ⟨.type "zip" :: [a, b, c], []⟩ = pure () := by kernel_rfl
theorem newCall_z4 (a b c d : Value) : checkBuiltinCall "zip.__new__" ⟨.type "zip" :: [a, b, c, d], []⟩ = pure () := by kernel_rfl
theorem newCall_z5 (a b c d e : Value) : checkBuiltinCall "zip.__new__" ⟨.type "zip" :: [a, b, c, d, e], []⟩ = pure () := by kernel_rfl
theorem newCall_z6 (a b c d e f : Value) : checkBuiltinCall "zip.__new__" ⟨.type "zip" :: [a, b, c, d, e, f], []⟩ = pure () := by kernel_rfl
theorem newCall_zip : ∀ l : List Value, l ≠ [] → l.length ≤ 6 → checkBuiltinCall "zip.__new__" ⟨.type "zip" :: l, []⟩ = pure ()
  | [], h, _ => absurd rfl h
  | [a], _, _ => newCall_z1 a
  | [a, b], _, _ => newCall_z2 a b
  | [a, b, c], _, _ => newCall_z3 a b c
  | [a, b, c, d], _, _ => newCall_z4 a b c d
  | [a, b, c, d, e], _, _ => newCall_z5 a b c d e
  | [a, b, c, d, e, f], _, _ => newCall_z6 a b c d e f
  | a :: b :: c :: d :: e :: f :: g :: r, _, h => absurd h (by simp)
theorem args_oinit (o : Value) (l : List Value) : argsOk "object.__init__" ⟨o :: l, []⟩ := by
  unfold argsOk
  rw [signature?_of (id := "object.__init__") (n := ['_', '_', 't', 'i', 'n', 'i', '_', '_']) (o := ['t', 'c', 'e', 'j', 'b', 'o']) (by kernel_rfl) F.owner_object]
  kernel_rfl
end Vf
set_option Elab.async false
set_option linter.all false
set_option maxRecDepth 100000
set_option maxHeartbeats 4000000
/-! zip of any number of lists and tuples: the turns, the making, the rules. -/
namespace Vf
open PySem PySem.Spec PyProof.Rows L2
/-! ### the making -/
/-- the parts of a new zip: the iterators stand from n on -/
def ptsFrom : Nat → List (Bool × Addr) → List Pt
  | _, [] => []
  | n, q :: r => ⟨q.1, n, q.2⟩ :: ptsFrom (n + 1) r
theorem ptsFrom_length : ∀ (n : Nat) (ls : List (Bool × Addr)), (ptsFrom n ls).length = ls.length
  | _, [] => rfl
  | n, _ :: r => congrArg (· + 1) (ptsFrom_length (n + 1) r)
theorem ptsFrom_mem : ∀ {n : Nat} {ls : List (Bool × Addr)} {p : Pt}, p ∈ ptsFrom n ls → @LE.le Nat _ n p.it ∧ @LT.lt Nat _ p.it (n + ls.length) ∧ (p.b, p.l) ∈ ls
  | _, [], _, h => nomatch h
  | n, q :: r, p, h => by
    rcases List.mem_cons.mp h with rfl | h
    · exact ⟨Nat.le_refl _, by simp, by simp⟩
    · obtain ⟨h1, h2, h3⟩ := ptsFrom_mem h
      have e : (q :: r).length = r.length + 1 := rfl
      exact ⟨by omega, by rw [e]; omega, List.mem_cons_of_mem _ h3⟩
theorem ptsFrom_nodup : ∀ (n : Nat) (ls : List (Bool × Addr)), ((ptsFrom n ls).map (·.it)).Nodup
  | _, [] => List.nodup_nil
  | n, q :: r => by
    show (n :: (ptsFrom (n + 1) r).map (·.it)).Nodup
    rw [List.nodup_cons]
    refine ⟨fun h => ?_, ptsFrom_nodup (n + 1) r⟩
    obtain ⟨p, hp, e⟩ := List.mem_map.mp h
    have h1 := (ptsFrom_mem hp).1
    have e : p.it = n := e
    omega
theorem ptsFrom_append : ∀ (n : Nat) (d r : List (Bool × Addr)), ptsFrom n (d ++ r) = ptsFrom n d ++ ptsFrom (n + d.length) r
  | _, [], _ => rfl
  | n, q :: d, r => by
    show _ :: ptsFrom (n + 1) (d ++ r) = _ :: (ptsFrom (n + 1) d ++ _)
    rw [ptsFrom_append (n + 1) d r, List.length_cons]
    congr 3
    omega
theorem ptsFrom_src : ∀ (n : Nat) (ls : List (Bool × Addr)), (ptsFrom n ls).map (fun p => (p.b, p.l)) = ls
  | _, [] => rfl
  | n, q :: r => by
    show (q.1, q.2) :: _ = _
    rw [ptsFrom_src (n + 1) r]
def SrcB (h : Heap) (q : Bool × Addr) : Prop := ∃ vs, (Pt.mk q.1 0 q.2).Src h vs
section
variable {prog : Program} {w : World} {A : Around} {E : Value → Shared → Prop} {s : Shared}
theorem iter_src {q : Bool × Addr} {Q : Value → Shared → Prop} (h : SrcB s.heap q) (hQ : ∀ h', (Pt.mk q.1 s.heap.objs.size q.2).At h' 0 → h'.objs.size = s.heap.objs.size + 1 → (∀ c o, s.heap.get? c = some o → h'.get? c = some o) → Q (.ref s.heap.objs.size) { s with heap := h' }) :
    wpAny (model prog w) A (pyIter (.ref q.2)) Q E s := by
  obtain ⟨b, l⟩ := q
  obtain ⟨vs, hs⟩ := h
  cases b with
  | true => exact wpAny_pyIter_list hs (hQ _ ⟨_, Heap.get?_push_size _ rfl, rfl, rfl⟩ (Heap.size_push ..) fun _ _ e => Heap.get?_push_of_some _ e)
  | false => exact wpAny_pyIter_tuple hs (hQ _ ⟨_, Heap.get?_push_size _ rfl, rfl, rfl⟩ (Heap.size_push ..) fun _ _ e => Heap.get?_push_of_some _ e)
/-- what a new zip has -/
structure ZNew (n : Nat) (ls : List (Bool × Addr)) (h h' : Heap) : Prop where
  at_ : ∀ p ∈ ptsFrom n ls, p.At h' 0
  ti : TupIs h' (n + ls.length) ((ptsFrom n ls).map fun p => Value.ref p.it).toArray
  to : TupIs h' (n + ls.length + 1) (List.replicate ls.length Value.none).toArray
  zo : ZO h' (n + ls.length + 2) (n + ls.length) (n + ls.length + 1) .none false
  keep : ∀ c o, h.get? c = some o → h'.get? c = some o
theorem zip_new {ls : List (Bool × Addr)} {Q : Value → Shared → Prop} (hs : ∀ q ∈ ls, SrcB s.heap q) (hz : ls.length ≤ sizeLine) (hQ : ∀ h', ZNew s.heap.objs.size ls s.heap h' → Q (.ref (s.heap.objs.size + ls.length + 2)) { s with heap := h' }) :
    wpAny (model prog w) A (Builtin.«zip.__new__» ⟨.type "zip" :: ls.map (fun q => Value.ref q.2), []⟩) (fun fin s' => ∃ v, fin = .done (.ret v) ∧ Q v s') E s := by
  unfold Builtin.«zip.__new__» Builtin.SmallTypes.newClass
  have hsub := sub_zip
  wp_walk using wpAny_forIn_list _ (fun rest b s' => ∃ d r : List (Bool × Addr), ls = d ++ r ∧ rest = r.map (fun q => Value.ref q.2) ∧ b = ((ptsFrom s.heap.objs.size d).map fun p => Value.ref p.it).toArray ∧ s' = { s with heap := s'.heap } ∧ s'.heap.objs.size = s.heap.objs.size + d.length ∧ (∀ p ∈ ptsFrom s.heap.objs.size d, p.At s'.heap 0) ∧ ∀ c o, s.heap.get? c = some o → s'.heap.get? c = some o) _
  case turn =>
    rintro x rest b s' ⟨d, r, e, er, rfl, es, sz, ha, hk⟩
    cases r with
    | nil => simp at er
    | cons q r =>
      rw [List.map_cons] at er
      obtain ⟨rfl, rfl⟩ := List.cons.inj er
      refine wpAny_bind (wpAny_holding (iter_src (by
        obtain ⟨vs, hv⟩ := hs q (by rw [e]; simp)
        exact ⟨vs, hv.move fun o x => hk _ _ x⟩) fun h2 a2 z2 k2 => wpAny_pure ?_))
      refine ⟨d ++ [q], r, by rw [e]; simp, rfl, ?_, by rw [es], by rw [List.length_append, List.length_singleton, z2, sz, Nat.add_assoc], fun p hp => ?_, fun c o x => k2 _ _ (hk c o x)⟩
      · rw [ptsFrom_append, List.map_append, sz]
        simp [ptsFrom]
      · rw [ptsFrom_append] at hp
        rcases List.mem_append.mp hp with hp | hp
        · exact (ha p hp).move fun o x => k2 _ _ x
        · obtain rfl : p = _ := by simpa [ptsFrom] using hp
          rw [← sz]
          exact a2
  case fin =>
    rintro b s' ⟨d, r, e, er, rfl, es, sz, ha, hk⟩
    obtain rfl : r = [] := by
      cases r with
      | nil => rfl
      | cons q r => simp at er
    rw [List.append_nil] at e
    subst e
    obtain ⟨hp, g, dr, tk, os⟩ := s'
    simp only [Shared.mk.injEq] at es
    obtain ⟨-, rfl, rfl, rfl, rfl⟩ := es
    show wpAny _ _ (pure _) _ _ _
    refine wpAny_pure ?_
    have hl : (List.map (fun p => Value.ref p.it) (ptsFrom s.heap.objs.size ls)).length = ls.length := by rw [List.length_map, ptsFrom_length]
    have hn : List.map (fun _ : Value => Value.none) (List.map (fun p => Value.ref p.it) (ptsFrom s.heap.objs.size ls)) = List.replicate ls.length Value.none := by
      rw [List.map_const', hl]
    rw [List.toList_toArray, hn]
    refine wpAny_bind (wpAny_newTuple ?_ (by rw [hl]; exact hz))
    refine wpAny_bind (wpAny_newTuple ?_ (by rw [List.length_replicate]; exact hz))
    refine wpAny_bind ?_
    unfold Builtin.SmallTypes.newRecord
    refine wpAny_newObj_type (wpAny_pure ⟨_, rfl, ?_⟩) (show (5 : Nat) ≤ sizeLine + 2 by decide)
    have sz : hp.objs.size = s.heap.objs.size + ls.length := sz
    have z1 : (hp.push { cls := .type "tuple", data := .seq (List.map (fun p => Value.ref p.it) (ptsFrom s.heap.objs.size ls)).toArray }).objs.size = s.heap.objs.size + ls.length + 1 := by rw [Heap.size_push, sz]
    have z2 : ((hp.push { cls := .type "tuple", data := .seq (List.map (fun p => Value.ref p.it) (ptsFrom s.heap.objs.size ls)).toArray }).push { cls := .type "tuple", data := .seq (List.replicate ls.length Value.none).toArray }).objs.size = s.heap.objs.size + ls.length + 2 := by rw [Heap.size_push, z1]
    have up : ∀ {o1 o2 o3 : Obj} c o, hp.get? c = some o → (((hp.push o1).push o2).push o3).get? c = some o := fun c o e => Heap.get?_push_of_some _ (Heap.get?_push_of_some _ (Heap.get?_push_of_some _ e))
    show Q (.ref ((hp.push _).push _).objs.size) _
    refine (congrArg (fun n => Q (.ref n) _) z2.symm).mp (hQ _ ⟨fun p m => (ha p m).move fun o e => up _ _ e, ?_, ?_, ?_, fun c o e => up _ _ (hk c o e)⟩)
    · rw [← sz]
      exact Heap.get?_push_of_some _ (Heap.get?_push_of_some _ (Heap.get?_push_size _ rfl))
    · rw [← z1]
      exact Heap.get?_push_of_some _ (Heap.get?_push_size _ rfl)
    · rw [← z2, ← z1, ← sz]
      exact Heap.get?_push_size _ rfl
  case h => exact ⟨[], ls, rfl, rfl, rfl, rfl, rfl, fun _ h => (nomatch h), fun _ _ e => e⟩
theorem call_zip {ls : List (Bool × Addr)} {Q : Value → Shared → Prop} (hs : ∀ q ∈ ls, SrcB s.heap q) (hne : ls ≠ []) (hz : ls.length ≤ 6) (hQ : ∀ h', ZNew s.heap.objs.size ls s.heap h' → Q (.ref (s.heap.objs.size + ls.length + 2)) { s with heap := h' }) :
    wpAny (model prog w) A (call (.type "zip") (ls.map fun q => Value.ref q.2)) Q E s := by
  refine callType_new (S := fun _ R s' => s' = s ∧ ∀ h', ZNew s.heap.objs.size ls s.heap h' → R (.ok (.ret (.ref (s.heap.objs.size + ls.length + 2)))) { s with heap := h' }) F.called_zip (by decide) (typeCall_zip _) (newCall_zip _ (by simpa using hne) (by rw [List.length_map]; exact hz)) (fun obj => args_oinit obj _) F.entry_zip_new
    (.of_wp fun prog w A R s' h => ?_) ⟨rfl, fun h' N => ⟨⟨_, N.zo, rfl⟩, hQ h' N⟩⟩
  obtain ⟨rfl, h⟩ := h
  exact zip_new (Q := fun v s1 => R (.ok (.ret v)) s1) hs (Nat.le_trans hz (by decide)) h
end
/-! ### the turns -/
def SqB (K : PySem.W.Frag) (H : Hp) (q : Bool × Addr) (xs : List V) : Prop := match q.1 with
  | true => SqL K H q.2 xs
  | false => SqT K H q.2 xs
theorem SqB.same {K : PySem.W.Frag} {H H' : Hp} {q : Bool × Addr} {xs : List V} (s : Same H H') (h : SqB K H q xs) : SqB K H' q xs := by
  obtain ⟨b, a⟩ := q
  cases b with
  | true => exact s.seq h
  | false => exact Same.seqT s h
theorem SqV.toB {K : PySem.W.Frag} {H : Hp} {a : Addr} {xs : List V} (h : SqV K H a xs) : ∃ b, SqB K H (b, a) xs := h.elim (fun z => ⟨true, z⟩) fun z => ⟨false, z⟩
/-- these lists and tuples as they stand at each turn, the items in new tuples; alike in length -/
def ItN (K : PySem.W.Frag) (ls : List (Bool × Addr)) : It :=
  ⟨fun i H => ∃ xss : List (List V), Paired (SqB K H) ls xss ∧ ∀ xs ∈ xss, i < xs.length,
    fun i H v H' => ∃ T ys, v = .ref T ∧ H T = none ∧ H' = upd H T (.tup ys) ∧ ∀ xss, Paired (SqB K H) ls xss → Paired (fun (xs : List V) y => xs[i]? = some y) xss ys,
    fun i H => ∃ q r xs, ls = q :: r ∧ SqB K H q xs ∧ xs.length ≤ i⟩
theorem Paired.uniq {α β : Type} {G : α → β → Prop} (u : ∀ a b b', G a b → G a b' → b = b') : ∀ {l : List α} {m m' : List β}, Paired G l m → Paired G l m' → m = m'
  | _, _, _, .nil, .nil => rfl
  | _, _, _, .cons h r, .cons h' r' => by rw [u _ _ _ h h', Paired.uniq u r r']
section
variable {X : Cx} {pins : List (Addr × Obj)} {σ : L2.St} {H : Hp} {s : Shared}
theorem sqB_src (I : Inv X pins σ H s) {q : Bool × Addr} {n : Addr} {xs : List V} (h : SqB X.K H q xs) : ∃ us, Vals xs us ∧ (Pt.mk q.1 n q.2).Src s.heap us := by
  obtain ⟨b, a⟩ := q
  cases b with
  | true =>
    obtain ⟨its, rv, p, _⟩ := I.list h
    exact ⟨its, rv, p.isList⟩
  | false =>
    obtain ⟨its, rv, p, _⟩ := I.tuple h
    exact ⟨its, rv, p⟩
theorem sqB_inj (I : Inv X pins σ H s) {q : Bool × Addr} {xs ys : List V} (h : SqB X.K H q xs) (h' : SqB X.K H q ys) : xs = ys := by
  obtain ⟨b, a⟩ := q
  cases b with
  | true => exact I.list_inj h h'
  | false => exact I.tuple_inj h h'
/-- the items of a turn -/
theorem zip_vals (I : Inv X pins σ H s) {i : Nat} : ∀ {ps : List Pt} {xss : List (List V)}, Paired (SqB X.K H) (ps.map fun p => (p.b, p.l)) xss → (∀ xs ∈ xss, i < xs.length) →
    ∃ (ys : List V) (us : List Value), Vals ys us ∧ Paired (fun p v => ∃ vs, p.Src s.heap vs ∧ vs[i]? = some v) ps us ∧ Paired (fun (xs : List V) y => xs[i]? = some y) xss ys
  | [], _, .nil, _ => ⟨[], [], .nil, .nil, .nil⟩
  | p :: ps, _, .cons (b := xs) h r, hi => by
    obtain ⟨ys, us, r1, r2, r3⟩ := zip_vals I r fun x hx => hi x (List.mem_cons_of_mem _ hx)
    obtain ⟨vs, rv, hs⟩ := sqB_src (n := p.it) I h
    obtain ⟨u, hu, ru⟩ := rv.get (List.getElem?_eq_getElem (hi xs List.mem_cons_self))
    exact ⟨_ :: ys, u :: us, .cons ru r1, .cons ⟨vs, hs, hu⟩ r2, .cons (List.getElem?_eq_getElem _) r3⟩
end
theorem turn_zipN {P : Program} {w : World} {K : PySem.W.Frag} {tg : Expr} {z TI TO : Addr} {ps : List Pt} (D : ZAp z TI TO ps) (hsz : ps.length ≤ sizeLine) (hne : ps ≠ []) :
    Turn P w K tg (ItN K (ps.map fun p => (p.b, p.l))) (z :: TI :: TO :: ps.map (·.it)) z
      (fun i h => ∃ g0 g1 ys, ZO h z TI TO g0 g1 ∧ Own0 g0 ∧ TupIs h TI (ps.map fun p => Value.ref p.it).toArray ∧ TupIs h TO ys ∧ ys.size = ps.length ∧ ∀ p ∈ ps, p.At h i) where
  mem := List.mem_cons_self
  obj := fun i h st c hc => by
    obtain ⟨g0, g1, ys, hz, _, hTI, hTO, _, hat⟩ := st
    rcases List.mem_cons.mp hc with rfl | hc
    · exact ⟨_, hz, fun v q => nomatch q⟩
    rcases List.mem_cons.mp hc with rfl | hc
    · exact ⟨_, hTI, fun v q => nomatch q⟩
    rcases List.mem_cons.mp hc with rfl | hc
    · exact ⟨_, hTO, fun v q => nomatch q⟩
    obtain ⟨p, hp, rfl⟩ := List.mem_map.mp hc
    obtain ⟨o, e, _, d⟩ := hat p hp
    exact ⟨o, e, fun v q => by rw [d] at q; cases q⟩
  keep := fun i h h' st k => by
    obtain ⟨g0, g1, ys, hz, ho, hTI, hTO, hys, hat⟩ := st
    exact ⟨g0, g1, ys, k z (by simp) _ hz, ho, k TI (by simp) _ hTI, k TO (by simp) _ hTO, hys, fun p hp => (hat p hp).move fun o e => k _ (by simp; exact .inr (.inr (.inr ⟨p, hp, rfl⟩))) o e⟩
  item := by
    intro X hP hw hK hc i pins s σ H E I hf st hg
    subst hP hw hK
    obtain ⟨g0, g1, ya, hz, ho, hTI, hTO, hya, hat⟩ := st
    obtain ⟨xss, pr, hi⟩ := hg
    obtain ⟨ys, us, rv, hv, hy⟩ := zip_vals I pr hi
    have hus : ps.length = us.length := Paired.length hv
    have zlt : z < s.heap.objs.size := Heap.lt_size hz
    refine pyNext_zip D hz ho hTI hTO hya hne hsz hat hv fun h1 k0 k1 yb z1 o1 t1 y1 a1 T1 s1 st1 => ⟨_, rfl, go_zip (s := { s with heap := h1 }) z1 fun h2 m0 z2 o2 sb => ?_⟩
    have hT2 : TupIs h2 s.heap.objs.size us.toArray := (sb.2 _ (Nat.ne_of_gt zlt)).trans T1
    have new : ObjOk X.prog X.w (upd H s.heap.objs.size (.tup ys)) h2 s.heap.objs.size (.tup ys) := ⟨by rw [rv.length, ← hus]; exact hsz, us, rv, ⟨_, hT2, rfl, _, rfl⟩⟩
    have up : ∀ c o, c ∉ z :: TI :: TO :: ps.map (·.it) → s.heap.get? c = some o → h2.get? c = some o := fun c o hb e => by
      have hcz : c ≠ z := fun q => hb (by simp [q])
      exact (sb.2 c hcz).trans (st1 c o hcz (fun q => hb (by simp [q])) (fun p hp q => hb (by simp; exact .inr (.inr (.inr ⟨p, hp, q.symm⟩)))) e)
    have I1 : Inv X pins σ (upd H s.heap.objs.size (.tup ys)) { s with heap := h2 } := I.turnedNew (t' := s.toks) (ch := z :: TI :: TO :: ps.map (·.it)) up hf (Nat.le_refl _) new
    refine ⟨.ref s.heap.objs.size, _, I1, rfl, ⟨_, ys, rfl, I.hok.fresh (Nat.le_refl _), rfl, fun yss pr' => ?_⟩, ⟨m0, k1, yb, z2, ?_, ?_, ?_, y1, fun p hp => (a1 p hp).move fun o e => (sb.2 _ (D.i p hp).1).trans e⟩, fun c hcm => ?_⟩
    · obtain rfl : yss = xss := Paired.uniq (G := SqB X.K H) (fun a b b' h h' => sqB_inj I h h') pr' pr
      exact hy
    · rcases o2 with rfl | rfl
      · exact o1
      · exact .inl rfl
    · exact (sb.2 _ D.TIz).trans (st1 _ _ D.TIz D.TITO (fun p hp => (D.i p hp).2.1.symm) hTI)
    · exact (sb.2 _ D.TOz).trans t1
    · have hlt : c < s.heap.objs.size := by
        rcases List.mem_cons.mp hcm with rfl | hcm
        · exact zlt
        rcases List.mem_cons.mp hcm with rfl | hcm
        · exact Heap.lt_size hTI
        rcases List.mem_cons.mp hcm with rfl | hcm
        · exact Heap.lt_size hTO
        obtain ⟨p, hp, rfl⟩ := List.mem_map.mp hcm
        obtain ⟨o, e, _⟩ := hat p hp
        exact Heap.lt_size e
      rw [upd_ne (Nat.ne_of_lt hlt)]
      exact (hf c hcm).1
  done := by
    intro X hP hw hK hc i pins s σ H E I hf st hg
    subst hP hw hK
    obtain ⟨g0, g1, ya, hz, ho, hTI, hTO, hya, hat⟩ := st
    obtain ⟨q, r, xs, e, hq, hl⟩ := hg
    cases ps with
    | nil => exact absurd rfl hne
    | cons p ps =>
      obtain ⟨rfl, rfl⟩ := List.cons.inj e
      obtain ⟨vs, rv, hs⟩ := sqB_src (n := p.it) I hq
      have hx : vs[i]? = none := List.getElem?_eq_none (by rw [← rv.length]; exact hl)
      refine pyNext_zipEnd D hz ho hTI hTO (hat p List.mem_cons_self) hs (fun s2 Q2 E2 _ a c h => Pt.stop (show X.A.in1.handled = none from I.ok.hd hc) a c hx h) fun h' st' => ⟨rfl, I.turnedL (t' := s.toks) (ch := z :: TI :: TO :: (p :: ps).map (·.it)) (fun c o hb q => ?_) hf⟩
      exact st' c o (fun y => hb (by simp [y])) (fun y => hb (by simp [y])) (fun p' hp y => hb (List.mem_cons_of_mem _ (List.mem_cons_of_mem _ (List.mem_cons_of_mem _ (y ▸ List.mem_map_of_mem hp))))) q
  self := fun A i s Q E st h => let ⟨_, _, _, hz, _⟩ := st; iter_zip hz h
/-! ### the rules -/
theorem zap_new {n : Nat} {ls : List (Bool × Addr)} (h : ∀ q ∈ ls, q.2 < n) : ZAp (n + ls.length + 2) (n + ls.length) (n + ls.length + 1) (ptsFrom n ls) := by
  have key : ∀ p ∈ ptsFrom n ls, @LE.le Nat _ n p.it ∧ @LT.lt Nat _ p.it (n + ls.length) ∧ @LT.lt Nat _ p.l n := fun p hp => let ⟨a, b, c⟩ := ptsFrom_mem hp; ⟨a, b, h _ c⟩
  refine ⟨fun z => ?_, fun z => ?_, fun z => ?_, fun p hp => ⟨fun z => ?_, fun z => ?_, fun z => ?_⟩, fun p hp => ⟨fun z => ?_, fun z => ?_, fun q hq z => ?_⟩, ptsFrom_nodup n ls⟩
  · have z : n + ls.length = n + ls.length + 2 := z
    omega
  · have z : n + ls.length + 1 = n + ls.length + 2 := z
    omega
  · have z : n + ls.length = n + ls.length + 1 := z
    omega
  · have := key p hp
    have z : @Eq Nat p.it (n + ls.length + 2) := z
    omega
  · have := key p hp
    have z : @Eq Nat p.it (n + ls.length) := z
    omega
  · have := key p hp
    have z : @Eq Nat p.it (n + ls.length + 1) := z
    omega
  · have := key p hp
    have z : @Eq Nat p.l (n + ls.length + 2) := z
    omega
  · have := key p hp
    have z : @Eq Nat p.l (n + ls.length + 1) := z
    omega
  · have := key p hp
    have := key q hq
    have z : @Eq Nat p.l (q.it) := z
    omega
def ZipR (K : PySem.W.Frag) (ls : List (Bool × Addr)) (H : Hp) : Prop := ls ≠ [] ∧ ls.length ≤ 6 ∧ ∀ q ∈ ls, ∃ xs, SqB K H q xs
/-- a zip made, and its iterator -/
theorem zip_made {X : Cx} {tg : Expr} {pins : List (Addr × Obj)} {σ : L2.St} {H : Hp} {s : Shared} {R : It → Hp → Prop} {ls : List (Bool × Addr)} (I : Inv X pins σ H s) (h : ZipR X.K ls H) (q : R (ItN X.K ls) H) :
    wpAny (model X.prog X.w) X.A (call (.type "zip") (ls.map fun q => Value.ref q.2)) (fun v s1 => wpAny (model X.prog X.w) X.A (pyIter v) (PIE X pins σ tg R) X.xe s1) X.xe s := by
  obtain ⟨h1, h2, h3⟩ := h
  have src : ∀ q ∈ ls, SrcB s.heap q := fun q hq => by
    obtain ⟨xs, hx⟩ := h3 q hq
    obtain ⟨us, _, hs⟩ := sqB_src (n := 0) I hx
    exact ⟨us, hs⟩
  have low : ∀ q ∈ ls, q.2 < s.heap.objs.size := fun q hq => by
    obtain ⟨us, o, e, _⟩ := src q hq
    exact Heap.lt_size e
  have ne : ptsFrom s.heap.objs.size ls ≠ [] := fun z => h1 (by
    have := ptsFrom_length s.heap.objs.size ls
    rw [z] at this
    exact List.length_eq_zero_iff.mp this.symm)
  refine call_zip src h1 h2 fun h' N => iter_zip N.zo ?_
  have I2 : Inv X pins σ H { s with heap := h' } := I.kept (t' := s.toks) N.keep
  have T := turn_zipN (P := X.prog) (w := X.w) (K := X.K) (tg := tg) (zap_new low) (by rw [ptsFrom_length]; exact Nat.le_trans h2 (by decide)) ne
  rw [ptsFrom_src] at T
  refine ⟨_, _, _, _, H, rfl, I2, T, ⟨.none, false, _, N.zo, .inl rfl, N.ti, N.to, by rw [List.size_toArray, List.length_replicate, ptsFrom_length], N.at_⟩, fun b hb => ?_, q⟩
  have hle : @LE.le Nat _ s.heap.objs.size b := by
    rcases List.mem_cons.mp hb with rfl | hb
    · show s.heap.objs.size ≤ s.heap.objs.size + ls.length + 2
      omega
    rcases List.mem_cons.mp hb with rfl | hb
    · show s.heap.objs.size ≤ s.heap.objs.size + ls.length
      omega
    rcases List.mem_cons.mp hb with rfl | hb
    · show s.heap.objs.size ≤ s.heap.objs.size + ls.length + 1
      omega
    obtain ⟨p, hp, rfl⟩ := List.mem_map.mp hb
    exact (ptsFrom_mem hp).1
  exact I.fpOk hle (I.hok.fresh hle)
theorem refs_of : ∀ {ls : List (Bool × Addr)} {us : List Value}, Vals (ls.map fun q => V.ref q.2) us → us = ls.map fun q => Value.ref q.2
  | [], _, r => by cases r; rfl
  | q :: ls, _, r => by
    cases r with
    | cons h r => rw [List.map_cons, show _ = Value.ref q.2 from h, refs_of r]
def iZipN (K : PySem.W.Frag) (ta : TA) : TI := fun σ H R => ta σ H fun vs H1 => ∃ ls : List (Bool × Addr), vs = ls.map (fun q => V.ref q.2) ∧ ZipR K ls H1 ∧ R (ItN K ls) H1
theorem pi_zipN {X : Cx} {tg e : Expr} {es : List Expr} {ta : TA} {p pos : Pos} (hg : Gl X "zip") (hm : X.mg "zip" = none) (ha : PA X (e :: es) ta) (hs : starEach (e :: es) X.env = (false, eval e X.env) :: starEach es X.env := by rfl) (hpl : (backTo pos (starEach es X.env)).any (·.1) = false := by rfl) :
    PI X tg (.Call (.Name "zip" p) (e :: es) [] pos) (iZipN X.K ta) := by
  refine ⟨fun pins s σ H R I h => ?_⟩
  refine Call_ (ld_blt I hg hm PyProof.Rows.boot_zip (PyProof.Rows.callWith_type1 (thn (ha.run pos pins s σ H _ I h) fun us s1 ⟨vs, H1, I1, r1, ls, ev, hz, q⟩ => ?_) hs hpl))
  subst ev
  rw [refs_of r1]
  exact zip_made I1 hz q
def iZipS (K : PySem.W.Frag) (te : TE) : TI := fun σ H R => te σ H fun x H1 => ∃ (a : Addr) (ls : List (Bool × Addr)), x = .ref a ∧ (SqT K H1 a (ls.map fun q => V.ref q.2) ∨ SqL K H1 a (ls.map fun q => V.ref q.2)) ∧ ZipR K ls H1 ∧ R (ItN K ls) H1
theorem pi_zipS {X : Cx} {tg e : Expr} {te : TE} {p sp pos : Pos} (hg : Gl X "zip") (hm : X.mg "zip" = none) (he : PE X e te) (hs : starEach [.Starred e sp] X.env = [(true, eval e X.env)] := by rfl) :
    PI X tg (.Call (.Name "zip" p) [.Starred e sp] [] pos) (iZipS X.K te) := by
  refine ⟨fun pins s σ H R I h => ?_⟩
  refine Call_ (ld_blt I hg hm PyProof.Rows.boot_zip ?_)
  rw [hs]
  refine PySem.W.ks_call (P := fun _ => True) rfl (fun h _ => ?_) (PySem.W.ks_lone (thn (he.run pins s σ H _ I h) fun v s1 ⟨x, H1, I1, r1, a, ls, ev, hx, hz, q⟩ => ?_))
  · exact ⟨.machine, .inr (.inl rfl), fun _ _ _ _ _ q => wpAny_pure q⟩
  · subst ev
    obtain rfl : v = Value.ref a := r1
    exact StX.star_any I1 hx fun us s2 I2 rv => ⟨trivial, by rw [refs_of rv]; exact zip_made I2 hz q⟩
/-! ### walks -/
theorem lc_zipN {K : PySem.W.Frag} {ls : List (Bool × Addr)} {xss : List (List V)} {n : Nat} {g : TG} {tt : TT} {te : TE} {vs : List Nat} {σ : L2.St} {H1 : Hp} {D : Addr} {Qd : Hp → Prop} (hn : ∀ xs ∈ xss, xs.length = n) (hls : ls ≠ []) (Pv : Nat → Hp → Prop) (h0 : Pv 0 (upd H1 D (.lst []))) (hq : ∀ i H, i ≤ n → Pv i H → Paired (SqB K H) ls xss)
    (hs : ∀ i T ys H, i < n → Paired (fun (xs : List V) y => xs[i]? = some y) xss ys → Pv i H → H T = none → g (.ref T) (wipe σ vs) (upd H T (.tup ys)) fun σ2 H2 => wipe σ2 vs = wipe σ vs ∧ tt σ2 H2 fun b H3 =>
      if b = true then te σ2 H3 fun y H4 => ∃ acc, H4 D = some (.lst acc) ∧ acc.length < sizeLine ∧ Pv (i + 1) (upd H4 D (.lst (acc ++ [y]))) else Pv (i + 1) H3) (hd : ∀ H, Pv n H → Qd H) :
    ∃ W : Nat → Nat → Hp → Prop, (∃ m, W 0 m (upd H1 D (.lst []))) ∧ ∀ i m H, W i m H →
      ((ItN K ls).stop i H ∧ Qd H) ∨ ((ItN K ls).go i H ∧ ∃ Nx : Hp → Prop, (∀ H', Nx H' → ∃ m', m' < m ∧ W (i + 1) m' H') ∧ ∀ x H', (ItN K ls).yld i H x H' → g x (wipe σ vs) H' fun σ2 H2 => wipe σ2 vs = wipe σ vs ∧ tt σ2 H2 fun b H3 =>
        if b = true then te σ2 H3 fun y H4 => ∃ acc, H4 D = some (.lst acc) ∧ acc.length < sizeLine ∧ Nx (upd H4 D (.lst (acc ++ [y]))) else Nx H3) := by
  refine ⟨fun i m H => m = n - i ∧ i ≤ n ∧ Pv i H, ⟨n, by simp, Nat.zero_le _, h0⟩, ?_⟩
  rintro i m H ⟨rfl, hi, p⟩
  have pr := hq i H hi p
  by_cases hlt : i < n
  · refine .inr ⟨⟨xss, pr, fun xs hx => by rw [hn xs hx]; exact hlt⟩, Pv (i + 1), fun H' p' => ⟨n - (i + 1), by omega, rfl, hlt, p'⟩, fun x H' y => ?_⟩
    obtain ⟨T, ys, rfl, nT, rfl, f⟩ := y
    exact hs i T ys H hlt (f xss pr) p nT
  · obtain rfl : i = n := by omega
    cases pr with
    | nil => exact absurd rfl hls
    | cons h r => exact .inl ⟨⟨_, _, _, rfl, h, Nat.le_of_eq (hn _ List.mem_cons_self)⟩, hd H p⟩
theorem for_zipN {K : PySem.W.Frag} {ls : List (Bool × Addr)} {xss : List (List V)} {n : Nat} {g : TG} {tb : TS} {D : Ends} {σ : L2.St} {H : Hp} (hn : ∀ xs ∈ xss, xs.length = n) (hls : ls ≠ []) (Pv : Nat → L2.St → Hp → Prop) (h0 : Pv 0 σ H) (hq : ∀ i σ H, i ≤ n → Pv i σ H → Paired (SqB K H) ls xss)
    (hs : ∀ i T ys σ H, i < n → Paired (fun (xs : List V) y => xs[i]? = some y) xss ys → Pv i σ H → H T = none → g (.ref T) σ (upd H T (.tup ys)) fun σ2 H2 => tb { D with nx := Pv (i + 1), ct := Pv (i + 1), bk := D.nx } σ2 H2) (hd : ∀ σ H, Pv n σ H → D.nx σ H) :
    ∃ W : Nat → Nat → L2.St → Hp → Prop, (∃ m, W 0 m σ H) ∧ ∀ i m σ H, W i m σ H →
      ((ItN K ls).stop i H ∧ D.nx σ H) ∨ ((ItN K ls).go i H ∧ ∃ N : L2.St → Hp → Prop, (∀ σ' H', N σ' H' → ∃ m', m' < m ∧ W (i + 1) m' σ' H') ∧ ∀ x H', (ItN K ls).yld i H x H' → g x σ H' fun σ2 H2 => tb { D with nx := N, ct := N, bk := D.nx } σ2 H2) := by
  refine ⟨fun i m σ H => m = n - i ∧ i ≤ n ∧ Pv i σ H, ⟨n, by simp, Nat.zero_le _, h0⟩, ?_⟩
  rintro i m σ H ⟨rfl, hi, p⟩
  have pr := hq i σ H hi p
  by_cases hlt : i < n
  · refine .inr ⟨⟨xss, pr, fun xs hx => by rw [hn xs hx]; exact hlt⟩, Pv (i + 1), fun σ' H' p' => ⟨n - (i + 1), by omega, rfl, hlt, p'⟩, fun x H' y => ?_⟩
    obtain ⟨T, ys, rfl, nT, rfl, f⟩ := y
    exact hs i T ys σ H hlt (f xss pr) p nT
  · obtain rfl : i = n := by omega
    cases pr with
    | nil => exact absurd rfl hls
    | cons h r => exact .inl ⟨⟨_, _, _, rfl, h, Nat.le_of_eq (hn _ List.mem_cons_self)⟩, hd σ H p⟩
end Vf
set_option Elab.async false
set_option linter.all false
set_option maxRecDepth 100000
set_option maxHeartbeats 4000000
/-! list(reversed(a list)) -/
namespace Vf
open PySem PySem.Spec PyProof.Rows L2
abbrev RevAcc (its : Array Value) (acc : Array Value) : Prop := ItemsOf (fun i v => its[its.size - 1 - i]? = some v) acc its.size
section
variable {prog : Program} {w : World} {A : Around} {E : Value → Shared → Prop} {s : Shared} {I l S : Addr} {its : Array Value}
theorem ext_rev {R : Result → Shared → Prop} {r : Value} (hh : A.handled = none) (hI : s.heap.IsRevIter I l ((its.size : Int) - 1)) (hl : s.heap.IsList l its) (nI : l ≠ I) (SI : S ≠ I) (Sl : S ≠ l) (hn : its.size ≤ sizeLine) {c : Nat}
    (hS : s.heap.get? S = some { cls := .type "list", data := .seq #[] c }) (hR : ∀ h' tk acc c', (∀ b o, b ≠ S → b ≠ I → s.heap.get? b = some o → h'.get? b = some o) → h'.get? S = some { cls := .type "list", dict := none, data := .seq acc c', slots := #[] } → RevAcc its acc → R (.ok (.ret r)) { s with heap := h', toks := tk }) :
    wpAny (model prog w) A.in1 (Builtin.List.listExtendWith (.ref S) (.ref I) r)
      (fun fin s' => match fin with | .done f => R (.ok f) s' | .again c' => c'.quiet = true ∧ codeAny (model prog w) A c' R s') (fun e s' => R (.error e) s') s := by
  have Wk := (Walks.listRev (prog := prog) (w := w) (A := A.in1) hh I l nI its).toS
  have nf : S ∉ [I, l] := by simp [SI, Sl]
  have ty := Heap.IsRevIter.typeIs (s := s) hI
  have ns : Builtin.List.listSameRef (.ref S) (.ref I) = false := by simp [Builtin.List.listSameRef, SI]
  unfold Builtin.List.listExtendWith
  refine wpAny_bind (wpAny_typeOf ty ?_)
  rw [if_neg (by rw [ns]; decide)]
  refine wpAny_bind (wpAny_pyIter_revIter hI (wpAny_bind (wpAny_holding ?_)))
  unfold Builtin.List.listLengthHint
  refine wpAny_bind (wpAny_specialOf ty RT.nolen_lri ?_)
  show wpAny _ A.in1 (specialOf _ (Str.ofString "__length_hint__") >>= _) _ _ _
  refine wpAny_bind (wpAny_specialOf ty RT.hint_lri ?_)
  generalize hid : ("list_reverseiterator.__length_hint__" : String) = nm
  wp_delta
  rw [show splitId nm = some ("list_reverseiterator", "__length_hint__") by subst hid; decide +kernel]
  subst hid
  refine wpAny_bind (wpAny_isInstance (b := true) ty (by rw [isSubtype_type]; kernel_rfl) (wpAny_pure ?_))
  rw [if_neg (by decide)]
  have e0 : ((its.size : Nat) : Int) - 1 - ((0 : Nat) : Int) = (its.size : Int) - 1 := by omega
  refine wpAny_pure ⟨plainId_quiet F.plain_extend_loop _, codeAny_extend_loopS Wk hn _ nf _ its.size 0 _ _ _ rfl (Nat.zero_le _) ⟨Nat.zero_le _, (by rw [e0]; exact hI), hl⟩ hS (ItemsOf.nil _) fun s2 acc c2 mv hS2 hacc => ?_⟩
  rw [Moved.eq_with mv]
  refine hR s2.heap s2.toks acc c2 (fun b o b1 b2 e => mv.heap b o (fun m => ?_) e) hS2 hacc
  rcases List.mem_cons.mp m with z | m
  · exact b1 z
  · exact b2 (List.mem_singleton.mp m)
theorem init_rev {R : Result → Shared → Prop} (hh : A.handled = none) (hI : s.heap.IsRevIter I l ((its.size : Int) - 1)) (hl : s.heap.IsList l its) (nI : l ≠ I) (SI : S ≠ I) (Sl : S ≠ l) (hn : its.size ≤ sizeLine)
    (hS : s.heap.get? S = some { cls := .type "list", data := .seq #[] }) (hR : ∀ h' tk acc c', (∀ b o, b ≠ S → b ≠ I → s.heap.get? b = some o → h'.get? b = some o) → h'.get? S = some { cls := .type "list", dict := none, data := .seq acc c', slots := #[] } → RevAcc its acc → R (.ok (.ret .none)) { s with heap := h', toks := tk }) :
    wpAny (model prog w) A.in1 (Builtin.«list.__init__» ⟨[.ref S, .ref I], []⟩)
      (fun fin s' => match fin with | .done f => R (.ok f) s' | .again c' => c'.quiet = true ∧ codeAny (model prog w) A c' R s') (fun e s' => R (.error e) s') s := by
  show wpAny _ _ (do let old ← Builtin.List.listItems (.ref S); Builtin.List.listUpdate (.ref S) (fun _ => #[]); letGo old.toList.reverse; Builtin.List.listExtendWith (.ref S) (.ref I) .none) _ _ s
  refine wpAny_bind ?_
  unfold Builtin.List.listItems
  refine wpAny_bind (wpAny_seqItems hS rfl (wpAny_pure ?_))
  show wpAny _ _ (updateSeq S (fun _ => #[]) >>= fun _ => letGo (#[] : Array Value).toList.reverse >>= fun _ => Builtin.List.listExtendWith (.ref S) (.ref I) .none) _ _ s
  refine wpAny_bind (wpAny_updateSeq hS rfl (wpAny_bind (wpAny_letGo ?_)))
  have other : ∀ b o, b ≠ S → s.heap.get? b = some o → (s.heap.update S (Obj.mapSeq fun _ => (#[] : Array Value))).get? b = some o := fun b o hb e => (Heap.get?_update_other _ _ (Ne.symm hb)).trans e
  obtain ⟨ol, hol, cl⟩ := id hl
  refine ext_rev (s := { s with heap := s.heap.update S (Obj.mapSeq fun _ => (#[] : Array Value)) }) hh (hI.at fun o e => other I o SI.symm e) ⟨ol, other l ol Sl.symm hol, cl⟩ nI SI Sl hn (Heap.get?_update_self _ hS rfl) fun h' tk acc c' hk hS' hacc => hR h' tk acc c' (fun b o b1 b2 e => hk b o b1 b2 (other b o b1 e)) hS' hacc
theorem call_list_rev {Q : Value → Shared → Prop} (hh : A.handled = none) (hI : s.heap.IsRevIter I l ((its.size : Int) - 1)) (hl : s.heap.IsList l its) (nI : l ≠ I) (hn : its.size ≤ sizeLine)
    (hQ : ∀ h' tk acc c', (∀ b o, b ≠ I → s.heap.get? b = some o → h'.get? b = some o) → h'.get? s.heap.objs.size = some { cls := .type "list", dict := none, data := .seq acc c', slots := #[] } → RevAcc its acc → Q (.ref s.heap.objs.size) { s with heap := h', toks := tk }) :
    wpAny (model prog w) A (call (.type "list") [.ref I]) Q E s := by
  refine callType_codes (Q₁ := fun obj t => obj = .ref s.heap.objs.size ∧ t = { s with heap := s.heap.push { cls := .type "list", data := .seq #[] } }) F.called_list (F.typeCall_list_1 _) F.entry_list_init (code_list_new _ ⟨rfl, rfl⟩) fun obj t ht => ?_
  obtain ⟨rfl, rfl⟩ := ht
  have new : (s.heap.push { cls := .type "list", data := .seq #[] }).get? s.heap.objs.size = some { cls := .type "list", data := .seq #[] } := Heap.get?_push_size _ rfl
  obtain ⟨oi, hoi, _⟩ := id hI
  obtain ⟨ol, hol, _⟩ := id hl
  refine ⟨⟨_, new, rfl⟩, F.args_list_init_2 _ _, init_rev (A := A.in1) (s := { s with heap := s.heap.push { cls := .type "list", data := .seq #[] } }) hh (hI.at fun o e => Heap.get?_push_of_some _ e) (hl.push _) nI (Nat.ne_of_gt (Heap.lt_size hoi)) (Nat.ne_of_gt (Heap.lt_size hol)) hn new fun h' tk acc c' hk hS' hacc => ?_⟩
  exact ⟨rfl, hQ h' tk acc c' (fun b o b1 e => hk b o (Nat.ne_of_lt (Heap.lt_size e)) b1 (Heap.get?_push_of_some _ e)) hS' hacc⟩
end
def tLstRev (K : PySem.W.Frag) (te : TE) : TE := fun σ H Q => te σ H fun v H1 => ∃ (a : Addr) (xs : List V), v = .ref a ∧ SqL K H1 a xs ∧ ∀ q, H1 q = none → Q (.ref q) (upd H1 q (.lst xs.reverse))
theorem pe_lstRev {X : Cx} {e : Expr} {te : TE} {p p2 pos pos2 : Pos} (hc : X.calm = true) (hg : Gl X "list") (hm : X.mg "list" = none) (hg2 : Gl X "reversed") (hm2 : X.mg "reversed" = none) (he : PE X e te)
    (hs : starEach [e] X.env = (false, eval e X.env) :: starEach [] X.env := by rfl) (hs2 : starEach [.Call (.Name "reversed" p2) [e] [] pos2] X.env = (false, eval (.Call (.Name "reversed" p2) [e] [] pos2) X.env) :: starEach [] X.env := by rfl) :
    PE X (.Call (.Name "list" p) [.Call (.Name "reversed" p2) [e] [] pos2] [] pos) (tLstRev X.K te) := by
  refine ⟨fun pins s σ H Q I h => ?_⟩
  refine Call_ (ld_blt I hg hm Pv.boot_list (PyProof.Rows.callWith_type1 (args_cons (Call_ (ld_blt I hg2 hm2 PyProof.Rows.boot_reversed (PyProof.Rows.callWith_type1 (args_cons (thn (he.run pins s σ H _ I h) fun u t ⟨v, H1, I1, r1, q1⟩ => args_nil ?_) hs) hs rfl))) hs2) hs2 rfl))
  obtain ⟨a, xs, ev, hq, q⟩ := q1
  subst ev
  obtain rfl : u = Value.ref a := r1
  obtain ⟨vs, rv, pl, hz⟩ := I1.list hq
  have hl := pl.isList
  refine call_reversed_list hl (args_nil ?_)
  have I2 : Inv X pins σ H1 { t with heap := t.heap.push (revObj a ((vs.toArray.size : Int) - 1)) } := I1.kept (t' := t.toks) fun b o e => Heap.get?_push_of_some _ e
  obtain ⟨f0, f1, f2, f3, f4, f5⟩ := I1.fpOk (H' := H1) (b := t.heap.objs.size) (Nat.le_refl _) (I1.hok.fresh (Nat.le_refl _))
  obtain ⟨ol, hol, _⟩ := id hl
  refine call_list_rev (s := { t with heap := t.heap.push (revObj a ((vs.toArray.size : Int) - 1)) }) (I1.ok.hd hc) ⟨_, Heap.get?_push_size _ rfl, rfl, rfl⟩ (hl.push _) (Nat.ne_of_lt (Heap.lt_size hol)) (by rw [List.size_toArray, ← rv.length]; exact hz) fun h' tk acc c' hk hS' hacc => ?_
  have hn2 : H1 (t.heap.push (revObj a ((vs.toArray.size : Int) - 1))).objs.size = none := I2.hok.fresh (Nat.le_refl _)
  refine ⟨.ref _, upd H1 _ (.lst xs.reverse), ?_, rfl, q _ hn2⟩
  refine I2.turnedNew (t' := tk) (ch := [t.heap.objs.size]) (fun b o hb e => hk b o (fun z => hb (by simp [z])) e) (fun b hb => ?_) (Nat.le_refl _) ⟨by rw [List.length_reverse]; exact hz, acc.toList, c', RT.vals_rev rv hacc, ?_⟩
  · obtain rfl : b = t.heap.objs.size := by simpa using hb
    exact ⟨f0, f1, f2, f3, f4, f5⟩
  · rw [Array.toArray_toList]
    exact hS'
end Vf
namespace Vf
open PySem PySem.Spec PyProof.Rows L2
/-! ### sum of a list or a tuple of ints -/
theorem preSum_take (ns : List Int) : ∀ k : Nat, preSum (fun i => ns.getD i 0) k = (ns.take k).sum
  | 0 => rfl
  | k + 1 => by
    show preSum (fun i => ns.getD i 0) k + ns.getD k 0 = _
    rw [preSum_take ns k, List.take_add_one, List.sum_append, List.getD_eq_getElem?_getD]
    cases ns[k]? <;> simp
theorem ints_at : ∀ {vs : List Value} {ns : List Int} {i : Nat} {v : Value}, IntsAre vs ns → vs[i]? = some v → ∃ n, ns[i]? = some n ∧ ∃ t, v = .int n t
  | _, _, _, _, .nil, e => by simp at e
  | _, _, 0, _, .cons n t _, e => ⟨n, rfl, t, (Option.some.inj e).symm⟩
  | _, _, i + 1, v, .cons _ _ r, e => ints_at (i := i) (v := v) r e
theorem sum_tup {prog : Program} {w : World} {A : Around} {E : Value → Shared → Prop} {s : Shared} {l : Addr} {its : List Value} {ns : List Int} {Q : Value → Shared → Prop} (hh : A.handled = none) (hl : s.heap.IsTuple l its.toArray) (hi : IntsAre its ns)
    (h : ∀ h' tk t', (∀ b o, s.heap.get? b = some o → h'.get? b = some o) → Q (.int ns.sum t') { s with heap := h', toks := tk }) : wpAny (model prog w) A (call (.builtin "sum") [.ref l]) Q E s := by
  obtain ⟨ol, hol, _⟩ := id hl
  have nl : l ≠ s.heap.objs.size := Nat.ne_of_lt (Heap.lt_size hol)
  have len := hi.length
  refine call_sum_walkG (wpAny_pyIter_tuple hl ⟨s.heap.objs.size, [s.heap.objs.size, l], [s.heap.objs.size], _, _, _, (fun i => ns.getD i 0), rfl, Walks.tuple (A := A.in1) hh s.heap.objs.size l nl its.toArray, ⟨⟨_, Heap.get?_push_size _ rfl, rfl, rfl⟩, hl.push _⟩, fun b hb => ?_, fun i v e => ?_, fun h' tk t' hk => ?_⟩)
  · rw [Heap.size_push]
    rcases List.mem_cons.mp hb with rfl | hb
    · exact Nat.lt_succ_self _
    · obtain rfl : b = l := by simpa using hb
      exact Nat.lt_succ_of_lt (Heap.lt_size hol)
  · have e : its[i]? = some v := by simpa using e
    obtain ⟨n, hn, t, rfl⟩ := ints_at hi e
    exact ⟨t, by show _ = Value.int (ns.getD i 0) t; rw [List.getD_eq_getElem?_getD, hn]; rfl⟩
  · rw [preSum_take, List.take_of_length_le (by rw [List.size_toArray, len]; exact Nat.le_refl _)]
    exact h h' tk t' fun b o e => hk b o (fun z => by
      obtain rfl : b = s.heap.objs.size := by simpa using z
      exact absurd (Heap.lt_size e) (Nat.lt_irrefl _)) (Heap.get?_push_of_some _ e)
def rSumV (K : PySem.W.Frag) : List V → Hp → VK → Prop := fun vs H Q => ∃ (a : Addr) (ns : List Int), vs = [V.ref a] ∧ SqV K H a (ns.map V.int) ∧ Q (.int ns.sum) H
def rIxV (K : PySem.W.Frag) : R2 := fun x y H Q => ∃ p xs i v, x = .ref p ∧ y = .int i ∧ SqV K H p xs ∧ atI xs i = some v ∧ Q v H
section
variable {X : Cx} {K : PySem.W.Frag}
theorem sumVK (hK : X.K = K) (hc : X.calm = true) : CallR X (.builtin "sum") (rSumV K) := by
  subst hK
  intro pins s σ H vs us Q I r h
  obtain ⟨a, ns, rfl, hs, q⟩ := h
  rcases hs with hs | hs
  · exact cr_sum hc pins s σ H _ us Q I r ⟨a, ns, rfl, hs, q⟩
  · obtain ⟨its, rv, hl, _⟩ := I.tuple hs
    rw [Vals.ref1 r]
    exact sum_tup (I.ok.hd hc) hl rv.ints fun h' tk t' hk => ⟨.int _, H, I.kept hk, ⟨_, rfl⟩, q⟩
theorem ix_seqK (hK : X.K = K) : IxR X (rIxV K) := by
  subst hK
  intro value slice pins s σ H x y v u Q I rx ry h hs
  obtain ⟨p, xs, i, z, ex, ey, hq, he, q⟩ := h
  rcases hq with hq | hq
  · exact ix_list value slice pins s σ H x y v u Q I rx ry ⟨p, xs, i, z, ex, ey, hq, he, q⟩ hs
  · exact ix_tup value slice pins s σ H x y v u Q I rx ry ⟨p, xs, i, z, ex, ey, hq, he, q⟩ hs
end
theorem pe_lstRevK {X : Cx} {K : PySem.W.Frag} {e : Expr} {te : TE} {p p2 pos pos2 : Pos} (hK : X.K = K) (hc : X.calm = true) (hg : Gl X "list") (hm : X.mg "list" = none) (hg2 : Gl X "reversed") (hm2 : X.mg "reversed" = none) (he : PE X e te)
    (hs : starEach [e] X.env = (false, eval e X.env) :: starEach [] X.env := by rfl) (hs2 : starEach [.Call (.Name "reversed" p2) [e] [] pos2] X.env = (false, eval (.Call (.Name "reversed" p2) [e] [] pos2) X.env) :: starEach [] X.env := by rfl) :
    PE X (.Call (.Name "list" p) [.Call (.Name "reversed" p2) [e] [] pos2] [] pos) (tLstRev K te) := by
  subst hK
  exact pe_lstRev hc hg hm hg2 hm2 he hs hs2
theorem sl_listK {X : Cx} {K : PySem.W.Frag} (hK : X.K = K) : SlR X (rSlL K) := by subst hK; exact sl_list
/-! ### xs[i] op= e of a list -/
def rGetN (K : PySem.W.Frag) : V → V → Hp → VK → Prop := fun o i H Q => ∃ (p : Addr) (xs : List V) (j : Nat) (v : V), o = .ref p ∧ i = .int (j : Int) ∧ SqL K H p xs ∧ xs[j]? = some v ∧ Q v H
theorem get_listN {X : Cx} : PGet X (rGetN X.K) := by
  intro pins s σ H o i ov iv Q I r1 r2 h
  obtain ⟨p, xs, j, v, rfl, rfl, hq, hx, q⟩ := h
  obtain rfl : ov = Value.ref p := r1
  obtain ⟨t, rfl⟩ := r2
  obtain ⟨its, rv, pl, hz⟩ := I.list hq
  obtain ⟨u, hu, ru⟩ := rv.get hx
  have hj : j < xs.length := (List.getElem?_eq_some_iff.mp hx).1
  have ln := line63
  exact wpAny_getItem_list pl.isList (by omega) (by omega) (by rw [Int.toNat_natCast]; simpa using hu) ⟨v, H, I, ru, q⟩
/-! ### walks whose reading names the written part by a letter -/
section
variable {X : Cx} {K : PySem.W.Frag} {tg l : Expr} {tl : TE}
theorem pi_listK (hK : X.K = K) (hl : PE X l tl) : PI X tg l (iList K tl) := by subst hK; exact pi_list hl
theorem pi_seqK (hK : X.K = K) (hl : PE X l tl) : PI X tg l (iSeq K tl) := by subst hK; exact pi_seq hl
end
end Vf
set_option Elab.async false
set_option linter.all false
set_option maxRecDepth 100000
set_option maxHeartbeats 4000000
/-! sorted of a list or a tuple of ints -/
namespace Vf
open PySem PySem.Spec PyProof.Rows L2
section
variable {prog : Program} {w : World} {A : Around} {E : Value → Shared → Prop} {s : Shared}
/-- a tuple gathered into a new list -/
theorem collect_tup {t : Addr} {us : List Value} {R : List Value → Shared → Prop} (ht : s.heap.IsTuple t us.toArray) (hz : us.length ≤ sizeLine)
    (hR : R us { s with heap := (s.heap.push (seqObj "list" #[] 0)).update s.heap.objs.size (Obj.mapSeq (· ++ us.toArray)) }) : wpAny (model prog w) A (collect (.ref t)) R E s := by
  obtain ⟨ot, et, ct, k, dt⟩ := id ht
  unfold collect
  refine wpAny_bind (wpAny_runValue (codeAny_builtin PyProof.Rows.entry_proto_collect' ?_))
  show wpAny _ _ (do again (.builtin "list.__iadd__" ⟨[← newList [], .ref t], []⟩)) _ _ s
  refine wpAny_bind (wpAny_newList (wpAny_pure ⟨Code.quiet_builtin _ (by decide +kernel), codeAny_builtin PyProof.Rows.entry_list_iadd' ?_⟩))
  show wpAny _ _ (Builtin.List.listExtendWith (.ref s.heap.objs.size) (.ref t) (.ref s.heap.objs.size)) _ _ { s with heap := s.heap.push (seqObj "list" #[] 0) }
  unfold Builtin.List.listExtendWith
  have et2 : (s.heap.push (seqObj "list" #[] 0)).get? t = some ot := Heap.get?_push_of_some _ et
  refine wpAny_bind (wpAny_typeOf (T := "tuple") ⟨ot, et2, ct⟩ ?_)
  have hty : (Value.type "tuple" == Value.type "tuple") = true := by rfl
  rw [if_pos (by rw [hty]; simp)]
  refine wpAny_bind (listItems_at et2 dt ?_)
  refine wpAny_bind (listItems_at (n := 0) (xs := #[]) (Heap.get?_push_size _ rfl) rfl ?_)
  rw [if_neg (by simp)]
  refine wpAny_bind (listUpdate_at (n := 0) (xs := #[]) (Heap.get?_push_size _ rfl) rfl ?_ (Nat.zero_le _) ?_)
  rotate_left
  · show (#[] ++ us.toArray).size ≤ sizeLine + 1
    simp only [Array.size_append, List.size_toArray, List.length_nil]
    omega
  refine wpAny_pure ?_
  show wpAny (model prog w) A (do
      let y ← load s.heap.objs.size
      match y.data with
      | .seq ys _ => pure ys.toList
      | _ => unsupported "internal:collect") R E { s with heap := (s.heap.push (seqObj "list" #[] 0)).update s.heap.objs.size (Obj.mapSeq (· ++ us.toArray)) }
  refine wpAny_bind (wpAny_load (get?_update_seq (Heap.get?_push_size _ rfl) _) ?_)
  show wpAny _ _ (pure ((#[] : Array Value) ++ us.toArray).toList) R E _
  have e : ((#[] : Array Value) ++ us.toArray).toList = us := by simp
  rw [e]
  exact wpAny_pure hR
theorem sorted_tup {t : Addr} {us : List Value} {ns : List Int} {R : Value → Shared → Prop} (ht : s.heap.IsTuple t us.toArray) (hI : IntsAre us ns) (hz : us.length ≤ sizeLine)
    (hR : ∀ (out : Array Value) (ms : List Int), IntsAre out.toList ms → ms.Perm ns → ms.Pairwise (· ≤ ·) → R (.ref (s.heap.objs.size + 1)) { s with heap := sortedAll s.heap us out }) :
    wpAny (model prog w) A (call (.builtin "sorted") [.ref t]) R E s := by
  refine Calls.call_function_entry kind_sorted plain_sorted PyProof.Rows.entry_sorted (args_sorted1 _) ?_
  unfold Builtin.«sorted»
  refine wpAny_bind (m := checkCount "sorted" 1 1 _) (wpAny_pure ?_)
  refine wpAny_bind (collect_tup ht hz ?_)
  refine wpAny_bind (wpAny_newList ?_ hz)
  have sz : ((s.heap.push (seqObj "list" #[] 0)).update s.heap.objs.size (Obj.mapSeq (· ++ us.toArray))).objs.size = s.heap.objs.size + 1 := by rw [Heap.size_update, size_push']
  have at1 : (((s.heap.push (seqObj "list" #[] 0)).update s.heap.objs.size (Obj.mapSeq (· ++ us.toArray))).push (seqObj "list" us.toArray 0)).get? (s.heap.objs.size + 1) = some (seqObj "list" us.toArray 0) := by rw [← sz]; exact Heap.get?_push_size _ rfl
  show wpAny _ _ _ _ _ { s with heap := ((s.heap.push (seqObj "list" #[] 0)).update s.heap.objs.size (Obj.mapSeq (· ++ us.toArray))).push (seqObj "list" us.toArray 0) }
  rw [sz]
  refine wpAny_bind (wpAny_holding (wpAny_call_entry slot_list_sort ⟨_, at1, rfl⟩ PyProof.Rows.entry_list_sort (list_sort_treeAny at1 hI hz fun out ms a1 a2 a3 => ⟨_, rfl, ?_⟩) (args_list_sort _)))
  exact wpAny_pure ⟨_, rfl, hR out ms a1 a2 a3⟩
end
def rSortedV (K : PySem.W.Frag) : List V → Hp → VK → Prop := fun vs H Q => ∃ (a : Addr) (ns : List Int), vs = [V.ref a] ∧ SqV K H a (ns.map V.int) ∧ ∀ (ms : List Int) (p : Addr), ms.Perm ns → ms.Pairwise (· ≤ ·) → H p = none → Q (.ref p) (upd H p (.lst (ms.map V.int)))
theorem sortedVK {X : Cx} {K : PySem.W.Frag} (hK : X.K = K) : CallR X (.builtin "sorted") (rSortedV K) := by
  subst hK
  intro pins s σ H vs us Q I r h
  obtain ⟨a, ns, rfl, hs, q⟩ := h
  rcases hs with hs | hs
  · exact cr_sortedI pins s σ H _ us Q I r ⟨a, ns, rfl, hs, q⟩
  · obtain ⟨its, rv, hl, hz⟩ := I.tuple hs
    rw [Vals.ref1 r]
    have hz2 : its.length ≤ sizeLine := by rw [← rv.length]; exact hz
    refine sorted_tup hl rv.ints hz2 fun out ms h1 h2 h3 => ?_
    obtain ⟨ep, he⟩ := PyProof.Rows.sortedAll_at s.heap its out
    have hlen : (ms.map V.int).length ≤ sizeLine := by rw [List.length_map, h2.length_eq, ← rv.ints.length]; exact hz2
    exact ⟨.ref _, upd H (s.heap.objs.size + 1) (.lst (ms.map V.int)), I.laid (t' := s.toks) (fun _ _ => PyProof.Rows.sortedAll_old) (Nat.le_succ _) ⟨hlen, out.toList, ep, vals_of_ints h1, he⟩, rfl, q ms _ h2 h3 (I.hok.fresh (Nat.le_succ _))⟩
/-! ### methods of built-in types, the written part a letter -/
section
variable {X : Cx} {K : PySem.W.Frag} {T id : String} {name : Str} {o e : Expr} {es : List Expr} {to : TE} {t : TA} {r : V → List V → Hp → VK → Prop} {apos cpos : Pos}
theorem pe_bmK (hK : X.K = K) (pa : PlainAttrs T) (slot : Slot T name id) (hty : typeOf (.builtin id) = pure (.type "method_descriptor")) (hm : MtR X id r) (ho : PE X o to) (ha : PA X (e :: es) t)
    (h1 : attributeBase o name X.env (eval o X.env) = eval o X.env := by rfl)
    (h2 : ((backTo cpos (starEach (e :: es) X.env)).all (fun x => !x.1) && (backToKw cpos (keywordEach [] X.env)).all (fun x => x.1.isSome) && decide ((e :: es).length + ([] : List Keyword).length + (if ([] : List Keyword).isEmpty then 0 else 1) < 30)) = true := by rfl)
    (h3 : (apos.endLine == cpos.line) = true := by rfl) (h4 : starEach (e :: es) X.env = (false, eval e X.env) :: starEach es X.env := by rfl) (h5 : (backTo cpos (starEach es X.env)).any (·.1) = false := by rfl) :
    PE X (.Call (.Attribute o name apos) (e :: es) [] cpos) (tBM K T r to t) := by
  subst hK
  exact pe_bm pa slot hty hm ho ha h1 h2 h3 h4 h5
theorem mt_indexK (hK : X.K = K) : MtR X "list.index" (rIndex K) := by subst hK; exact mt_index
end
end Vf
set_option Elab.async false
set_option linter.all false
set_option maxRecDepth 100000
set_option maxHeartbeats 4000000
/-! A caught exception whose context is None: tracked so, defs called while it is handled, a comprehension over zip there. -/
namespace Vf
open PySem PySem.Spec PyProof.Rows L2
/-! ### an exception object by its class, its context None -/
def ExIsN (h : Heap) (a : Addr) (cls : Value) : Prop := ∃ (oe : Obj) (vs : Array Value), h.get? a = some oe ∧ L2N.Zn cls none oe ∧ oe.data = .fields vs
def ExTN (cls : Value) (a : Addr) : HO := .ext fun h => ExIsN h a cls
def ExHot (H : Hp) (a : Addr) : Prop := ∃ φ, H a = some (.ext φ) ∧ ∀ h, φ h → ∃ (o : Obj) (vs : Array Value), h.get? a = some o ∧ o.data = .fields vs ∧ vs[2]? = some .none
theorem ExAt.ofN {H : Hp} {a D : Addr} (e : H a = some (ExTN (.ref D) a)) : ExAt H a D := ⟨_, e, fun _ ⟨oe, vs, q1, q2, q3⟩ => ⟨oe, vs, q1, q2.zc, q3⟩⟩
theorem ExHot.ofN {H : Hp} {a : Addr} {cls : Value} (e : H a = some (ExTN cls a)) : ExHot H a := ⟨_, e, fun _ ⟨oe, vs, q1, q2, q3⟩ => ⟨oe, vs, q1, q3, q2.2.2 vs q3⟩⟩
theorem ExHot.same {H H' : Hp} {a : Addr} (e : ExHot H a) (s : Same H H') : ExHot H' a := let ⟨φ, q, r⟩ := e; ⟨φ, s _ _ q, r⟩
theorem ExHot.at {X : Cx} {pins : List (Addr × Obj)} {σ : L2.St} {H : Hp} {s : Shared} {a : Addr} (e : ExHot H a) (I : Inv X pins σ H s) (hh : X.A.handled = some (.ref a)) : HotX.HotAt X.A a s.heap := by
  obtain ⟨φ, q, r⟩ := e
  exact ⟨hh, r _ (I.hok a _ q).1⟩
theorem adoptN {X : Cx} {pins : List (Addr × Obj)} {σ : L2.St} {H : Hp} {s : Shared} {a : Addr} {cls : Value} (I : Inv X pins σ H s) (he : ExIsN s.heap a cls) (na : H a = none) (n0 : X.s_0.heap.get? a = none) (nL : a ≠ X.env.locals) (nP : ∀ p ∈ X.pn ++ pins, p.1 ≠ a) :
    Inv X pins σ (upd H a (ExTN cls a)) s := by
  obtain ⟨oe, vs, ha, hz, hd⟩ := id he
  have nC : ∀ x c, X.env.cells.lookup x = some c → c ≠ a := fun x c e z => by
    obtain ⟨v, o, ho, hc⟩ := I.cell x c e
    rw [z, ha] at ho
    cases ho
    rw [hd] at hc
    cases hc
  have nb0 : ∀ b o, X.s_0.heap.get? b = some o → b ≠ a := fun b o e z => by
    rw [z, n0] at e
    cases e
  have nbH : ∀ b o, H b = some o → b ≠ a := fun b o e => ne_of_none e na
  refine ⟨I.ok, I.os, I.bare, ⟨I.base.keep, I.base.slot, fun b o e n hx => ?_, I.base.there, fun b xs e => ?_, fun b o u e => ?_, fun b ps e => ?_⟩, I.loc, I.cell, ?_, fun x c e => ?_, fun p hp => ?_, fun b u e => ?_, I.len⟩
  · rw [upd_ne (nb0 b o e)]
    exact I.base.free b o e n hx
  · have q := I.base.tups b xs e
    rw [upd_ne (nbH _ _ q)]
    exact q
  · have q := I.base.frzs b o u e
    rw [upd_ne (nbH _ _ q)]
    exact q
  · obtain ⟨m, q⟩ := I.base.tbls b ps e
    exact ⟨m, by rw [upd_ne (nbH _ _ q)]; exact q⟩
  · rw [upd_ne nL.symm]
    exact I.free
  · rw [upd_ne (nC x c e)]
    exact I.freeC x c e
  · obtain ⟨e1, e2, e3⟩ := I.pin p hp
    exact ⟨e1, by rw [upd_ne (nP p hp)]; exact e2, e3⟩
  · by_cases hb : b = a
    · subst hb
      rw [upd_same] at e
      cases e
      exact ⟨he, ⟨oe, ha⟩, fun h1 h2 ⟨o1, v1, g1, g2⟩ k => ⟨o1, v1, k _ g1, g2⟩⟩
    · rw [upd_ne hb] at e
      exact (I.hok b u e).stay (fun _ _ _ q => q) (fun c q => by rw [upd_ne (nbH _ _ q)]; exact q) fun c xs q => by rw [upd_ne (nbH _ _ q)]; exact q
/-! ### try, the exceptions' contexts None -/
def wTN (K : PySem.W.Frag) (Wout : WX) (D : Ends) : List Cls1 → WX
  | [] => Wout
  | (c, oi, ts) :: r => fun cls d σ H => ∃ b, PySem.W.exmOne K cls c = some b ∧ (b = true → d = none ∧ ∀ a, H a = none → ts a cls (dw oi D) (sw oi (some (.ref a)) σ) (upd H a (ExTN cls a))) ∧ (b = false → wTN K Wout D r cls d σ H)
theorem ps_tryN {X : Cx} {body : List Stmt} {h₀ : ExceptHandler} {hds : List ExceptHandler} {l : List Cls1} {pos : Pos} {tb : WX → TS} {Wout : WX} (hs : X.stack = X.env :: X.outer) (hf : X.env.frame = some X.env.locals) (hex : X.ex = []) (hN : X.N.Nodup) (tk : L2N.Takes X Wout)
    (hb : ∀ (W : WX) (pn : List (Addr × Obj)) (xe : Value → Shared → Prop), L2N.Takes (X.tr pn xe) W → PassesOwn (model X.prog X.w) X.A X.env xe → PSs (X.tr pn xe) body (tb W))
    (hh : HdT X (h₀ :: hds) l) : PS X (.Try body (h₀ :: hds) [] [] pos) (fun D σ H => tb (wTN X.K Wout D l) D σ H) := by
  refine ⟨fun pins s σ H D I h => ?_⟩
  have ok := I.ok
  have hfr : X.A.frames = some (X.env :: X.outer) := ok.frames.trans (congrArg some hs)
  refine wpAny_Try_except (wpAny_mono ((hb (wTN X.K Wout D l) (X.pn ++ pins) (fun e s₁ => wpAny (model X.prog X.w) X.A (noteFrame e X.env) (fun _ s₂ => wpAny (model X.prog X.w) X.A (setFlight e none) (fun _ s₃ =>
    wpAny (model X.prog X.w) X.A (handleBy e X.env (h₀ :: hds)) (SP X pins D) X.xe s₃) X.xe s₂) X.xe s₁) (fun u s' air => ?_) PassesOwn.looking).run [] s σ H D (I.toTry _) h) (fun f s1 hsp => ?_) (fun _ _ he => he))
  · obtain ⟨a, B, sI, pins', σ', H', cls, d, rfl, J', nb, up, sky, na, os, ag, wish⟩ := air
    have J : Inv X pins σ' H' sI := J'.ofTry ok
    rw [hs] at sky
    show wpAny (model X.prog X.w) X.A (noteFrame (.ref a) X.env) _ _ _
    refine L2N.Sky.land L2N.Zn.steady hfr hf sky fun h3 fl3 up3 => ?_
    have J3 : Inv X pins σ' H' { s' with heap := h3 } := J.landed nb fl3.1 (up.trans up3) os ag
    obtain ⟨oe3, vs3, he3, hz3, hd3⟩ := fl3.there
    have nfr : a ∉ frs (X.env :: X.outer) := fun hm => by
      obtain ⟨_, o', e', hnf⟩ := fl3.2.2.1.mem hm
      rw [he3] at e'
      cases e'
      exact hnf _ hd3
    have nst : a ∉ frs X.stack := by rw [hs]; exact nfr
    have nL : a ≠ X.env.locals := fun z => nfr (List.mem_filterMap.mpr ⟨X.env, List.mem_cons_self, hf.trans (congrArg some z.symm)⟩)
    have Ba : B.get? a = none := fl3.2.1
    have nI : sI.heap.get? a = none := by
      cases q : sI.heap.get? a with
      | none => rfl
      | some o =>
        rw [nb a o q nst] at Ba
        cases Ba
    have n0 : X.s_0.heap.get? a = none := by
      cases q : X.s_0.heap.get? a with
      | none => rfl
      | some o =>
        obtain ⟨o', q'⟩ := J.base.there a o q (by rw [hex]; exact fun z => nomatch z)
        rw [nI] at q'
        cases q'
    have nP : ∀ p ∈ X.pn ++ pins, p.1 ≠ a := fun p hp z => by
      have q := (J.pin p hp).1
      rw [z, nI] at q
      cases q
    have S3 := toSuite J3 a
    have go : ∀ {hds' : List ExceptHandler} {l' : List Cls1}, HdT X hds' l' → wTN X.K Wout D l' cls d σ' H' →
        wpAny (model X.prog X.w) X.A (handleBy (.ref a) X.env hds') (SP X pins D) X.xe { s' with heap := h3 } := by
      have LT : PySem.W.Looks (model X.prog X.w) h3 (typeOf (.ref a)) cls := fun A Q E s k q => wpAny_typeOf_ref (k _ _ he3) (by rw [hz3.1]; exact q)
      have test : ∀ {x : Str} {c : Value} {np : Pos} {Q : Value → Shared → Prop} {E : Value → Shared → Prop}, Names X x c → Q c { s' with heap := h3 } → wpAny (model X.prog X.w) (X.A.mark (some (.ref a))) (eval (.Name x np) X.env) Q E { s' with heap := h3 } := fun {x c np Q E} hc q => by
        obtain ⟨hg, hdbg, hm | ⟨hm, hv, hnn⟩⟩ := hc
        · exact ld_glob (X := X.suite a (X.pn ++ pins)) S3 hg hm q hdbg
        · exact ld_blt (X := X.suite a (X.pn ++ pins)) S3 hg hm hv q hnn hdbg
      have adopted : d = none → ∀ h4, L2.Inv X pins σ' H' { s' with heap := h4 } → HandSPX.FlyingZ B (X.env :: X.outer) a (L2N.Zn cls d) h4 → L2.Inv X pins σ' (upd H' a (ExTN cls a)) { s' with heap := h4 } := fun ed h4 J4 fl4 => by
        obtain ⟨oe4, vs4, he4, hz4, hd4⟩ := fl4.there
        rw [ed] at hz4
        exact adoptN J4 ⟨oe4, vs4, he4, hz4, hd4⟩ na n0 nL nP
      intro hds' l' hk
      induction hk with
      | nil =>
        intro w
        refine wpAny_handleBy_nil ?_
        obtain ⟨k1, k2, k3, oe, vs, T, oT, ts', he, hz, hd, h1, hr⟩ := id fl3
        unfold PySem.passOn
        refine wpAny_bind (wpAny_field he hd h1 ?_)
        rw [if_neg (show ¬ ((Value.ref T == Value.none) = true) from by simp)]
        have fin : wpAny (model X.prog X.w) X.A (setFlight (.ref a) X.env.frame) (fun _ s4 => wpAny (model X.prog X.w) X.A (throw (.ref a) : Sem Flow) (SP X pins D) X.xe s4) X.xe { s' with heap := h3 } := by
          rw [hf]
          refine HandSPX.setFlight_upZ fl3 fun h4 hh4 up4 => wpAny_throw (tk _ _ ?_)
          exact ⟨a, B, sI, pins, σ', H', cls, d, rfl, J, nb, (up.trans up3).trans up4, .inr (.inr (hs ▸ hh4)), na, os, ag, w⟩
        first
          | exact wpAny_bind (wpAny_pure (wpAny_bind fin))
          | exact wpAny_bind fin
      | @plain x c ts b₀ su p1 p2 hds2 l2 hc hsu r ih =>
        intro w
        obtain ⟨b, hb1, hyes, hno⟩ := w
        refine wpAny_handleBy_cons (codeAny_handlers_test ?_) (by intro q; cases q)
        refine test hc ((PySem.W.exm_one (M := model X.prog X.w) (J3.kIn) LT hb1).here ?_)
        cases b with
        | true =>
          refine codeAny_handlers_suite (HandSPX.lands_againZ fl3 fun h4 fl4 up4 => ?_)
          have J4 := adopted (hyes rfl).1 h4 (J.landed nb fl4.1 ((up.trans up3).trans up4) os ag) fl4
          refine wpAny_mono ((hsu a cls (X.pn ++ pins)).run [] _ _ _ _ (toSuite J4 a) ((hyes rfl).2 a na)) (fun f s6 q6 => ?_) (fun _ _ z => False.elim z)
          cases f with
          | next => exact let ⟨σ6, H6, S6, q⟩ := q6; ⟨_, _, offSuite S6 ok, q⟩
          | brk => exact let ⟨σ6, H6, S6, q⟩ := q6; ⟨_, _, offSuite S6 ok, q⟩
          | cont => exact let ⟨σ6, H6, S6, q⟩ := q6; ⟨_, _, offSuite S6 ok, q⟩
          | ret u => exact let ⟨v6, σ6, H6, S6, r6, q⟩ := q6; ⟨_, _, _, offSuite S6 ok, r6, q⟩
        | false =>
          show wpAny _ X.A (handleBy (.ref a) X.env hds2) _ _ _
          exact ih (hno rfl)
      | @named x n i c ts b₀ su p1 p2 hds2 l2 hc hi hln hsu r ih =>
        intro w
        obtain ⟨b, hb1, hyes, hno⟩ := w
        refine wpAny_handleBy_cons (codeAny_handlers_test ?_) (by intro q; cases q)
        refine test hc ((PySem.W.exm_one (M := model X.prog X.w) (J3.kIn) LT hb1).here ?_)
        cases b with
        | true =>
          refine codeAny_handlers_suite_as (HandSPX.lands_againZ fl3 fun h4 fl4 up4 => ?_)
          have J4 := adopted (hyes rfl).1 h4 (J.landed nb fl4.1 ((up.trans up3).trans up4) os ag) fl4
          refine store_ok (X := X.suite a (X.pn ++ pins)) (v := .ref a) (toSuite J4 a) hN hi (.inl hln) rfl (fun s5 S5 => ?_) (.inr hln)
          refine wpAny_mono ((hsu a cls (X.pn ++ pins)).run [] s5 _ _ _ S5 ((hyes rfl).2 a na)) (fun f s6 q6 => ?_) (fun _ _ z => False.elim z)
          have gone : ∀ {σ6 : L2.St} {H6 : Hp} {Q : Shared → Prop}, Inv (X.suite a (X.pn ++ pins)) [] σ6 H6 s6 → (∀ s7, Inv X pins (σ6.set i none) H6 s7 → Q s7) →
              wpAny (model X.prog X.w) X.A (do bindName X.env n .none; unbindBehindTheSuite X.env n p2) (fun _ s7 => Q s7) X.xe s6 := fun {σ6 H6 Q} S6 hq => gone_ok (offSuite S6 ok) hN hi hln hq
          cases f with
          | next => exact let ⟨σ6, H6, S6, q⟩ := q6; gone S6 fun s7 J7 => ⟨_, _, J7, q⟩
          | brk => exact let ⟨σ6, H6, S6, q⟩ := q6; gone S6 fun s7 J7 => ⟨_, _, J7, q⟩
          | cont => exact let ⟨σ6, H6, S6, q⟩ := q6; gone S6 fun s7 J7 => ⟨_, _, J7, q⟩
          | ret u => exact let ⟨v6, σ6, H6, S6, r6, q⟩ := q6; gone S6 fun s7 J7 => ⟨_, _, _, J7, r6, q⟩
        | false =>
          show wpAny _ X.A (handleBy (.ref a) X.env hds2) _ _ _
          exact ih (hno rfl)
    exact go hh wish
  · cases f with
    | next => exact let ⟨σ', H', J', q⟩ := hsp; wpAny_execs_nil ⟨σ', H', J'.ofTry ok, q⟩
    | brk => exact let ⟨σ', H', J', q⟩ := hsp; ⟨σ', H', J'.ofTry ok, q⟩
    | cont => exact let ⟨σ', H', J', q⟩ := hsp; ⟨σ', H', J'.ofTry ok, q⟩
    | ret u => exact let ⟨v, σ', H', J', r, q⟩ := hsp; ⟨v, σ', H', J'.ofTry ok, r, q⟩
/-! ### a def that raises such exceptions -/
section
variable {P : Program} {w : World} {K : PySem.W.Frag} {mg : Str → Option Value} {base : Heap}
theorem _root_.L2.Fun.okN {x qual : Str} {st : Stmt} {f : Addr} {fd : FuncData} {N ps : List Str} {k : Nat} {sp : Sp} (F : Fun K x qual st f fd) (S : FnScope N ps (defScope st)) (len : ∀ vs H Q E, sp vs H Q E → vs.length = ps.length)
    (hb : ∀ (cdv : Value) (A : Around) (outer : List Env) (s : Shared) (H : Hp) (vs : List V) (Q : VK) (E : XK), Room k (A.deeper (envOfC qual (defScope st) s.heap.objs.size f cdv)) → sp vs H Q E →
      ∃ t, PSs (cxOf (L2N.CX P w) P w K mg base N qual (defScope st) f cdv A outer s H E) (defBody st) t ∧ t { nx := fun _ H' => Q .non H', rt := Q } (L2.start N vs) H) : FnOk P w K mg base (L2N.CX P w) (k + 1) f fd ps sp := by
  obtain ⟨oc, od, kV, doc, pm, an, cdv, ct, osl, rfl, lk, hcd⟩ := F.ex
  exact fn_of lk hcd S len fun A outer s H vs Q E hr hsp => hb cdv A outer s H vs Q E hr hsp
end
theorem passN {X : Cx} : Passes (L2N.CX X.prog X.w) X E0 := fun _ _ _ _ _ _ _ h => by
  obtain ⟨a, B, H', cls, d, _, _, _, _, _, _, _, q⟩ := h
  exact False.elim q
theorem takes0N {X : Cx} : L2N.Takes X (fun _ _ _ _ => False) := fun _ _ ⟨_, _, _, _, _, _, _, _, _, _, _, _, _, _, _, _, q⟩ => False.elim q
end Vf
set_option Elab.async false
set_option linter.all false
set_option maxRecDepth 100000
set_option maxHeartbeats 4000000
/-! Defs that are called while an exception is handled, and a comprehension over zip in them. -/
namespace Vf
open PySem PySem.Spec PyProof.Rows L2
/-! ### such defs -/
structure FnT (P : Program) (w : World) (K : PySem.W.Frag) (mg : Str → Option Value) (base : Heap) (k : Nat) (f : Addr) (fd : FuncData) (ps : List Str) (sp : Sp) : Prop where
  len : ∀ vs H Q E, sp vs H Q E → vs.length = ps.length
  run : ∀ (A : Around) (outer : List Env) (s : Shared) (H : Hp) (args : Args) (us : List Value) (vs : List V) (Q : VK) (E : XK) (a : Addr), L2H.RoomH k A → A.handled = some (.ref a) → ExHot H a → Env0 P w K mg base A outer s H → BindsTo s fd args (ps.zip us) → Vals vs us → sp vs H Q E →
    codeAny (model P w) A (.call (.ref f) args) (CR CX0 outer P w H s Q E) s
section
variable {P : Program} {w : World} {K : PySem.W.Frag} {mg : Str → Option Value} {base : Heap} {k : Nat} {f : Addr} {fd : FuncData} {ps N : List Str} {sp : Sp}
theorem fn_ofT {name qual : Str} {params : Arguments} {body : List Stmt} {scope : Scope} {dV kV doc pm cdv ct oc : Value} {an od : Option Addr} {osl : Array (Option Value)}
    (lk : K.lookup f = some ⟨oc, od, .func (PySem.W.fnOf name qual params body scope dV kV doc pm an cdv ct), osl⟩) (hcd : PySem.W.codeIn K cdv qual = true) (S : FnScope N ps scope) (len : ∀ vs H Q E, sp vs H Q E → vs.length = ps.length)
    (hbody : ∀ (A : Around) (outer : List Env) (s : Shared) (H : Hp) (vs : List V) (Q : VK) (E : XK) (a : Addr), L2H.RoomH k (A.deeper (envOfC qual scope s.heap.objs.size f cdv)) → (A.deeper (envOfC qual scope s.heap.objs.size f cdv)).handled = some (.ref a) → ExHot H a → sp vs H Q E →
      ∃ t, PSs (cxA P w K mg base N qual scope f cdv A outer s H) body t ∧ t { nx := fun _ H' => Q .non H', rt := Q } (L2.start N vs) H) :
    FnT P w K mg base (k + 1) f (PySem.W.fnOf name qual params body scope dV kV doc pm an cdv ct) ps sp := by
  refine ⟨len, fun A outer s H args us vs Q E a room hot eh e0 hb rv hsp => ?_⟩
  have kx : K.In s.heap := e0.mod.kin.keeps fun b o e => (e0.bs b o e).1
  have nolim : s.heap.NoLimit := e0.mod.nolimit.keeps fun b o e => (e0.bs b o e).1
  refine codeAny_call_function room.depth (kx _ _ lk) rfl S.co S.gen rfl (PySem.W.codeRec_of kx hcd) (hb _ _ _ _ (wpAny_newFunctionEnv_cells S.kind (fun ⟨n, v⟩ hy => ?_) fun env he s1 x => ?_))
  · rcases S.par n (List.of_mem_zip hy).1 with q | q
    · exact .inl q
    · exact .inr ⟨q, PySem.W.cellsFrom_some _ _ _ (.inl q)⟩
  subst he
  refine ⟨nolim.keeps x.toInCall.keep, codeAny_func ?_⟩
  obtain ⟨t, ht, hq⟩ := hbody A outer s H vs Q E a (room.deeper _) hot eh hsp
  have I0 := inv_start (CX := CX0) (E := E0) (A := { A with handled := none }) S rfl (⟨e0.frames, e0.mod, e0.bs, e0.bsz, e0.funs, e0.frf, e0.hok, e0.bare⟩ : Env0 P w K mg base { A with handled := none } outer s H) (len _ _ _ _ hsp) rv x
  have I : Inv (cxA P w K mg base N qual scope f cdv A outer s H) [] (L2.start N vs) H s1 :=
    ⟨⟨I0.ok.mod, I0.ok.kind, I0.ok.glob, I0.ok.blt, I0.ok.above, I0.ok.inj, I0.ok.has, I0.ok.cab, (fun z => nomatch (show false = true from z)), Around.frames_deeper e0.frames, I0.ok.stk, I0.ok.exf, I0.ok.bs, I0.ok.bsz, I0.ok.noex, I0.ok.exfs, I0.ok.funs, I0.ok.frf⟩,
      I0.os, I0.bare, I0.base, I0.loc, I0.cell, I0.free, I0.freeC, I0.pin, I0.hok, I0.len⟩
  refine wpAny_mono (ht.run [] s1 (L2.start N vs) H _ I hq) (fun fl s' hs => ?_) fun e s' z => z.elim
  cases fl with
  | ret u => exact let ⟨v, σ', H', J, r2, q⟩ := hs; (⟨v, H', J.os, J.bare, J.base, J.hok, r2, q⟩ : CE outer P w H s Q u s')
  | next => exact let ⟨σ', H', J, q⟩ := hs; (⟨V.non, H', J.os, J.bare, J.base, J.hok, rfl, q⟩ : CE outer P w H s Q .none s')
  | brk => exact let ⟨_, _, _, q⟩ := hs; False.elim q
  | cont => exact let ⟨_, _, _, q⟩ := hs; False.elim q
theorem funOkT {x qual : Str} {st : Stmt} (F : Fun K x qual st f fd) (S : FnScope N ps (defScope st)) (len : ∀ vs H Q E, sp vs H Q E → vs.length = ps.length)
    (hbody : ∀ (cdv : Value) (A : Around) (outer : List Env) (s : Shared) (H : Hp) (vs : List V) (Q : VK) (E : XK) (a : Addr), L2H.RoomH k (A.deeper (envOfC qual (defScope st) s.heap.objs.size f cdv)) → (A.deeper (envOfC qual (defScope st) s.heap.objs.size f cdv)).handled = some (.ref a) → ExHot H a → sp vs H Q E →
      ∃ t, PSs (cxA P w K mg base N qual (defScope st) f cdv A outer s H) (defBody st) t ∧ t { nx := fun _ H' => Q .non H', rt := Q } (L2.start N vs) H) : FnT P w K mg base (k + 1) f fd ps sp := by
  obtain ⟨oc, od, kV, doc, pm, an, cdv, ct, osl, rfl, lk, hcd⟩ := F.ex
  exact fn_ofT lk hcd S len fun A outer s H vs Q E a => hbody cdv A outer s H vs Q E a
end
structure CalT (P : Program) (w : World) (K : PySem.W.Frag) (mg : Str → Option Value) (base : Heap) (k : Nat) (x : Str) (ps : List Str) (sp : Sp) : Prop where
  ex : ∃ (f : Addr) (fd : FuncData), mg x = some (.ref f) ∧ PySem.W.keepIn K (.ref f) = true ∧ Binds K fd ps [] ∧ FnT P w K mg base k f fd ps sp
def tCalT (a : Addr) (sp : Sp) (t : TA) : TE := fun σ H Q => t σ H fun vs H1 => ExHot H1 a ∧ sp vs H1 Q E0
theorem pe_calT {X : Cx} {a : Addr} {k : Nat} {ps : List Str} {sp : Sp} {x : Str} {p pos : Pos} {e : Expr} {es : List Expr} {t : TA} (c : CalT X.prog X.w X.K X.mg X.base k x ps sp) (hr : L2H.RoomH k X.A) (hh : X.A.handled = some (.ref a)) (hg : Gl X x) (ha : PA X (e :: es) t) (hdb : (x == ("__debug__" : Str)) = false := by decide)
    (he : starEach (e :: es) X.env = (false, eval e X.env) :: starEach es X.env := by rfl) (hpl : (backTo pos (starEach es X.env)).any (·.1) = false := by rfl) : PE X (.Call (.Name x p) (e :: es) [] pos) (tCalT a sp t) := by
  obtain ⟨f, fd, hm, hk, hb, F⟩ := c.ex
  refine ⟨fun pins s σ H Q I h => ?_⟩
  refine wpAny_Call_Name_kw (ld_glob I hg hm (PySem.W.callWith_K (h₀ := X.base) I.ok.mod.kin hk (thn (ha.run pos pins s σ H _ I h) fun us s1 ⟨vs, H1, I1, r, eh, q⟩ => ⟨I1.kIn, ?_⟩) he hpl) hdb)
  have b := hb s1 us I1.kIn (by rw [List.append_nil, ← r.length]; exact F.len _ _ _ _ q)
  rw [List.append_nil] at b
  refine wpAny_call (codeAny_mono (F.run X.A X.stack s1 H1 ⟨us, []⟩ us vs Q E0 a hr hh eh I1.env0 b r q) fun r' s' hq => ?_)
  cases r' with
  | error e => exact False.elim hq
  | ok fl => cases fl with
    | ret u => exact I1.after hq
    | next => exact False.elim hq
    | brk => exact False.elim hq
    | cont => exact False.elim hq
/-! ### a list's iterator comes to its end while an exception is handled -/
section
variable {prog : Program} {w : World} {A : Around} {E : Value → Shared → Prop} {s : Shared}
theorem list_end_hot {it l x1 : Addr} {i : Nat} {items : Array Value} {Q : Value → Shared → Prop} (hot : HotX.HotAt A x1 s.heap) (hx1 : x1 ≠ it) (hit : s.heap.IsListIter it l i) (hl : s.heap.IsList l items) (hx : items[i]? = none)
    (hE : ∀ h' e, Heap.ExtBut it s.heap h' → (∃ o, h'.get? e = some o ∧ o.cls = .type "StopIteration") → E (.ref e) { s with heap := h' }) : wpAny (model prog w) A (Builtin.SmallTypes.nextOf (.ref it)) Q E s := by
  obtain ⟨oi, hoi, hci, hdi⟩ := id hit
  obtain ⟨ol, hol, _, nl, hdl⟩ := hl
  obtain ⟨hh, o1, vs1, h1, d1, c1⟩ := hot
  unfold Builtin.SmallTypes.nextOf
  refine wpAny_bind (wpAny_callSpecial?_slot (name := Str.ofString "__next__") hit.typeIs slot_listiter_next (wpAny_call_entry slot_listiter_next hit.typeIs entry_listiter_next ?_ (args_listiter_next _)))
  show wpAny _ _ (field (.ref it) 0 >>= _) _ _ s
  refine wpAny_bind (wpAny_field hoi hdi (x := .ref l) rfl ?_)
  show wpAny _ _ (if (Value.ref l == Value.none) = true then _ else _) _ _ s
  rw [if_neg (show ¬ ((Value.ref l == Value.none) = true) from Bool.false_ne_true)]
  show wpAny _ _ (field (.ref it) 1 >>= _) _ _ s
  refine wpAny_bind (wpAny_field hoi hdi (x := .int i 0) rfl ?_)
  show wpAny _ _ (seqItems? (.ref l) >>= _) _ _ s
  refine wpAny_bind (wpAny_seqItems hol hdl ?_)
  simp only [Int.toNat_natCast, hx]
  refine wpAny_bind (wpAny_rule (wpAny_bind (wpAny_setField hoi hdi (by simp) ?_)))
  have h1' : (s.heap.update it (Obj.mapFields (·.setIfInBounds 0 .none))).get? x1 = some o1 := (Heap.get?_update_other _ _ hx1.symm).trans h1
  show wpAny _ _ (newExc (.type "StopIteration") [] >>= _) _ _ _
  refine wpAny_bind ?_
  simp only [newExc, newTuple]
  refine wpAny_bind (wpAny_newObj_type ?_ (by size_fits))
  refine wpAny_bind (m := firstArgMember _ _) (wpAny_of_eq (a := Value.none) (by first | rfl | (simp only [firstArgMember]; rfl)) ?_)
  refine wpAny_newObj_type ?_ (by size_fits)
  refine HotX.raiseNew_hot ⟨hh, o1, vs1, Heap.get?_push_of_some _ (Heap.get?_push_of_some _ h1'), d1, c1⟩ (Nat.ne_of_lt (Heap.lt_size (Heap.get?_push_of_some _ h1'))) (Heap.get?_push_size _ rfl) rfl (by first | (simp; done) | (simp; omega) | (simp only [Array.size_append]; simp; omega)) ?_
  refine hE _ _ (fun b o hb e => ?_) ⟨_, Heap.get?_update_self _ (Heap.get?_push_size _ rfl) rfl, rfl⟩
  have e1 : (s.heap.update it (Obj.mapFields (·.setIfInBounds 0 .none))).get? b = some o := (Heap.get?_update_other _ _ (Ne.symm hb)).trans e
  rw [Heap.get?_update_other _ _ (Nat.ne_of_gt (Heap.lt_size (Heap.get?_push_of_some _ e1)))]
  exact Heap.get?_push_of_some _ (Heap.get?_push_of_some _ e1)
end
end Vf
set_option Elab.async false
set_option linter.all false
set_option maxRecDepth 100000
set_option maxHeartbeats 4000000
/-! A comprehension over zip(lists) while an exception is handled. -/
namespace Vf
open PySem PySem.Spec PyProof.Rows L2
structure TurnQ (P : Program) (w : World) (K : PySem.W.Frag) (a : Addr) (tg : Expr) (J : It) (fp : List Addr) (it : Addr) (tn : Nat → Heap → Prop) : Prop where
  mem : it ∈ fp
  obj : ∀ i h, tn i h → ∀ b ∈ fp, ∃ o, h.get? b = some o ∧ ∀ v, o.data ≠ .cell v
  keep : ∀ i h h', tn i h → (∀ b ∈ fp, ∀ o, h.get? b = some o → h'.get? b = some o) → tn i h'
  item : ∀ (X : Cx), X.prog = P → X.w = w → X.K = K → ∀ (i : Nat) (pins : List (Addr × Obj)) (s : Shared) (σ : L2.St) (H : Hp) (E : Value → Shared → Prop), Inv X pins σ H s → (∀ b ∈ fp, FpOk X pins H b) → tn i s.heap → J.go i H →
    wpAny (model P w) X.A (pyNext (.ref it)) (fun r s1 => ∃ u, r = some u ∧
      wpAny (model P w) X.A (letOwnedTupleGo tg (.ref it) u) (fun _ s2 => ∃ x H', Inv X pins σ H' s2 ∧ RelV x u ∧ J.yld i H x H' ∧ tn (i + 1) s2.heap ∧ ∀ b ∈ fp, H' b = none) E s1) E s
  done : ∀ (X : Cx), X.prog = P → X.w = w → X.K = K → X.A.handled = some (.ref a) → ∀ (i : Nat) (pins : List (Addr × Obj)) (s : Shared) (σ : L2.St) (H : Hp) (E : Value → Shared → Prop), Inv X pins σ H s → ExHot H a → (∀ b ∈ fp, FpOk X pins H b) → tn i s.heap → J.stop i H →
    wpAny (model P w) X.A (pyNext (.ref it)) (fun r s1 => r = none ∧ Inv X pins σ H s1) E s
  self : ∀ (A : Around) (i : Nat) (s : Shared) (Q : Value → Shared → Prop) (E : Value → Shared → Prop), tn i s.heap → Q (.ref it) s → wpAny (model P w) A (pyIter (.ref it)) Q E s
theorem turn_zipQ {P : Program} {w : World} {K : PySem.W.Frag} {tg : Expr} {a z TI TO : Addr} {ps : List Pt} (D : ZAp z TI TO ps) (hsz : ps.length ≤ sizeLine) (hne : ps ≠ []) (hb : ∀ p ∈ ps, p.b = true) :
    TurnQ P w K a tg (ItN K (ps.map fun p => (p.b, p.l))) (z :: TI :: TO :: ps.map (·.it)) z
      (fun i h => ∃ g0 g1 ys, ZO h z TI TO g0 g1 ∧ Own0 g0 ∧ TupIs h TI (ps.map fun p => Value.ref p.it).toArray ∧ TupIs h TO ys ∧ ys.size = ps.length ∧ ∀ p ∈ ps, p.At h i) where
  mem := List.mem_cons_self
  obj := (turn_zipN (P := P) (w := w) (K := K) (tg := tg) D hsz hne).obj
  keep := (turn_zipN (P := P) (w := w) (K := K) (tg := tg) D hsz hne).keep
  item := by
    intro X hP hw hK i pins s σ H E I hf st hg
    subst hP hw hK
    obtain ⟨g0, g1, ya, hz, ho, hTI, hTO, hya, hat⟩ := st
    obtain ⟨xss, pr, hi⟩ := hg
    obtain ⟨ys, us, rv, hv, hy⟩ := zip_vals I pr hi
    have hus : ps.length = us.length := Paired.length hv
    have zlt : z < s.heap.objs.size := Heap.lt_size hz
    refine pyNext_zip D hz ho hTI hTO hya hne hsz hat hv fun h1 k0 k1 yb z1 o1 t1 y1 a1 T1 s1 st1 => ⟨_, rfl, go_zip (s := { s with heap := h1 }) z1 fun h2 m0 z2 o2 sb => ?_⟩
    have hT2 : TupIs h2 s.heap.objs.size us.toArray := (sb.2 _ (Nat.ne_of_gt zlt)).trans T1
    have new : ObjOk X.prog X.w (upd H s.heap.objs.size (.tup ys)) h2 s.heap.objs.size (.tup ys) := ⟨by rw [rv.length, ← hus]; exact hsz, us, rv, ⟨_, hT2, rfl, _, rfl⟩⟩
    have up : ∀ c o, c ∉ z :: TI :: TO :: ps.map (·.it) → s.heap.get? c = some o → h2.get? c = some o := fun c o hb e => by
      have hcz : c ≠ z := fun q => hb (by simp [q])
      exact (sb.2 c hcz).trans (st1 c o hcz (fun q => hb (by simp [q])) (fun p hp q => hb (by simp; exact .inr (.inr (.inr ⟨p, hp, q.symm⟩)))) e)
    have I1 : Inv X pins σ (upd H s.heap.objs.size (.tup ys)) { s with heap := h2 } := I.turnedNew (t' := s.toks) (ch := z :: TI :: TO :: ps.map (·.it)) up hf (Nat.le_refl _) new
    refine ⟨.ref s.heap.objs.size, _, I1, rfl, ⟨_, ys, rfl, I.hok.fresh (Nat.le_refl _), rfl, fun yss pr' => ?_⟩, ⟨m0, k1, yb, z2, ?_, ?_, ?_, y1, fun p hp => (a1 p hp).move fun o e => (sb.2 _ (D.i p hp).1).trans e⟩, fun c hcm => ?_⟩
    · obtain rfl : yss = xss := Paired.uniq (G := SqB X.K H) (fun a b b' h h' => sqB_inj I h h') pr' pr
      exact hy
    · rcases o2 with rfl | rfl
      · exact o1
      · exact .inl rfl
    · exact (sb.2 _ D.TIz).trans (st1 _ _ D.TIz D.TITO (fun p hp => (D.i p hp).2.1.symm) hTI)
    · exact (sb.2 _ D.TOz).trans t1
    · have hlt : c < s.heap.objs.size := by
        rcases List.mem_cons.mp hcm with rfl | hcm
        · exact zlt
        rcases List.mem_cons.mp hcm with rfl | hcm
        · exact Heap.lt_size hTI
        rcases List.mem_cons.mp hcm with rfl | hcm
        · exact Heap.lt_size hTO
        obtain ⟨p, hp, rfl⟩ := List.mem_map.mp hcm
        obtain ⟨o, e, _⟩ := hat p hp
        exact Heap.lt_size e
      rw [upd_ne (Nat.ne_of_lt hlt)]
      exact (hf c hcm).1
  done := by
    intro X hP hw hK hh i pins s σ H E I eh hf st hg
    subst hP hw hK
    obtain ⟨g0, g1, ya, hz, ho, hTI, hTO, hya, hat⟩ := st
    obtain ⟨q, r, xs, e, hq, hl⟩ := hg
    have hota := eh.at I hh
    have nofp : ∀ c ∈ z :: TI :: TO :: ps.map (·.it), a ≠ c := fun c hc y => by
      obtain ⟨φ, e1, _⟩ := id eh
      have := (hf c hc).1
      rw [← y, e1] at this
      cases this
    cases ps with
    | nil => exact absurd rfl hne
    | cons p ps =>
      obtain ⟨rfl, rfl⟩ := List.cons.inj e
      obtain ⟨vs, rv, hs⟩ := sqB_src (n := p.it) I hq
      have hx : vs[i]? = none := List.getElem?_eq_none (by rw [← rv.length]; exact hl)
      have hx' : vs.toArray[i]? = none := by simpa using hx
      refine pyNext_zipEnd D hz ho hTI hTO (hat p List.mem_cons_self) hs (fun s2 Q2 E2 sl at2 sc2 h => ?_) fun h' st' => ⟨rfl, I.turnedL (t' := s.toks) (ch := z :: TI :: TO :: (p :: ps).map (·.it)) (fun c o hb q => ?_) hf⟩
      · obtain ⟨_, o1, vs1, g1', g2', g3'⟩ := hota
        have nit : ∀ p' ∈ p :: ps, a ≠ p'.it := fun p' hp' => nofp _ (List.mem_cons_of_mem _ (List.mem_cons_of_mem _ (List.mem_cons_of_mem _ (List.mem_map_of_mem hp'))))
        have hot2 : HotX.HotAt X.A.in1 a s2.heap := ⟨hh, o1, vs1, sl a o1 (nofp z (by simp)) (nofp TO (by simp)) nit g1', g2', g3'⟩
        have pb := hb p List.mem_cons_self
        obtain ⟨pb0, pit, pl⟩ := p
        obtain rfl : pb0 = true := pb
        exact list_end_hot hot2 (nofp pit (by simp)) at2 sc2 hx' h
      · exact st' c o (fun y => hb (by simp [y])) (fun y => hb (by simp [y])) (fun p' hp y => hb (List.mem_cons_of_mem _ (List.mem_cons_of_mem _ (List.mem_cons_of_mem _ (y ▸ List.mem_map_of_mem hp))))) q
  self := fun A i s Q E st h => let ⟨_, _, _, hz, _⟩ := st; iter_zip hz h
/-! ### what is walked -/
def PIEQ (X : Cx) (a : Addr) (pins : List (Addr × Obj)) (σ : L2.St) (tg : Expr) (R : It → Hp → Prop) (itv : Value) (s2 : Shared) : Prop :=
  ∃ (it : Addr) (fp : List Addr) (tn : Nat → Heap → Prop) (J : It) (H' : Hp), itv = .ref it ∧ Inv X pins σ H' s2 ∧ TurnQ X.prog X.w X.K a tg J fp it tn ∧ tn 0 s2.heap ∧ (∀ b ∈ fp, FpOk X pins H' b) ∧ R J H'
structure PIQ (X : Cx) (a : Addr) (tg iter : Expr) (wi : TI) : Prop where
  run : ∀ (pins : List (Addr × Obj)) (s : Shared) (σ : L2.St) (H : Hp) (R : It → Hp → Prop), Inv X pins σ H s → wi σ H R →
    wpAny (model X.prog X.w) X.A (eval iter X.env) (fun v s1 => wpAny (model X.prog X.w) X.A (pyIter v) (PIEQ X a pins σ tg R) X.xe s1) X.xe s
theorem zip_madeQ {X : Cx} {a : Addr} {tg : Expr} {pins : List (Addr × Obj)} {σ : L2.St} {H : Hp} {s : Shared} {R : It → Hp → Prop} {ls : List (Bool × Addr)} (I : Inv X pins σ H s) (h : ZipR X.K ls H) (hb : ∀ q ∈ ls, q.1 = true) (q : R (ItN X.K ls) H) :
    wpAny (model X.prog X.w) X.A (call (.type "zip") (ls.map fun q => Value.ref q.2)) (fun v s1 => wpAny (model X.prog X.w) X.A (pyIter v) (PIEQ X a pins σ tg R) X.xe s1) X.xe s := by
  obtain ⟨h1, h2, h3⟩ := h
  have src : ∀ q ∈ ls, SrcB s.heap q := fun q hq => by
    obtain ⟨xs, hx⟩ := h3 q hq
    obtain ⟨us, _, hs⟩ := sqB_src (n := 0) I hx
    exact ⟨us, hs⟩
  have low : ∀ q ∈ ls, q.2 < s.heap.objs.size := fun q hq => by
    obtain ⟨us, o, e, _⟩ := src q hq
    exact Heap.lt_size e
  have ne : ptsFrom s.heap.objs.size ls ≠ [] := fun z => h1 (by
    have := ptsFrom_length s.heap.objs.size ls
    rw [z] at this
    exact List.length_eq_zero_iff.mp this.symm)
  refine call_zip src h1 h2 fun h' N => iter_zip N.zo ?_
  have I2 : Inv X pins σ H { s with heap := h' } := I.kept (t' := s.toks) N.keep
  have T := turn_zipQ (P := X.prog) (w := X.w) (K := X.K) (a := a) (tg := tg) (zap_new low) (by rw [ptsFrom_length]; exact Nat.le_trans h2 (by decide)) ne fun p hp => hb _ (ptsFrom_mem hp).2.2
  rw [ptsFrom_src] at T
  refine ⟨_, _, _, _, H, rfl, I2, T, ⟨.none, false, _, N.zo, .inl rfl, N.ti, N.to, by rw [List.size_toArray, List.length_replicate, ptsFrom_length], N.at_⟩, fun b hb => ?_, q⟩
  have hle : @LE.le Nat _ s.heap.objs.size b := by
    rcases List.mem_cons.mp hb with rfl | hb
    · show s.heap.objs.size ≤ s.heap.objs.size + ls.length + 2
      omega
    rcases List.mem_cons.mp hb with rfl | hb
    · show s.heap.objs.size ≤ s.heap.objs.size + ls.length
      omega
    rcases List.mem_cons.mp hb with rfl | hb
    · show s.heap.objs.size ≤ s.heap.objs.size + ls.length + 1
      omega
    obtain ⟨p, hp, rfl⟩ := List.mem_map.mp hb
    exact (ptsFrom_mem hp).1
  exact I.fpOk hle (I.hok.fresh hle)
def iZipQ (K : PySem.W.Frag) (ta : TA) : TI := fun σ H R => ta σ H fun vs H1 => ∃ ls : List Addr, vs = ls.map V.ref ∧ ls ≠ [] ∧ ls.length ≤ 6 ∧ (∀ q ∈ ls, ∃ xs, SqL K H1 q xs) ∧ R (ItN K (ls.map fun q => (true, q))) H1
theorem pi_zipQ {X : Cx} {a : Addr} {tg e : Expr} {es : List Expr} {ta : TA} {p pos : Pos} (hg : Gl X "zip") (hm : X.mg "zip" = none) (ha : PA X (e :: es) ta) (hs : starEach (e :: es) X.env = (false, eval e X.env) :: starEach es X.env := by rfl) (hpl : (backTo pos (starEach es X.env)).any (·.1) = false := by rfl) :
    PIQ X a tg (.Call (.Name "zip" p) (e :: es) [] pos) (iZipQ X.K ta) := by
  refine ⟨fun pins s σ H R I h => ?_⟩
  refine Call_ (ld_blt I hg hm PyProof.Rows.boot_zip (PyProof.Rows.callWith_type1 (thn (ha.run pos pins s σ H _ I h) fun us s1 ⟨vs, H1, I1, r1, ls, ev, hne, h6, hx, q⟩ => ?_) hs hpl))
  subst ev
  have r2 : Vals ((ls.map fun q => (true, q)).map fun q : Bool × Addr => V.ref q.2) us := by rw [List.map_map]; exact r1
  rw [refs_of r2]
  refine zip_madeQ I1 ⟨by simpa using hne, by rw [List.length_map]; exact h6, fun q hq => ?_⟩ (fun q hq => ?_) q
  · obtain ⟨l, hl, rfl⟩ := List.mem_map.mp hq
    exact hx l hl
  · obtain ⟨l, hl, rfl⟩ := List.mem_map.mp hq
    rfl
/-! ### the comprehension -/
def tLcQ (a : Addr) (wi : TI) (g : TG) (tt : TT) (te : TE) (vs : List Nat) : TE := fun σ H Q => wi σ H fun J H1 => ∀ D, H1 D = none → ∃ W : Nat → Nat → Hp → Prop, (∃ m, W 0 m (upd H1 D (.lst []))) ∧ ∀ i m H, W i m H →
  (J.stop i H ∧ ExHot H a ∧ Q (.ref D) H) ∨ (J.go i H ∧ ∃ Nx : Hp → Prop, (∀ H', Nx H' → ∃ m', m' < m ∧ W (i + 1) m' H') ∧ ∀ x H', J.yld i H x H' → g x (wipe σ vs) H' fun σ2 H2 => wipe σ2 vs = wipe σ vs ∧ tt σ2 H2 fun b H3 =>
    if b = true then te σ2 H3 fun y H4 => ∃ acc, H4 D = some (.lst acc) ∧ acc.length < sizeLine ∧ Nx (upd H4 D (.lst (acc ++ [y]))) else Nx H3)
section
variable {X : Cx}
theorem lc_coreQ {a : Addr} {pins : List (Addr × Obj)} {s : Shared} {σ : L2.St} {H : Hp} {Q : VK} {elt tg iter : Expr} {ifs : List Expr} {scope : Scope} {own : List (Str × Nat)} {pos pos' : Pos} {wi : TI} {g : TG} {tt : TT} {te : TE} {use : Option (Value → Sem Unit)} {Qf : Value → Shared → Prop}
    (hh : X.A.handled = some (.ref a)) (nN : X.N.Nodup) (I : Inv X pins σ H s) (hi : PIQ X a tg iter wi) (ok : BlkOk X.N X.env.scope scope own)
    (hg : ∀ (s : Shared) (H : Hp) (C : Addr) (cl : List (Str × Addr)) (fp : List Addr), PG (X.blk s H scope (compEnvC scope cl C X.env) fp) tg g) (ht : ∀ (s : Shared) (H : Hp) (C : Addr) (cl : List (Str × Addr)) (fp : List Addr), PTs (X.blk s H scope (compEnvC scope cl C X.env) fp) ifs tt)
    (he : ∀ (s : Shared) (H : Hp) (C : Addr) (cl : List (Str × Addr)) (fp : List Addr), PE (X.blk s H scope (compEnvC scope cl C X.env) fp) elt te) (fs : ∀ x, foldedSetIterable iter X.env x = pure x)
    (rd : tLcQ a wi g tt te (own.map (·.2)) σ H Q)
    (hRR : ∀ D C s' m H', Inv X pins σ H' s' → Q (.ref D) H' → s'.heap.Ns C m → FpOk X pins H' C → compPost (model X.prog X.w) X.A X.xe use Qf (.ref D) C (.ok .next) s') :
    wpAny (model X.prog X.w) X.A (comprehension (.ListComp elt [⟨tg, iter, ifs, 0⟩] scope pos) scope X.env pos' (newList []) false (eval iter X.env) use) Qf X.xe s := by
  have fr : ∀ y ∈ scope.names, y.2 = .free → ∃ c, X.env.cells.lookup y.1 = some c := fun y hy e => (ok.free y hy e).elim (fun k => I.ok.has _ (.inl k)) fun k => I.ok.has _ (.inr k)
  refine wpAny_comprehension_free (use := use) rfl fs (closure_ok fr) ok.kind (fun y hy e => by rw [ok.uniq y hy, e]) (thn (hi.run pins s σ H _ I rd) fun xv s1 hx => thn hx fun itv s2 h2 => ?_)
  obtain ⟨it, fp, tn, J, H2, e, I2, T, st2, f2, q⟩ := h2
  subst e
  refine wpAny_newObj_type (newEnv_comp ?_) (show 0 ≤ sizeLine by decide)
  generalize eD : s2.heap.objs.size = D
  have nD : H2 D = none := I2.hok.fresh (Nat.le_of_eq eD)
  obtain ⟨W, ⟨m0, w0⟩, turn⟩ := q D nD
  generalize e3 : ({ s2 with heap := s2.heap.push { cls := .type "list", data := .seq ([] : List Value).toArray } } : Shared) = s3
  have I3 : Inv X pins σ (upd H2 D (.lst [])) s3 := by
    rw [← e3]
    refine I2.laid (t' := s2.toks) (fun b o e => Heap.get?_push_of_some _ e) (Nat.le_of_eq eD) ⟨Nat.zero_le _, [], 0, .nil, ?_⟩
    rw [← eD]; exact Heap.get?_push_size _ rfl
  have g3 : s3.heap = s2.heap.push { cls := .type "list", data := .seq ([] : List Value).toArray } := by rw [← e3]
  have low : ∀ b ∈ fp, b < s2.heap.objs.size := fun b hb => let ⟨o, e, _⟩ := T.obj _ _ st2 b hb; Heap.lt_size e
  have f3 : ∀ b ∈ fp, FpOk X pins (upd H2 D (.lst [])) b ∧ b < s3.heap.objs.size := fun b hb => by
    have hlt := low b hb
    refine ⟨⟨?_, (f2 b hb).2⟩, by rw [g3, Heap.size_push]; exact Nat.lt_succ_of_lt hlt⟩
    rw [upd_ne (by rw [← eD]; exact Nat.ne_of_lt hlt)]; exact (f2 b hb).1
  have st3 : tn 0 s3.heap := T.keep _ _ _ st2 fun b _ o e => by rw [g3]; exact Heap.get?_push_of_some _ e
  have I4 := block_start I3 ok nN f3
  have pg := hg s3 (upd H2 D (.lst [])) s3.heap.objs.size (cellsFrom (s3.heap.objs.size + 1) scope.names (cloFrom X.env.cells scope.names [])) fp
  have pt := ht s3 (upd H2 D (.lst [])) s3.heap.objs.size (cellsFrom (s3.heap.objs.size + 1) scope.names (cloFrom X.env.cells scope.names [])) fp
  have pe := he s3 (upd H2 D (.lst [])) s3.heap.objs.size (cellsFrom (s3.heap.objs.size + 1) scope.names (cloFrom X.env.cells scope.names [])) fp
  show codeAny _ _ (.compStart (.ListComp elt [⟨tg, iter, ifs, 0⟩] scope pos) 0 (.ref it) (.ref D) (compEnvC scope (cellsFrom (s3.heap.objs.size + 1) scope.names (cloFrom X.env.cells scope.names [])) s3.heap.objs.size X.env)) (compPost (model X.prog X.w) X.A X.xe use Qf (.ref D) s3.heap.objs.size) { s3 with heap := pushCells (s3.heap.push { cls := .type "dict", data := .dict #[] }) scope.names }
  have nfp : ∀ b ∈ fp, (upd H2 D (.lst [])) b = none := fun b hb => (f3 b hb).1.1
  generalize ece : compEnvC scope (cellsFrom (s3.heap.objs.size + 1) scope.names (cloFrom X.env.cells scope.names [])) s3.heap.objs.size X.env = ce at I4 pg pt pe ⊢
  have cL : ce.locals = s3.heap.objs.size := by subst ece; rfl
  generalize eH3 : upd H2 D (.lst []) = H3 at I3 I4 pg pt pe w0 nfp f3
  generalize e4 : ({ s3 with heap := pushCells (s3.heap.push { cls := .type "dict", data := .dict #[] }) scope.names } : Shared) = s4 at I4 ⊢
  have st4 : tn 0 s4.heap := T.keep _ _ _ st3 fun b _ o e => by rw [← e4]; exact pushCells_keeps _ _ _ _ (Heap.get?_push_of_some _ e)
  have stat : ∀ {σ' : L2.St} {H' : Hp} {s' : Shared}, Inv (X.blk s3 H3 scope ce fp) [] σ' H' s' → (∀ b ∈ fp, H' b = none) → ∀ b ∈ fp, FpOk (X.blk s3 H3 scope ce fp) [] H' b := fun {σ' H' s'} I' hn b hb =>
    ⟨hn b hb, (I'.ok.exf b hb).1, I'.ok.exfs b hb, .inl hb, fun x c e => (I'.ok.exf b hb).2 x c e, fun p hp => absurd (show p ∈ ([] : List (Addr × Obj)) ++ [] from hp) (by simp)⟩
  have loop : codeAny (model X.prog X.w) X.A (.compLoop (.ListComp elt [⟨tg, iter, ifs, 0⟩] scope pos) 0 (.ref it) (.ref D) ce) (compPost (model X.prog X.w) X.A X.xe use Qf (.ref D) s3.heap.objs.size) s4 := by
    refine compLoop_any (fun n s' => ∃ i H', Inv (X.blk s3 H3 scope ce fp) [] (wipe σ (own.map (·.2))) H' s' ∧ tn i s'.heap ∧ (∀ b ∈ fp, H' b = none) ∧ W i n H') ?_ m0 ⟨0, H3, I4, st4, nfp, w0⟩
    rintro n s5 ⟨i, H5, I5, st5, n5, w5⟩
    rcases turn i n H5 w5 with ⟨stop, hot, qq⟩ | ⟨go, Nx, hNx, step⟩
    · have td := T.done (X.blk s3 H3 scope ce fp) rfl rfl rfl hh i [] s5 _ H5 (fun _ _ => False) I5 hot (stat I5 n5) st5 stop
      refine thnF td fun r s6 ⟨er, I6⟩ => ?_
      subst er
      have I7 : Inv X pins σ H5 s6 := I3.call' (ch := fp) I6.os I6.base I6.hok I6.bare fun b hb => ⟨(f3 b hb).1.2.2.2.1, (f3 b hb).1.2.1, (f3 b hb).1.2.2.2.2.1, (f3 b hb).1.2.2.2.2.2⟩
      have nC : H5 s3.heap.objs.size = none := cL ▸ (show H5 ce.locals = none from I6.free)
      obtain ⟨m, hn, _⟩ := I6.loc
      have hn : s6.heap.Ns ce.locals m := hn
      rw [cL] at hn
      exact hRR D s3.heap.objs.size s6 m H5 I7 qq hn (I3.fpOk (Nat.le_refl _) nC)
    · have ti := T.item (X.blk s3 H3 scope ce fp) rfl rfl rfl i [] s5 _ H5 (fun _ _ => False) I5 (stat I5 n5) st5 go
      refine thnF ti fun r s6 ⟨u, er, h6⟩ => ?_
      subst er
      refine thnF h6 fun _ s7 ⟨x, H7, I7, r7, y7, st7, n7⟩ => ?_
      have J7 := I7.pinned (stat I7 n7) (T.obj _ _ st7)
      refine thnF (pg.run _ s7 _ H7 x u _ J7 r7 (step x H7 y7)) fun _ s8 ⟨σ8, H8, I8, hw8, q8⟩ => ?_
      refine thnF (pt.run _ s8 σ8 H8 _ I8 q8) fun b s9 ⟨H9, I9, q9⟩ => ?_
      have fin : ∀ {s' : Shared} {H' : Hp}, Inv (X.blk s3 H3 scope ce fp) ([] ++ pinsAt fp s7.heap) σ8 H' s' → Nx H' → ∃ m, m < n ∧ ∃ i H', Inv (X.blk s3 H3 scope ce fp) [] (wipe σ (own.map (·.2))) H' s' ∧ tn i s'.heap ∧ (∀ b ∈ fp, H' b = none) ∧ W i m H' := fun {s' H'} I' nx => by
        obtain ⟨m', hm, w'⟩ := hNx H' nx
        have pin' : ∀ b ∈ fp, ∀ o, s7.heap.get? b = some o → s'.heap.get? b = some o ∧ H' b = none := fun b hb o e => let z := I'.pin (b, o) (List.mem_append_right _ (List.mem_append_right _ (mem_pinsAt hb e))); ⟨z.1, z.2.1⟩
        have hl : (wipe σ (own.map (·.2))).length = σ8.length := by rw [← hw8, wipe_length]
        refine ⟨m', hm, i + 1, H', (I'.unpinned (pins := [])).weak hl (fun j v e => ?_), T.keep _ _ _ st7 fun b hb o e => (pin' b hb o e).1, fun b hb => ?_, w'⟩
        · rw [← hw8] at e; exact (wipe_some e).1
        · obtain ⟨o, e, _⟩ := T.obj _ _ st7 b hb; exact (pin' b hb o e).2
      cases b with
      | false =>
        simp only [Bool.false_eq_true, if_false] at q9 ⊢
        exact fin I9 q9
      | true =>
        simp only [if_true] at q9 ⊢
        refine thnF (pe.run _ s9 σ8 H9 _ I9 q9) fun z s10 ⟨yv, H10, I10, r10, acc, hD10, hz10, nx⟩ => ?_
        exact app_ok (X := X.blk s3 H3 scope ce fp) I10 hD10 hz10 r10 fun s11 I11 => fin I11 nx
  exact codeAny_compStart_list loop (T.self X.A 0 _ _ _ st4 loop)
/-- name = [..] on one line, the name a local -/
theorem ps_setLcQ {a : Addr} {i : Nat} {y : Str} {py : Pos} {elt tg iter : Expr} {ifs : List Expr} {scope : Scope} {own : List (Str × Nat)} {pos spos : Pos} {wi : TI} {g : TG} {tt : TT} {te : TE} (hh : X.A.handled = some (.ref a)) (nN : X.N.Nodup) (hy : X.N[i]? = some y) (hyl : X.env.scope.names.lookup y = some .local)
    (hsw : swapsWith (.ListComp elt [⟨tg, iter, ifs, 0⟩] scope pos) (some (.Name y py)) spos.line X.env = pure true) (hi : PIQ X a tg iter wi) (ok : BlkOk X.N X.env.scope scope own)
    (hg : ∀ (s : Shared) (H : Hp) (C : Addr) (cl : List (Str × Addr)) (fp : List Addr), PG (X.blk s H scope (compEnvC scope cl C X.env) fp) tg g) (ht : ∀ (s : Shared) (H : Hp) (C : Addr) (cl : List (Str × Addr)) (fp : List Addr), PTs (X.blk s H scope (compEnvC scope cl C X.env) fp) ifs tt)
    (he : ∀ (s : Shared) (H : Hp) (C : Addr) (cl : List (Str × Addr)) (fp : List Addr), PE (X.blk s H scope (compEnvC scope cl C X.env) fp) elt te) (fs : ∀ x, foldedSetIterable iter X.env x = pure x := by intro _; rfl) :
    PS X (.Assign [.Name y py] (.ListComp elt [⟨tg, iter, ifs, 0⟩] scope pos) spos) (tAsg (tLcQ a wi g tt te (own.map (·.2))) (gName i)) := by
  refine ⟨fun pins s σ H D I h => ?_⟩
  rw [exec_Assign_Name_used _ _ _ _ hsw]
  refine wpAny_bind (wpAny_standAt (wpAny_bind ?_))
  show wpAny _ X.A (do let _ ← comprehension (.ListComp elt [⟨tg, iter, ifs, 0⟩] scope pos) scope X.env (firstIterPos [⟨tg, iter, ifs, 0⟩] pos) (newList []) false (eval iter X.env) (some (assign (.Name y py) X.env))) _ _ s
  have rd : tLcQ a wi g tt te (own.map (·.2)) σ H (fun x H1 => gName i x σ H1 D.nx) := h
  refine wpAny_bind (thn (lc_coreQ (Qf := fun _ s' => SP X pins D .next s') hh nN I hi ok hg ht he fs rd fun L C s' m H' I' q hn f => ?_) fun _ s' hq => wpAny_pure (wpAny_pure hq))
  show wpAny _ _ (assign (.Name y py) X.env (.ref L)) _ _ _
  refine wpAny_assign_Name (store_ok2 (v := V.ref L) I' nN hy (.inl hyl) rfl (fun s2 I2 ⟨c, sb, hc⟩ => ?_) (.inr hyl))
  obtain ⟨f0, f1, f2, f3, f4, f5⟩ := f
  have haC : C ≠ c := hc.elim (fun z => by rw [z]; exact f1) fun z e => f4 y c z e.symm
  refine ⟨m, hn.sameBut sb haC, fun h3 sb3 => ?_⟩
  exact ⟨_, H', I2.turned (t' := s2.toks) (fun b o hb e => (sb3.2 b hb).trans e) f0 f1 f3 f4 f5, q⟩
end
theorem lc_zipQ {a : Addr} {K : PySem.W.Frag} {ls : List (Bool × Addr)} {xss : List (List V)} {n : Nat} {g : TG} {tt : TT} {te : TE} {vs : List Nat} {σ : L2.St} {H1 : Hp} {D : Addr} {Qd : Hp → Prop} (hn : ∀ xs ∈ xss, xs.length = n) (hls : ls ≠ []) (Pv : Nat → Hp → Prop) (h0 : Pv 0 (upd H1 D (.lst []))) (hq : ∀ i H, i ≤ n → Pv i H → Paired (SqB K H) ls xss)
    (hs : ∀ i T ys H, i < n → Paired (fun (xs : List V) y => xs[i]? = some y) xss ys → Pv i H → H T = none → g (.ref T) (wipe σ vs) (upd H T (.tup ys)) fun σ2 H2 => wipe σ2 vs = wipe σ vs ∧ tt σ2 H2 fun b H3 =>
      if b = true then te σ2 H3 fun y H4 => ∃ acc, H4 D = some (.lst acc) ∧ acc.length < sizeLine ∧ Pv (i + 1) (upd H4 D (.lst (acc ++ [y]))) else Pv (i + 1) H3) (hd : ∀ H, Pv n H → ExHot H a ∧ Qd H) :
    ∃ W : Nat → Nat → Hp → Prop, (∃ m, W 0 m (upd H1 D (.lst []))) ∧ ∀ i m H, W i m H →
      ((ItN K ls).stop i H ∧ ExHot H a ∧ Qd H) ∨ ((ItN K ls).go i H ∧ ∃ Nx : Hp → Prop, (∀ H', Nx H' → ∃ m', m' < m ∧ W (i + 1) m' H') ∧ ∀ x H', (ItN K ls).yld i H x H' → g x (wipe σ vs) H' fun σ2 H2 => wipe σ2 vs = wipe σ vs ∧ tt σ2 H2 fun b H3 =>
        if b = true then te σ2 H3 fun y H4 => ∃ acc, H4 D = some (.lst acc) ∧ acc.length < sizeLine ∧ Nx (upd H4 D (.lst (acc ++ [y]))) else Nx H3) := lc_zipN (Qd := fun H => ExHot H a ∧ Qd H) hn hls Pv h0 hq hs hd
end Vf
set_option Elab.async false
set_option linter.all false
set_option maxRecDepth 100000
set_option maxHeartbeats 4000000
/-! repr of any data, dicts too; the end that tells sys.modules -/
namespace Vf
open PySem PySem.Spec PyProof.Rows L2
def keyPy : Key → PyData
  | .inl i => .int i
  | .inr x => .str x
mutual
def Dt.py : Dt → PyData
  | .non => .none
  | .bl b => .bool b
  | .int i => .int i
  | .str x => .str x
  | .lst l => .list (Dt.pyL l)
  | .tup l => .tuple (Dt.pyL l)
  | .dct l => .dict (Dt.pyD l)
def Dt.pyL : List Dt → List PyData
  | [] => []
  | d :: r => d.py :: Dt.pyL r
def Dt.pyD : List (Key × Dt) → List (PyData × PyData)
  | [] => []
  | (k, d) :: r => (keyPy k, d.py) :: Dt.pyD r
end
/-- where sys.modules stands there is a dict -/
def SysD (base : Heap) : Prop := ∃ (o : Obj) (es : Array DictEntry) (ep : Nat), base.get? sysModules = some o ∧ o.data = .dict es ep
section
variable {X : Cx} {pins : List (Addr × Obj)} {σ : L2.St} {H : Hp} {s : Shared}
theorem no_sys (I : Inv X pins σ H s) (hsd : SysD X.base) {a : Addr} {o : Obj} {vs : Array Value} {n : Nat} (e : s.heap.get? a = some o) (d : o.data = .seq vs n) : sysModules ≠ a := fun z => by
  obtain ⟨o', es, ep, e', d'⟩ := hsd
  have q := I.bk _ _ e'
  rw [z, e] at q
  cases q
  rw [d] at d'
  cases d'
theorem key_reads {h : Heap} {k : Key} {v : Value} (q : keyIs k v = true) : Reads h v (keyPy k) [] := by
  rcases keyIs_shape q with ⟨i, t, rfl, rfl⟩ | ⟨x, t, rfl, rfl⟩
  · exact .int i t
  · exact .str x t
theorem keys_read {h : Heap} {P : Program} {w : World} {es : List DictEntry} {vs : List (Key × Value)} {ds : List (Key × Dt)} (p : Pairs (mixKind P w) es vs) : vs.map (·.1) = ds.map (·.1) → ReadsAll h (es.map (·.key)) ((Dt.pyD ds).map (·.1)) [] := by
  induction p generalizing ds with
  | nil =>
    intro e
    cases ds with
    | nil => exact .nil
    | cons d ds => cases e
  | cons h1 h2 r ih =>
    intro e
    cases ds with
    | nil => cases e
    | cons kd ds =>
      obtain ⟨k, d⟩ := kd
      rw [List.map_cons, List.map_cons] at e
      obtain ⟨e1, e2⟩ := List.cons.inj e
      have q := (show keyIs _ _ = true from h1)
      rw [show _ = k from e1] at q
      exact .cons (as := []) (bs := []) (key_reads q) (ih e2)
mutual
theorem Rp.reads (I : Inv X pins σ H s) (hsd : SysD X.base) : ∀ {v : V} {d : Dt} (u : Value), Rp X.K H v d → RelV v u → ∃ as, Reads s.heap u d.py as ∧ sysModules ∉ as
  | _, _, _, .non, r => by cases r; exact ⟨_, .none, by simp⟩
  | _, _, _, .bl b, r => by cases r; exact ⟨_, .bool b, by simp⟩
  | _, _, _, .int i, r => by obtain ⟨t, rfl⟩ := r; exact ⟨_, .int i t, by simp⟩
  | _, _, _, .str x, r => by obtain ⟨t, rfl⟩ := r; exact ⟨_, .str x t, by simp⟩
  | _, _, _, .lst hs ha, r => by
    cases r
    obtain ⟨its, rv, ⟨o, n, ho, hc, _, hd⟩, _⟩ := I.list hs
    obtain ⟨as, hr, hn⟩ := RpL.reads I hsd its ha rv
    exact ⟨_, .list ho hc hd hr, by
      intro z
      rcases List.mem_cons.mp z with z | z
      · exact no_sys I hsd ho hd z
      · exact hn z⟩
  | _, _, _, .tup hs ha, r => by
    cases r
    obtain ⟨its, rv, ⟨o, ho, hc, n, hd⟩, _⟩ := I.tuple hs
    obtain ⟨as, hr, hn⟩ := RpL.reads I hsd its ha rv
    exact ⟨_, .tuple ho hc hd hr, hn⟩
  | _, _, _, .dct (a := a) (kvs := kvs) (ds := ds) hs ha, r => by
    cases r
    obtain ⟨hz, hS, vs, kv, o, es, ep, ho, hx, hd, _, pr, _⟩ := I.hok a _ hs
    obtain ⟨bs, hr, hn, hk⟩ := RpD.reads I hsd ha kv pr
    exact ⟨_, .dict ho hx.1 hd (keys_read pr hk) hr, by
      intro z
      rcases List.mem_append.mp z with z | z
      · rcases List.mem_cons.mp z with z | z
        · rw [← z] at hS; simp at hS
        · cases z
      · exact hn z⟩
theorem RpL.reads (I : Inv X pins σ H s) (hsd : SysD X.base) : ∀ {vs : List V} {ds : List Dt} (us : List Value), RpL X.K H vs ds → Vals vs us → ∃ as, ReadsAll s.heap us (Dt.pyL ds) as ∧ sysModules ∉ as
  | _, _, _, .nil, r => by cases r; exact ⟨_, .nil, by simp⟩
  | _, _, _, .cons h1 h2, r => by
    cases r with
    | cons r1 r2 =>
      obtain ⟨as, q1, n1⟩ := Rp.reads I hsd _ h1 r1
      obtain ⟨bs, q2, n2⟩ := RpL.reads I hsd _ h2 r2
      exact ⟨_, .cons q1 q2, fun z => (List.mem_append.mp z).elim n1 n2⟩
theorem RpD.reads (I : Inv X pins σ H s) (hsd : SysD X.base) : ∀ {kvs : List (Key × V)} {ds : List (Key × Dt)} {vs : List (Key × Value)} {es : List DictEntry}, RpD X.K H kvs ds → KV kvs vs → Pairs (mixKind X.prog X.w) es vs → ∃ as, ReadsAll s.heap (es.map (·.val)) ((Dt.pyD ds).map (·.2)) as ∧ sysModules ∉ as ∧ vs.map (·.1) = ds.map (·.1)
  | _, _, _, _, .nil, kv, pr => by
    cases kv
    cases pr
    exact ⟨_, .nil, by simp, rfl⟩
  | _, _, _, _, .cons h1 h2, kv, pr => by
    cases kv with
    | cons k1 k2 =>
      cases pr with
      | cons p1 p2 p3 =>
        obtain ⟨as, q1, n1⟩ := Rp.reads I hsd _ h1 k1.2
        obtain ⟨bs, q2, n2, e⟩ := RpD.reads I hsd h2 k2 p3
        rw [← p2] at q1
        exact ⟨_, .cons q1 q2, fun z => (List.mem_append.mp z).elim n1 n2, by rw [List.map_cons, List.map_cons, e, ← k1.1]⟩
end
end
/-! ### repr -/
def rReprA (K : PySem.W.Frag) : List V → Hp → VK → Prop := fun xs H Q => ∃ (p : Addr) (d : Dt), xs = [.ref p] ∧ Rp K H (.ref p) d ∧ d.py.showable = true ∧ d.py.depth ≤ 60 ∧ d.py.shown.length ≤ sizeLine ∧ Q (.str d.py.shown) H
theorem reprAK {X : Cx} {K : PySem.W.Frag} (hK : X.K = K) (hsd : SysD X.base) (hg : X.A.guards = some []) (hu : X.A.units + 64 < cLine) : CallR X (.builtin "repr") (rReprA K) := by
  subst hK
  intro pins s σ H xs us Q I r h
  obtain ⟨p, d, rfl, D, h1, h2, h3, q⟩ := h
  obtain ⟨u, rfl, ru⟩ := vals1 r
  obtain ⟨as, R, hn⟩ := Rp.reads I hsd u D ru
  cases ru
  exact repr_of_reads' R h1 (fun _ => hn) hg (by omega) (fun b o e => e) (fun h' u tk k => ⟨.str _, H, I.kept (t' := tk) k, ⟨_, rfl⟩, q⟩) h3
/-! ### the end for such a law -/
theorem law_callS {P : Program} {w : World} {K : PySem.W.Frag} {mg mb : Str → Option Value} {k : Nat} {fa a : Addr} {fd : FuncData} {x : Str} {sp : Sp} {s₁ : Shared} {vs : List Value} {ns : List Int}
    (KX : K.In s₁.heap) (hns : s₁.heap.Ns mainGlobals mg) (hb : s₁.heap.Ns builtinsNs mb) (hbb : ∀ x : Str, x ≠ "__name__" → mb x = bootBuiltins x) (hlim : s₁.heap.NoLimit) (hmods : ∃ mm, s₁.heap.Ns sysModules mm) (hg : s₁.gens = #[])
    (ha : s₁.heap.get? a = some { cls := .type "list", data := .seq vs.toArray }) (hi : IntsAre vs ns) (hl : ns.length ≤ sizeLine) (hr : RoomG k callerA)
    (F : ∀ base : Heap, K.In base → base.Ns mainGlobals mg → SysD base → FnG P w K mg base k fa fd [x] sp) (hbind : ∀ (s : Shared) (u : Value), BindsTo s fd ⟨[u], []⟩ [(x, u)])
    (hsp : ∀ H : Hp, Only H → SqL K H a (ns.map V.int) → sp [.ref a] H (fun v _ => v = .bl true) fun _ _ _ => False) :
    codeAny (model P w) callerA (.call (.ref fa) ⟨[.ref a], []⟩) (fun r s' => r = .ok (.ret (.bool true)) ∧ OldK s₁.heap s'.heap ∧ s'.os = s₁.os ∧ AllBare s'.gens) s₁ := by
  have rv := vals_ints hi
  have lv := hi.length
  have go : ∀ H : Hp, Only H → SqL K H a (ns.map V.int) → HOk P w H s₁.heap → (∀ b u, H b = some u → b = a ∧ K.lookup a = none) →
      codeAny (model P w) callerA (.call (.ref fa) ⟨[.ref a], []⟩) (fun r s' => r = .ok (.ret (.bool true)) ∧ OldK s₁.heap s'.heap ∧ s'.os = s₁.os ∧ AllBare s'.gens) s₁ := by
    intro H hO hS hok hA
    have dicts : ∀ {b : Addr} {o : Obj} {es : Array DictEntry} {ep : Nat}, s₁.heap.get? b = some o → o.data = .dict es ep → H b = none := fun {b o es ep} e d => by
      cases q : H b with
      | none => rfl
      | some u =>
        obtain ⟨rfl, _⟩ := hA b u q
        rw [ha] at e
        cases e
        exact nomatch (show Data.seq vs.toArray _ = Data.dict es ep from d)
    have ns' : ∀ {b : Addr} {m : Str → Option Value}, s₁.heap.Ns b m → (hidT s₁.heap H).Ns b m := fun {b m} ⟨o, es, ep, e, d, r⟩ => ⟨o, es, ep, hidT_get e (dicts e d), d, r⟩
    have sd : SysD (hidT s₁.heap H) := by
      obtain ⟨mm, o, es, ep, e, d, _⟩ := hmods
      exact ⟨o, es, ep, hidT_get e (dicts e d), d⟩
    have kin : K.In (hidT s₁.heap H) := fun b o e => hidT_get (KX b o e) (by
      cases q : H b with
      | none => rfl
      | some u =>
        obtain ⟨rfl, z⟩ := hA b u q
        rw [z] at e
        cases e)
    have e0 : Env0 P w K mg (hidT s₁.heap H) callerA [] s₁ H := ⟨rfl, ⟨kin, ns' hns, ⟨mb, ns' hb, hbb⟩, let ⟨mc, h1, h2⟩ := hlim; ⟨mc, ns' h1, h2⟩⟩, fun b o e => of_hidT e, Nat.le_of_eq (hidT_size _ _), trivial, fun b z => absurd (show b ∈ ([] : List Addr) from z) (by simp), hok, .of_eq hg⟩
    refine codeAny_mono ((F _ kin (ns' hns) sd).run callerA [] s₁ H ⟨[.ref a], []⟩ [.ref a] [.ref a] _ _ hr e0 (hbind s₁ (.ref a)) (.cons rfl .nil) (hsp H hO hS)) fun r s' h => ?_
    cases r with
    | error e => exact False.elim h
    | ok fl => cases fl with
      | next => exact False.elim h
      | brk => exact False.elim h
      | cont => exact False.elim h
      | ret u =>
        obtain ⟨v, H', os, bare, un, hok', r', q⟩ := h
        obtain rfl : v = .bl true := q
        obtain rfl : u = Value.bool true := r'
        refine ⟨rfl, OldK.of_keep fun b o e => ?_, os, bare⟩
        cases q : H b with
        | none => exact un.keep b o e q (fun z => nomatch z) (fun z => nomatch z)
        | some u =>
          rcases hO b with z | ⟨ob, xs, z⟩
          · rw [q] at z
            cases z
          · have e1 := (hok b _ z).1
            rw [e] at e1
            cases e1
            exact (hok' b _ (un.frzs b _ _ z)).1
  cases hk : K.lookup a with
  | some o =>
    have e := KX a o hk
    rw [ha] at e
    cases e
    exact go (fun _ => none) (fun _ => .inl rfl) (.inr ⟨_, vs.toArray, _, hk, rfl, rfl, rfl, by rw [List.size_toArray, lv]; exact hl, by simpa using rv⟩) (fun b u z => nomatch z) fun b u z => nomatch z
  | none =>
    have at_ : ∀ b u, (if b = a then some (HO.frz { cls := .type "list", data := .seq vs.toArray } (.lst (ns.map V.int))) else none) = some u → b = a ∧ u = HO.frz { cls := .type "list", data := .seq vs.toArray } (.lst (ns.map V.int)) := fun b u z => by
      by_cases h : b = a
      · rw [if_pos h] at z
        exact ⟨h, (Option.some.inj z).symm⟩
      · rw [if_neg h] at z
        cases z
    refine go (fun b => if b = a then some (.frz { cls := .type "list", data := .seq vs.toArray } (.lst (ns.map V.int))) else none) (fun b => ?_) (.inl (.inr ⟨_, if_pos rfl⟩)) (fun b u z => ?_) fun b u z => ⟨(at_ b u z).1, hk⟩
    · by_cases h : b = a
      · exact .inr ⟨_, _, if_pos h⟩
      · exact .inl (if_neg h)
    · obtain ⟨rfl, rfl⟩ := at_ b u z
      exact ⟨ha, by rw [List.length_map]; exact hl, vs, _, rv, ha⟩
theorem walk_ofS {l : PySem.W.OpenLaw} {n k : Nat} {q : Program} {loose : List Str} {lv : List (Str × PySem.W.WData)} {qp : Program} {YP : World → Heap → Prop} {d : DefRec} {K : Params → PySem.W.Frag} {sp : World → Sp} {x : Str}
    (hn : l.most = some n) (hn2 : n ≤ sizeLine) (hdf : d.params.defaults = []) (him : importsNone q = true) (hr : RoomG k callerA) (hY : ∀ (w : World) (h : Heap), YP w h → (K w.params).In h)
    (F : ∀ (w : World) (mg : Str → Option Value) (fa : Addr) (h : Heap), (K w.params).In h → h.Ns mainGlobals mg → PySem.W.LooseAre lv mg h → mg d.name = some (.ref fa) →
      ∃ fd : FuncData, (∀ (s : Shared) (u : Value), BindsTo s fd ⟨[u], []⟩ [(x, u)]) ∧ ∀ base : Heap, (K w.params).In base → base.Ns mainGlobals mg → SysD base → FnG l.prog w (K w.params) mg base k fa fd [x] (sp w))
    (hsp : ∀ (w : World) (H : Hp) (a : Addr) (ns : List Int), ns.length ≤ n → Only H → SqL (K w.params) H a (ns.map V.int) → sp w [.ref a] H (fun v _ => v = .bl true) fun _ _ _ => False) :
    PySem.W.WalkO q loose (PySem.W.XL qp lv) YP l.row.toRowW d [] (fun f vs => PySem.call f vs) := by
  refine Att.attach_callB hn hdf fun w s₀ s₁ mg mb fa o pm cd doc a vs ns G Y ho hd hcd hmg hobj hints hlen hbits hg => ?_
  obtain ⟨fd, hb, hF⟩ := F w mg fa _ (hY w _ Y) G.T.g G.X.2 hmg
  obtain ⟨mm, hm, _⟩ := (G.T.seer him).mods
  exact law_callS (hY w _ Y) G.T.g G.T.b G.T.builtins G.T.nolimit ⟨mm, hm⟩ hg hobj hints (Nat.le_trans hlen hn2) hr hF hb fun H hO hS => hsp w H a ns hlen hO hS
end Vf
set_option Elab.async false
set_option linter.all false
set_option maxRecDepth 100000
set_option maxHeartbeats 4000000
/-! A method called within a try, its exceptions by what the handlers want. -/
namespace Vf
open PySem PySem.Spec PyProof.Rows L2
def tMthS (C : Addr) (m : Str) (sp : Sp) (E : L2.St → XK) (ta : TE) (t : TA) : TE := fun σ H Q => ta σ H fun x H1 => ∃ a dx fs, x = .ref a ∧ H1 a = some (.ins C dx fs) ∧ fs.lookup m = none ∧ t σ H1 fun vs H2 => sp (x :: vs) H2 Q (E σ)
section
variable {X : Cx} {CX : CXT} {k : Nat} {C : Addr} {m : Str} {ps : List Str} {sp : Sp} {E : L2.St → XK} {o e : Expr} {es : List Expr} {ta : TE} {t : TA} {apos pos : Pos}
theorem pe_mthS {pl : Sem Bool} (c : Mth X.prog X.w X.K X.mg X.base CX k C m ps sp) (hr : Room k X.A) (hx : ∀ σ, PassesAt CX X σ (E σ)) (he : PE X o ta) (ha : PA X (e :: es) t)
    (hst : starEach (e :: es) X.env = (false, eval e X.env) :: starEach es X.env := by rfl) (hpl : (backTo pos (starEach es X.env)).any (·.1) = false := by rfl)
    (ht : eval (.Call (.Attribute o m apos) (e :: es) [] pos) X.env = (do
      let ov ← eval o X.env
      standAt apos.atName
      let (f, first) ← holding [ov] (getMethod ov m pl)
      callWith pos f first (backTo pos (starEach (e :: es) X.env)) (backToKw pos (keywordEach [] X.env))) := by rfl) :
    PE X (.Call (.Attribute o m apos) (e :: es) [] pos) (tMthS C m sp E ta t) := by
  obtain ⟨f, fd, hm, hb, F⟩ := c.ex
  refine ⟨fun pins s σ H Q I h => ?_⟩
  refine PySem.W.methodCall_KW (pl := pl) (thn (he.run pins s σ H _ I h) fun u s1 ⟨x, H1, I1, rx, a, dx, fs, ex, ea, l, q⟩ => ?_) ht
  subst ex
  obtain rfl : u = Value.ref a := rx
  refine getmeth_ok I1 ea c.cl hm l ?_
  refine PySem.W.callWith_K (first := [.ref a]) (h₀ := X.base) I.ok.mod.kin hm.kp (thn (ha.run pos pins s1 σ H1 _ I1 q) fun us s2 ⟨vs, H2, I2, r, q2⟩ => ⟨I2.kIn, ?_⟩) hst hpl
  exact run_fnS (us := .ref a :: us) (vs := .ref a :: vs) F hr hb (hx σ) I2 (.cons rfl r) q2
end
/-! ### a tuple taken apart while an exception is handled -/
section
variable {prog : Program} {w : World} {A : Around} {E : Value → Shared → Prop} {s : Shared}
theorem tuple_end_hot {it t x1 : Addr} {i : Nat} {items : Array Value} {Q : Option Value → Shared → Prop} (hot : HotX.HotAt A x1 s.heap) (hx1 : x1 ≠ it) (hit : IsTupIter s.heap it t i) (ht : IsTup s.heap t items) (hx : items[i]? = none)
    (hQ : ∀ h', Heap.ExtBut it s.heap h' → Q none { s with heap := h' }) : wpAny (model prog w) A (pyNext (.ref it)) Q E s := by
  obtain ⟨oi, hoi, hci, hdi⟩ := id hit
  obtain ⟨ol, hol, _, nl, hdl⟩ := ht
  obtain ⟨hh, o1, vs1, h1, d1, c1⟩ := hot
  unfold pyNext
  refine wpAny_bind (wpAny_attempt (wpAny_callSpecial?_slot (name := Str.ofString "__next__") hit.typeIs slot_tupleiter_next (wpAny_call_entry slot_tupleiter_next hit.typeIs entry_tupleiter_next ?_ (args_tupleiter_next _))))
  show wpAny _ _ (field (.ref it) 0 >>= _) _ _ s
  refine wpAny_bind (wpAny_field hoi hdi (x := .ref t) rfl ?_)
  show wpAny _ _ (if (Value.ref t == Value.none) = true then _ else _) _ _ s
  rw [if_neg (show ¬ ((Value.ref t == Value.none) = true) from Bool.false_ne_true)]
  show wpAny _ _ (field (.ref it) 1 >>= _) _ _ s
  refine wpAny_bind (wpAny_field hoi hdi (x := .int i 0) rfl ?_)
  show wpAny _ _ (seqItems? (.ref t) >>= _) _ _ s
  refine wpAny_bind (wpAny_seqItems hol hdl ?_)
  simp only [Int.toNat_natCast, hx]
  refine wpAny_bind (wpAny_rule (wpAny_bind (wpAny_setField hoi hdi (by simp) ?_)))
  have h1' : (s.heap.update it (Obj.mapFields (·.setIfInBounds 0 .none))).get? x1 = some o1 := (Heap.get?_update_other _ _ hx1.symm).trans h1
  show wpAny _ _ (newExc (.type "StopIteration") [] >>= _) _ _ _
  refine wpAny_bind ?_
  simp only [newExc, newTuple]
  refine wpAny_bind (wpAny_newObj_type ?_ (by size_fits))
  refine wpAny_bind (m := firstArgMember _ _) (wpAny_of_eq (a := Value.none) (by first | rfl | (simp only [firstArgMember]; rfl)) ?_)
  refine wpAny_newObj_type ?_ (by size_fits)
  refine HotX.raiseNew_hot ⟨hh, o1, vs1, Heap.get?_push_of_some _ (Heap.get?_push_of_some _ h1'), d1, c1⟩ (Nat.ne_of_lt (Heap.lt_size (Heap.get?_push_of_some _ h1'))) (Heap.get?_push_size _ rfl) rfl (by first | (simp; done) | (simp; omega) | (simp only [Array.size_append]; simp; omega)) ?_
  refine wpAny_bind (wpAny_isInstance (T := "StopIteration") (b := true) ⟨_, Heap.get?_update_self _ (Heap.get?_push_size _ rfl) rfl, rfl⟩ isSubtype_stop ?_)
  refine wpAny_pure (hQ _ fun b o hb e => ?_)
  have e1 : (s.heap.update it (Obj.mapFields (·.setIfInBounds 0 .none))).get? b = some o := (Heap.get?_update_other _ _ (Ne.symm hb)).trans e
  rw [Heap.get?_update_other _ _ (Nat.ne_of_gt (Heap.lt_size (Heap.get?_push_of_some _ e1)))]
  exact Heap.get?_push_of_some _ (Heap.get?_push_of_some _ e1)
theorem assign_tuple_hot {env : Env} {elts : List Expr} {k} {pos : Pos} {t x1 : Addr} {items : Array Value} {Q : Unit → Shared → Prop} (hot : HotX.HotAt A x1 s.heap) (ht : IsTup s.heap t items) (hn : (assignEach elts env).length = items.size) (hstar : (assignEach elts env).findIdx? (·.1) = none)
    (h : ∀ h', Heap.ExtBut s.heap.objs.size s.heap h' → wpAny (model prog w) A (assignInOrder ((assignEach elts env).map (·.2)) items.toList) Q E { s with heap := h' }) :
    wpAny (model prog w) A (assign (.Tuple elts k pos) env (.ref t)) Q E s := by
  have hlt : t ≠ s.heap.objs.size := by obtain ⟨o, ho, _⟩ := ht; exact Nat.ne_of_lt (Heap.lt_size ho)
  have hx1 : x1 ≠ s.heap.objs.size := by obtain ⟨_, o, _, ho, _⟩ := hot; exact Nat.ne_of_lt (Heap.lt_size ho)
  rw [assign_Tuple]
  refine wpAny_bind (wpAny_standAt ?_)
  unfold unpack
  rw [hn, hstar]
  refine wpAny_bind (wpAny_holding ?_)
  unfold unpackItems
  refine wpAny_bind ?_
  unfold notIterableAtAll
  refine wpAny_bind (wpAny_specialOf ht.typeIs slot_tuple_iter.lookup ?_)
  refine wpAny_pure ?_
  simp only [Bool.false_eq_true, if_false]
  refine wpAny_bind (wpAny_holding (iter_tuple ht ?_))
  refine wpAny_bind (wpAny_holding (draw_tuple hlt items.size 0 _ _ ⟨_, Heap.get?_push_size _ rfl, rfl, rfl⟩ (ht.push _) (by omega) fun h₁ hit₁ hs₁ => ?_))
  have hall : List.take items.size (List.drop 0 items.toList) = items.toList := by
    rw [List.drop_zero]; exact List.take_of_length_le (by simp)
  rw [hall]
  rw [if_neg (by simp)]
  have ht₁ : IsTup h₁ t items := (ht.push _).extBut hs₁.extBut hlt
  have hot₁ : HotX.HotAt A x1 h₁ := by
    obtain ⟨hh, o1, vs1, h1, d1, c1⟩ := hot
    exact ⟨hh, o1, vs1, hs₁.extBut x1 o1 hx1 (Heap.get?_push_of_some _ h1), d1, c1⟩
  refine wpAny_bind (wpAny_holding (tuple_end_hot hot₁ hx1 hit₁ ht₁ (by simp) fun h₂ he₂ => ?_))
  simp only [Option.isSome_none, Bool.false_eq_true, if_false]
  exact wpAny_pure (h h₂ fun b o hb e => he₂ b o hb (hs₁.extBut b o hb (Heap.get?_push_of_some _ e)))
end
def gTupQ (a : Addr) (K : PySem.W.Frag) (n : Nat) (t : TGs) : TG := fun v σ H Q => ∃ b xs, v = .ref b ∧ ExHot H a ∧ SqT K H b xs ∧ xs.length = n ∧ t xs σ H Q
theorem pg_tupQ {X : Cx} {K : PySem.W.Frag} {a : Addr} {es : List Expr} {k : Nat} {pos : Pos} {t : TGs} {n : Nat} (hK : X.K = K) (hh : X.A.handled = some (.ref a)) (h : PGs X es t)
    (hn : (assignEach es X.env).length = n := by rfl) (hst : (assignEach es X.env).findIdx? (·.1) = none := by rfl) : PG X (.Tuple es k pos) (gTupQ a K n t) := by
  subst hK
  refine ⟨fun pins s σ H v u Q I r hw => ?_⟩
  obtain ⟨b, xs, e1, eh, hq, hl, hw⟩ := hw
  subst e1
  cases r
  obtain ⟨its, rv, ht, hz⟩ := I.tuple hq
  refine assign_tuple_hot (eh.at I hh) ht (by simp [hn, ← hl, rv.length]) hst fun h' hx => ?_
  have I1 : Inv X pins σ H { s with heap := h' } := I.kept (t' := s.toks) fun b o e => hx b o (Nat.ne_of_lt (Heap.lt_size e)) e
  exact h.run pins _ σ H xs _ Q I1 (by simpa using rv) hw
end Vf
set_option Elab.async false
set_option linter.all false
set_option maxRecDepth 100000
set_option maxHeartbeats 4000000
/-! an exception that leaves a comprehension. -/
namespace Vf
open PySem PySem.Spec PyProof.Rows L2 RZ
/-- noted by its frame alone -/
theorem noteFrame_congr {x : Value} {e1 e2 : Env} (h : e1.frame = e2.frame) : noteFrame x e1 = noteFrame x e2 := by
  unfold noteFrame PySem.frameOf
  rw [h]
/-- in the air of X, the comprehension's own names at C besides -/
def XEC (X : Cx) (W : XK) (C : Addr) (u : Value) (s' : Shared) : Prop :=
  ∃ (a : Addr) (B : Heap) (sI : Shared) (pins : List (Addr × Obj)) (σ : L2.St) (H : Hp) (cls : Value) (d : Option Addr),
    u = .ref a ∧ Inv X pins σ H sI ∧ (∀ b o, sI.heap.get? b = some o → b ∉ frs X.stack → B.get? b = some o) ∧ sI.heap.UpToSlots s'.heap ∧
      L2.Sky B X.stack a (L2N.Zn cls d) X.env.locals s'.heap ∧ H a = none ∧ s'.os = sI.os ∧ AllBare s'.gens ∧ W cls d H ∧ FpOk X pins H C ∧ (∃ m, sI.heap.Ns C m) ∧ C ∉ frs X.stack
section
variable {X : Cx} {pins : List (Addr × Obj)} {σ : L2.St} {H : Hp} {s s' : Shared} {W E : XK}
/-- what a callee let out within the comprehension -/
theorem XEC.of_call {C : Addr} {m : Str → Option Value} (I : Inv X pins σ H s) (hn : s.heap.Ns C m) (nC : H C = none) (fC : ∀ H' : Hp, H' C = none → FpOk X pins H' C) (nf : C ∉ frs X.stack) (hW : ∀ cls d H', E cls d H' → W cls d H') {u : Value} (c : L2N.CX X.prog X.w X.stack H s E u s') : XEC X W C u s' := by
  obtain ⟨a, B, H', cls, d, rfl, fl, hok, ub, na, os, ag, hE⟩ := c
  obtain ⟨G, g1, g2⟩ := restrict s'.heap fun b => (B.get? b).isSome || decide (b ∈ frs X.stack)
  have st : B.StaysIn s'.heap := fl.1
  have gB : ∀ b o, B.get? b = some o → G.get? b = some o := fun b o e => by
    rw [g1 b (by simp [e])]
    exact st b o e
  have gF : ∀ b, b ∈ frs X.stack → G.get? b = s'.heap.get? b := fun b hb => g1 b (by simp [hb])
  have og : ∀ b o, G.get? b = some o → s'.heap.get? b = some o ∧ ((B.get? b).isSome = true ∨ b ∈ frs X.stack) := fun b o e => by
    cases q : ((B.get? b).isSome || decide (b ∈ frs X.stack)) with
    | false => rw [g2 b q] at e; cases e
    | true =>
      rw [g1 b q] at e
      exact ⟨e, by simpa [Bool.or_eq_true] using q⟩
  have nC' : H' C = none := by
    obtain ⟨o, _, _, e, _⟩ := hn
    exact ub.free _ _ e nC
  refine ⟨a, B, { s with heap := G, gens := s'.gens, drawn := s'.drawn, toks := s'.toks }, pins, σ, H', cls, d, rfl, ?_, fun b o e hb => ?_, Heap.UpToSlots.of_keeps fun b o e => (og b o e).1, .inr (.inl fl), na, os, ag, hW _ _ _ hE, fC H' nC', ⟨m, hn.at fun o e => gB _ _ (ub.keep _ _ e nC nf)⟩, nf⟩
  · refine I.call (ch := []) ⟨fun b o e n hb _ => gB b o (ub.keep b o e n hb), fun b o e n hb _ => ?_, fun b o e n _ => ub.free b o e n, fun b o e _ => ?_, ub.tups, ub.frzs, ub.tbls⟩ (hok.kept gB) ag (fun _ z => nomatch z)
    · obtain ⟨sl, q⟩ := ub.slot b o e hb
      exact ⟨sl, by rw [gF b hb]; exact q⟩
    · by_cases hb : b ∈ frs X.stack
      · obtain ⟨sl, q⟩ := ub.slot b o e hb
        exact ⟨_, by rw [gF b hb]; exact q⟩
      · obtain ⟨o', q⟩ := ub.there b o e hb
        exact ⟨o', gB b o' q⟩
  · obtain ⟨e', h⟩ := og b o e
    rcases h with h | h
    · obtain ⟨o', q⟩ := Option.isSome_iff_exists.mp h
      have z := st b o' q
      rw [e'] at z; cases z
      exact q
    · exact absurd h hb
theorem funFrames_but {h h' B B' : Heap} {C : Addr} (k : ∀ b o, b ≠ C → h.get? b = some o → h'.get? b = some o) (hB : ∀ b, B.get? b = none → B'.get? b = none) : ∀ {l : List Env}, h.FunFrames B l → C ∉ frs l → h'.FunFrames B' l
  | [], _, _ => trivial
  | env :: l, ⟨hk, ⟨L, o, hf, hn, ho, hd⟩, hr⟩, nf => by
    have e : frs (env :: l) = L :: frs l := by unfold frs; rw [List.filterMap_cons, hf]
    rw [e] at nf
    have h1 : C ≠ L := fun z => nf (by rw [z]; exact List.mem_cons_self)
    exact ⟨hk, ⟨L, o, hf, hB L hn, k L o (Ne.symm h1) ho, hd⟩, funFrames_but k hB hr fun z => nf (List.mem_cons_of_mem _ z)⟩
/-- the comprehension's own names let go, it goes on in the def's own frame -/
theorem XEC.fails {C : Addr} {u : Value} {ce : Env} (tk : L2N.Takes X fun cls d _ H => W cls d H) (hs : X.stack = X.env :: X.outer) (hf : X.env.frame = some X.env.locals) (cL : ce.locals = C) (cf : ce.frame = X.env.frame) (x : XEC X W C u s') :
    notedBy (model X.prog X.w) X.A ce (CompFails (model X.prog X.w) X.A X.xe ce) u s' := by
  obtain ⟨a, B, sI, pins, σ, H, cls, d, rfl, I, nb, up, sky, na, os, ag, w, fC, ⟨m, hm⟩, nf⟩ := x
  have hfr : X.A.frames = some (X.env :: X.outer) := by rw [I.ok.frames, hs]
  obtain ⟨oC, es, ep, hC, dC, _⟩ := hm
  have BC := nb C oC hC nf
  have nfd : ∀ vs, oC.data ≠ .fields vs := fun vs z => by rw [dC] at z; cases z
  have fin : ∀ h1, HandSPX.HeldZ B X.stack a (L2N.Zn cls d) X.env.locals h1 → s'.heap.UpToSlots h1 → CompFails (model X.prog X.w) X.A X.xe ce (.ref a) { s' with heap := h1 } := fun h1 hh up1 => by
    obtain ⟨stB, Ba, ff, oe, vs, T, oT, ts, he, hz, hd, hv1, hnT, hTe, hT, hdT, h3⟩ := hh
    have h1C := stB C oC BC
    refine ⟨m, by rw [cL]; exact ⟨oC, es, ep, h1C, dC, by assumption⟩, fun h' m' hn' sb => ?_⟩
    rw [cL] at hn' sb
    have keep : ∀ b o, b ≠ C → h1.get? b = some o → h'.get? b = some o := fun b o hb e => (sb.2 b hb).trans e
    have aC : a ≠ C := fun z => by rw [z, h1C] at he; cases he; exact nfd _ hd
    have TC : T ≠ C := fun z => by rw [z, BC] at hnT; cases hnT
    have hid : ∀ b o, (PySem.W.hideAll B [C]).get? b = some o → b ≠ C ∧ B.get? b = some o := fun b o e => ⟨(fun z => by rw [z, PySem.W.hideAll_none [C] List.mem_cons_self] at e; cases e), PySem.W.of_hideAll [C] e⟩
    have none_ : ∀ b, B.get? b = none → (PySem.W.hideAll B [C]).get? b = none := fun b e => by
      cases q : (PySem.W.hideAll B [C]).get? b with
      | none => rfl
      | some o => rw [(hid b o q).2] at e; cases e
    have hh' : HandSPX.HeldZ (PySem.W.hideAll B [C]) X.stack a (L2N.Zn cls d) X.env.locals h' :=
      ⟨fun b o e => keep b o (hid b o e).1 (stB b o (hid b o e).2), none_ a Ba, funFrames_but keep none_ ff nf, oe, vs, T, oT, ts, keep a oe aC he, hz, hd, hv1, none_ T hnT, hTe, keep T oT TC hT, hdT, h3⟩
    obtain ⟨f0, f1, f2, f3, f4, f5⟩ := fC
    have idI : ∀ b o, (PySem.W.hideAll sI.heap [C]).get? b = some o → b ≠ C ∧ sI.heap.get? b = some o := fun b o e => ⟨(fun z => by rw [z, PySem.W.hideAll_none [C] List.mem_cons_self] at e; cases e), PySem.W.of_hideAll [C] e⟩
    have I' : Inv X pins σ H { sI with heap := PySem.W.hideAll sI.heap [C] } := I.turned (t' := sI.toks) (fun b o hb e => PySem.W.hideAll_get [C] e (by simpa using hb)) f0 f1 f3 f4 f5
    have nb' : ∀ b o, (PySem.W.hideAll sI.heap [C]).get? b = some o → b ∉ frs X.stack → (PySem.W.hideAll B [C]).get? b = some o := fun b o e hb => PySem.W.hideAll_get [C] (nb b o (idI b o e).2 hb) (by simpa using (idI b o e).1)
    have up' : (PySem.W.hideAll sI.heap [C]).UpToSlots h' := fun b o e hnf => by
      obtain ⟨h1b, h2b⟩ := idI b o e
      obtain ⟨sl, q⟩ := (up.trans up1) b o h2b hnf
      exact ⟨sl, keep b _ h1b q⟩
    unfold PySem.passOn
    refine wpAny_bind (wpAny_field (s := { s' with heap := h' }) (keep a oe aC he) hd hv1 ?_)
    rw [if_neg (show ¬ ((Value.ref T == Value.none) = true) from by simp)]
    rw [cf, hf]
    refine wpAny_bind (HandSPX.setFlight_onZ (s := { s' with heap := h' }) hh' fun h2 hh2 up2 => wpAny_throw ?_)
    exact tk _ _ ⟨a, PySem.W.hideAll B [C], { sI with heap := PySem.W.hideAll sI.heap [C] }, pins, σ, H, cls, d, rfl, I', nb', up'.trans up2, .inr (.inr hh2), na, os, ag, w⟩
  show wpAny _ _ (noteFrame (.ref a) ce) _ _ s'
  rw [noteFrame_congr cf]
  rw [hs] at sky fin
  rcases sky with ⟨hB, hn, hl, oe, vs, he, hz, hd, h1⟩ | fl | hh
  · exact PXN.look_newZ L2N.Zn.steady hfr hl hf he hB hn hd h1 hz fin
  · exact PXN.looks_onZ L2N.Zn.steady hfr hf fl fin
  · exact HandSPX.againZ hf hh.2.2.2 (fin s'.heap hh (Heap.UpToSlots.refl _))
end
/-- a block whose exceptions are asked for -/
abbrev _root_.L2.Cx.blx (X : Cx) (s : Shared) (H : Hp) (scope : Scope) (cenv : Env) (fp : List Addr) (xe : Value → Shared → Prop) : Cx := { X.blk s H scope cenv fp with xe := xe }
theorem _root_.L2.Inv.blx {X : Cx} {s0 : Shared} {H0 : Hp} {scope : Scope} {cenv : Env} {fp : List Addr} {xe : Value → Shared → Prop} {pins : List (Addr × Obj)} {σ : L2.St} {H : Hp} {s : Shared} (I : Inv (X.blk s0 H0 scope cenv fp) pins σ H s) : Inv (X.blx s0 H0 scope cenv fp xe) pins σ H s :=
  ⟨⟨I.ok.mod, I.ok.kind, I.ok.glob, I.ok.blt, I.ok.above, I.ok.inj, I.ok.has, I.ok.cab, I.ok.hd, I.ok.frames, I.ok.stk, I.ok.exf, I.ok.bs, I.ok.bsz, I.ok.noex, I.ok.exfs, I.ok.funs, I.ok.frf⟩, I.os, I.bare, I.base, I.loc, I.cell, I.free, I.freeC, I.pin, I.hok, I.len⟩
section
variable {X : Cx}
theorem lc_coreX {W0 : XK} {pins : List (Addr × Obj)} {s : Shared} {σ : L2.St} {H : Hp} {Q : VK} {elt tg iter : Expr} {ifs : List Expr} {scope : Scope} {own : List (Str × Nat)} {pos pos' : Pos} {wi : TI} {g : TG} {tt : TT} {te : TE} {use : Option (Value → Sem Unit)} {Qf : Value → Shared → Prop}
    (hc : X.calm = true) (tk : L2N.Takes X fun cls d _ H => W0 cls d H) (hs : X.stack = X.env :: X.outer) (hf : X.env.frame = some X.env.locals) (nN : X.N.Nodup) (I : Inv X pins σ H s) (hi : PI X tg iter wi) (ok : BlkOk X.N X.env.scope scope own)
    (hg : ∀ (s : Shared) (H : Hp) (C : Addr) (cl : List (Str × Addr)) (fp : List Addr) (xe : Value → Shared → Prop), PG (X.blx s H scope (compEnvC scope cl C X.env) fp xe) tg g) (ht : ∀ (s : Shared) (H : Hp) (C : Addr) (cl : List (Str × Addr)) (fp : List Addr) (xe : Value → Shared → Prop), PTs (X.blx s H scope (compEnvC scope cl C X.env) fp xe) ifs tt)
    (he : ∀ (s : Shared) (H : Hp) (C : Addr) (cl : List (Str × Addr)) (fp : List Addr) (xe : Value → Shared → Prop), (∀ E : XK, (∀ c d H, E c d H → W0 c d H) → Passes (L2N.CX X.prog X.w) (X.blx s H scope (compEnvC scope cl C X.env) fp xe) E) → PE (X.blx s H scope (compEnvC scope cl C X.env) fp xe) elt te) (fs : ∀ x, foldedSetIterable iter X.env x = pure x)
    (rd : tLc wi g tt te (own.map (·.2)) σ H Q)
    (hRR : ∀ D C s' m H', Inv X pins σ H' s' → Q (.ref D) H' → s'.heap.Ns C m → FpOk X pins H' C → compPost (model X.prog X.w) X.A X.xe use Qf (.ref D) C (.ok .next) s') :
    wpAny (model X.prog X.w) X.A (comprehension (.ListComp elt [⟨tg, iter, ifs, 0⟩] scope pos) scope X.env pos' (newList []) false (eval iter X.env) use) Qf X.xe s := by
  have fr : ∀ y ∈ scope.names, y.2 = .free → ∃ c, X.env.cells.lookup y.1 = some c := fun y hy e => (ok.free y hy e).elim (fun k => I.ok.has _ (.inl k)) fun k => I.ok.has _ (.inr k)
  refine comprehension_at (use := use) rfl fs (closure_ok fr) ok.kind (fun y hy e => by rw [ok.uniq y hy, e]) (thn (hi.run pins s σ H _ I rd) fun xv s1 hx => thn hx fun itv s2 h2 => ?_)
  obtain ⟨it, fp, tn, J, H2, e, I2, T, st2, f2, q⟩ := h2
  subst e
  refine wpAny_newObj_type (newEnv_comp ?_) (show 0 ≤ sizeLine by decide)
  generalize eD : s2.heap.objs.size = D
  have nD : H2 D = none := I2.hok.fresh (Nat.le_of_eq eD)
  obtain ⟨W, ⟨m0, w0⟩, turn⟩ := q D nD
  generalize e3 : ({ s2 with heap := s2.heap.push { cls := .type "list", data := .seq ([] : List Value).toArray } } : Shared) = s3
  have I3 : Inv X pins σ (upd H2 D (.lst [])) s3 := by
    rw [← e3]
    refine I2.laid (t' := s2.toks) (fun b o e => Heap.get?_push_of_some _ e) (Nat.le_of_eq eD) ⟨Nat.zero_le _, [], 0, .nil, ?_⟩
    rw [← eD]; exact Heap.get?_push_size _ rfl
  have g3 : s3.heap = s2.heap.push { cls := .type "list", data := .seq ([] : List Value).toArray } := by rw [← e3]
  have low : ∀ b ∈ fp, b < s2.heap.objs.size := fun b hb => let ⟨o, e, _⟩ := T.obj _ _ st2 b hb; Heap.lt_size e
  have f3 : ∀ b ∈ fp, FpOk X pins (upd H2 D (.lst [])) b ∧ b < s3.heap.objs.size := fun b hb => by
    have hlt := low b hb
    refine ⟨⟨?_, (f2 b hb).2⟩, by rw [g3, Heap.size_push]; exact Nat.lt_succ_of_lt hlt⟩
    rw [upd_ne (by rw [← eD]; exact Nat.ne_of_lt hlt)]; exact (f2 b hb).1
  have st3 : tn 0 s3.heap := T.keep _ _ _ st2 fun b _ o e => by rw [g3]; exact Heap.get?_push_of_some _ e
  have I4 := fun xe => (block_start I3 ok nN f3).blx (xe := xe)
  have pg := fun xe => hg s3 (upd H2 D (.lst [])) s3.heap.objs.size (cellsFrom (s3.heap.objs.size + 1) scope.names (cloFrom X.env.cells scope.names [])) fp xe
  have pt := fun xe => ht s3 (upd H2 D (.lst [])) s3.heap.objs.size (cellsFrom (s3.heap.objs.size + 1) scope.names (cloFrom X.env.cells scope.names [])) fp xe
  have pe := fun xe => he s3 (upd H2 D (.lst [])) s3.heap.objs.size (cellsFrom (s3.heap.objs.size + 1) scope.names (cloFrom X.env.cells scope.names [])) fp xe
  show codeAny _ _ (.compStart (.ListComp elt [⟨tg, iter, ifs, 0⟩] scope pos) 0 (.ref it) (.ref D) (compEnvC scope (cellsFrom (s3.heap.objs.size + 1) scope.names (cloFrom X.env.cells scope.names [])) s3.heap.objs.size X.env)) (compEnds (model X.prog X.w) X.A X.xe use Qf (.ref D) (compEnvC scope (cellsFrom (s3.heap.objs.size + 1) scope.names (cloFrom X.env.cells scope.names [])) s3.heap.objs.size X.env)) { s3 with heap := pushCells (s3.heap.push { cls := .type "dict", data := .dict #[] }) scope.names }
  have nfp : ∀ b ∈ fp, (upd H2 D (.lst [])) b = none := fun b hb => (f3 b hb).1.1
  generalize ece : compEnvC scope (cellsFrom (s3.heap.objs.size + 1) scope.names (cloFrom X.env.cells scope.names [])) s3.heap.objs.size X.env = ce at I4 pg pt pe ⊢
  have cL : ce.locals = s3.heap.objs.size := by subst ece; rfl
  have cF : ce.frame = X.env.frame := by subst ece; rfl
  generalize eH3 : upd H2 D (.lst []) = H3 at I3 I4 pg pt pe w0 nfp f3
  generalize e4 : ({ s3 with heap := pushCells (s3.heap.push { cls := .type "dict", data := .dict #[] }) scope.names } : Shared) = s4 at I4 ⊢
  have nF : s3.heap.objs.size ∉ frs X.stack := fun z => (List.mem_cons.mp (I3.stkSub _ z)).elim (fun e => Nat.lt_irrefl _ (e ▸ I3.lt)) (I3.nofs (Nat.le_refl _))
  have back : ∀ {xe : Value → Shared → Prop} {pn : List (Addr × Obj)} {σ' : L2.St} {H' : Hp} {s' : Shared}, Inv (X.blx s3 H3 scope ce fp xe) pn σ' H' s' → Inv X pins σ H' s' := fun I' => I3.call' (ch := fp) I'.os I'.base I'.hok I'.bare fun b hb => ⟨(f3 b hb).1.2.2.2.1, (f3 b hb).1.2.1, (f3 b hb).1.2.2.2.2.1, (f3 b hb).1.2.2.2.2.2⟩
  have offC : ∀ {xe : Value → Shared → Prop} {pn : List (Addr × Obj)} {σ' : L2.St} {H' : Hp} {s' : Shared}, Inv (X.blx s3 H3 scope ce fp xe) pn σ' H' s' → H' s3.heap.objs.size = none ∧ ∃ m, s'.heap.Ns s3.heap.objs.size m := fun {xe pn σ' H' s'} I' => by
    obtain ⟨m, hn, _⟩ := I'.loc
    have hn : s'.heap.Ns ce.locals m := hn
    have z : H' ce.locals = none := I'.free
    rw [cL] at hn z
    exact ⟨z, m, hn⟩
  have px : ∀ E : XK, (∀ c d H, E c d H → W0 c d H) → Passes (L2N.CX X.prog X.w) (X.blx s3 H3 scope ce fp (notedBy (model X.prog X.w) X.A ce (CompFails (model X.prog X.w) X.A X.xe ce))) E := fun E hE pn σ' H' s' e s2' I' c => by
    obtain ⟨nC, m, hn⟩ := offC I'
    exact XEC.fails tk hs hf cL cF (XEC.of_call (back I') hn nC (fun H2' h2' => I3.fpOk (Nat.le_refl _) h2') nF hE c)
  have pg := pg (notedBy (model X.prog X.w) X.A ce (CompFails (model X.prog X.w) X.A X.xe ce))
  have pt := pt (notedBy (model X.prog X.w) X.A ce (CompFails (model X.prog X.w) X.A X.xe ce))
  have pe := pe (notedBy (model X.prog X.w) X.A ce (CompFails (model X.prog X.w) X.A X.xe ce)) px
  have I4 := I4 (notedBy (model X.prog X.w) X.A ce (CompFails (model X.prog X.w) X.A X.xe ce))
  have stop_ : ∀ {m : Str → Option Value} {H' : Hp} {s' : Shared}, Inv X pins σ H' s' → Q (.ref D) H' → s'.heap.Ns s3.heap.objs.size m → H' s3.heap.objs.size = none → compEnds (model X.prog X.w) X.A X.xe use Qf (.ref D) ce (.ok .next) s' := fun {m H' s'} J' q' n' c' => by
    have z := hRR D s3.heap.objs.size s' m H' J' q' n' (I3.fpOk (Nat.le_refl _) c')
    rw [← cL] at z
    cases use with
    | none => exact z
    | some u => exact z
  have st4 : tn 0 s4.heap := T.keep _ _ _ st3 fun b _ o e => by rw [← e4]; exact pushCells_keeps _ _ _ _ (Heap.get?_push_of_some _ e)
  have stat : ∀ {σ' : L2.St} {H' : Hp} {s' : Shared}, Inv (X.blx s3 H3 scope ce fp (notedBy (model X.prog X.w) X.A ce (CompFails (model X.prog X.w) X.A X.xe ce))) [] σ' H' s' → (∀ b ∈ fp, H' b = none) → ∀ b ∈ fp, FpOk (X.blx s3 H3 scope ce fp (notedBy (model X.prog X.w) X.A ce (CompFails (model X.prog X.w) X.A X.xe ce))) [] H' b := fun {σ' H' s'} I' hn b hb =>
    ⟨hn b hb, (I'.ok.exf b hb).1, I'.ok.exfs b hb, .inl hb, fun x c e => (I'.ok.exf b hb).2 x c e, fun p hp => absurd (show p ∈ ([] : List (Addr × Obj)) ++ [] from hp) (by simp)⟩
  have loop : codeAny (model X.prog X.w) X.A (.compLoop (.ListComp elt [⟨tg, iter, ifs, 0⟩] scope pos) 0 (.ref it) (.ref D) ce) (compEnds (model X.prog X.w) X.A X.xe use Qf (.ref D) ce) s4 := by
    refine compLoop_any (fun n s' => ∃ i H', Inv (X.blx s3 H3 scope ce fp (notedBy (model X.prog X.w) X.A ce (CompFails (model X.prog X.w) X.A X.xe ce))) [] (wipe σ (own.map (·.2))) H' s' ∧ tn i s'.heap ∧ (∀ b ∈ fp, H' b = none) ∧ W i n H') ?_ m0 ⟨0, H3, I4, st4, nfp, w0⟩
    rintro n s5 ⟨i, H5, I5, st5, n5, w5⟩
    rcases turn i n H5 w5 with ⟨stop, qq⟩ | ⟨go, Nx, hNx, step⟩
    · have td := T.done (X.blx s3 H3 scope ce fp (notedBy (model X.prog X.w) X.A ce (CompFails (model X.prog X.w) X.A X.xe ce))) rfl rfl rfl hc i [] s5 _ H5 (fun _ _ => False) I5 (stat I5 n5) st5 stop
      refine thnF td fun r s6 ⟨er, I6⟩ => ?_
      subst er
      obtain ⟨nC, m, hn⟩ := offC I6
      exact stop_ (back I6) qq hn nC
    · have ti := T.item (X.blx s3 H3 scope ce fp (notedBy (model X.prog X.w) X.A ce (CompFails (model X.prog X.w) X.A X.xe ce))) rfl rfl rfl hc i [] s5 _ H5 (fun _ _ => False) I5 (stat I5 n5) st5 go
      refine thnF ti fun r s6 ⟨u, er, h6⟩ => ?_
      subst er
      refine thnF h6 fun _ s7 ⟨x, H7, I7, r7, y7, st7, n7⟩ => ?_
      have J7 := I7.pinned (stat I7 n7) (T.obj _ _ st7)
      refine thn (pg.run _ s7 _ H7 x u _ J7 r7 (step x H7 y7)) fun _ s8 ⟨σ8, H8, I8, hw8, q8⟩ => ?_
      refine thn (pt.run _ s8 σ8 H8 _ I8 q8) fun b s9 ⟨H9, I9, q9⟩ => ?_
      have fin : ∀ {s' : Shared} {H' : Hp}, Inv (X.blx s3 H3 scope ce fp (notedBy (model X.prog X.w) X.A ce (CompFails (model X.prog X.w) X.A X.xe ce))) ([] ++ pinsAt fp s7.heap) σ8 H' s' → Nx H' → ∃ m, m < n ∧ ∃ i H', Inv (X.blx s3 H3 scope ce fp (notedBy (model X.prog X.w) X.A ce (CompFails (model X.prog X.w) X.A X.xe ce))) [] (wipe σ (own.map (·.2))) H' s' ∧ tn i s'.heap ∧ (∀ b ∈ fp, H' b = none) ∧ W i m H' := fun {s' H'} I' nx => by
        obtain ⟨m', hm, w'⟩ := hNx H' nx
        have pin' : ∀ b ∈ fp, ∀ o, s7.heap.get? b = some o → s'.heap.get? b = some o ∧ H' b = none := fun b hb o e => let z := I'.pin (b, o) (List.mem_append_right _ (List.mem_append_right _ (mem_pinsAt hb e))); ⟨z.1, z.2.1⟩
        have hl : (wipe σ (own.map (·.2))).length = σ8.length := by rw [← hw8, wipe_length]
        refine ⟨m', hm, i + 1, H', (I'.unpinned (pins := [])).weak hl (fun j v e => ?_), T.keep _ _ _ st7 fun b hb o e => (pin' b hb o e).1, fun b hb => ?_, w'⟩
        · rw [← hw8] at e; exact (wipe_some e).1
        · obtain ⟨o, e, _⟩ := T.obj _ _ st7 b hb; exact (pin' b hb o e).2
      cases b with
      | false =>
        simp only [Bool.false_eq_true, if_false] at q9 ⊢
        exact fin I9 q9
      | true =>
        simp only [if_true] at q9 ⊢
        refine thn (pe.run _ s9 σ8 H9 _ I9 q9) fun z s10 ⟨yv, H10, I10, r10, acc, hD10, hz10, nx⟩ => ?_
        exact app_ok (X := X.blx s3 H3 scope ce fp (notedBy (model X.prog X.w) X.A ce (CompFails (model X.prog X.w) X.A X.xe ce))) I10 hD10 hz10 r10 fun s11 I11 => fin I11 nx
  exact codeAny_compStart_list loop (T.self X.A 0 _ _ _ st4 loop)
/-- as a value -/
theorem pe_lcX {W0 : XK} {elt tg iter : Expr} {ifs : List Expr} {scope : Scope} {own : List (Str × Nat)} {pos : Pos} {wi : TI} {g : TG} {tt : TT} {te : TE} (hc : X.calm = true) (tk : L2N.Takes X fun cls d _ H => W0 cls d H) (hs : X.stack = X.env :: X.outer) (hf : X.env.frame = some X.env.locals) (nN : X.N.Nodup) (hi : PI X tg iter wi) (ok : BlkOk X.N X.env.scope scope own)
    (hg : ∀ (s : Shared) (H : Hp) (C : Addr) (cl : List (Str × Addr)) (fp : List Addr) (xe : Value → Shared → Prop), PG (X.blx s H scope (compEnvC scope cl C X.env) fp xe) tg g) (ht : ∀ (s : Shared) (H : Hp) (C : Addr) (cl : List (Str × Addr)) (fp : List Addr) (xe : Value → Shared → Prop), PTs (X.blx s H scope (compEnvC scope cl C X.env) fp xe) ifs tt)
    (he : ∀ (s : Shared) (H : Hp) (C : Addr) (cl : List (Str × Addr)) (fp : List Addr) (xe : Value → Shared → Prop), (∀ E : XK, (∀ c d H, E c d H → W0 c d H) → Passes (L2N.CX X.prog X.w) (X.blx s H scope (compEnvC scope cl C X.env) fp xe) E) → PE (X.blx s H scope (compEnvC scope cl C X.env) fp xe) elt te) (fs : ∀ x, foldedSetIterable iter X.env x = pure x := by intro _; rfl) :
    PE X (.ListComp elt [⟨tg, iter, ifs, 0⟩] scope pos) (tLc wi g tt te (own.map (·.2))) := by
  refine ⟨fun pins s σ H Q I rd => ?_⟩
  rw [eval_ListComp]
  refine lc_coreX hc tk hs hf nN I hi ok hg ht he fs rd fun D C s' m H' I' q hn f => ⟨m, hn, fun h'' sb => ?_⟩
  obtain ⟨f0, f1, f2, f3, f4, f5⟩ := f
  exact ⟨.ref D, H', I'.turned (t' := s'.toks) (fun b o hb e => (sb.2 b hb).trans e) f0 f1 f3 f4 f5, rfl, q⟩
/-- name = [..] on one line, the name a local -/
theorem ps_setLcX {W0 : XK} {i : Nat} {y : Str} {py : Pos} {elt tg iter : Expr} {ifs : List Expr} {scope : Scope} {own : List (Str × Nat)} {pos spos : Pos} {wi : TI} {g : TG} {tt : TT} {te : TE} (hc : X.calm = true) (tk : L2N.Takes X fun cls d _ H => W0 cls d H) (hs : X.stack = X.env :: X.outer) (hf : X.env.frame = some X.env.locals) (nN : X.N.Nodup) (hy : X.N[i]? = some y) (hyl : X.env.scope.names.lookup y = some .local)
    (hsw : swapsWith (.ListComp elt [⟨tg, iter, ifs, 0⟩] scope pos) (some (.Name y py)) spos.line X.env = pure true) (hi : PI X tg iter wi) (ok : BlkOk X.N X.env.scope scope own)
    (hg : ∀ (s : Shared) (H : Hp) (C : Addr) (cl : List (Str × Addr)) (fp : List Addr) (xe : Value → Shared → Prop), PG (X.blx s H scope (compEnvC scope cl C X.env) fp xe) tg g) (ht : ∀ (s : Shared) (H : Hp) (C : Addr) (cl : List (Str × Addr)) (fp : List Addr) (xe : Value → Shared → Prop), PTs (X.blx s H scope (compEnvC scope cl C X.env) fp xe) ifs tt)
    (he : ∀ (s : Shared) (H : Hp) (C : Addr) (cl : List (Str × Addr)) (fp : List Addr) (xe : Value → Shared → Prop), (∀ E : XK, (∀ c d H, E c d H → W0 c d H) → Passes (L2N.CX X.prog X.w) (X.blx s H scope (compEnvC scope cl C X.env) fp xe) E) → PE (X.blx s H scope (compEnvC scope cl C X.env) fp xe) elt te) (fs : ∀ x, foldedSetIterable iter X.env x = pure x := by intro _; rfl) :
    PS X (.Assign [.Name y py] (.ListComp elt [⟨tg, iter, ifs, 0⟩] scope pos) spos) (tAsg (tLc wi g tt te (own.map (·.2))) (gName i)) := by
  refine ⟨fun pins s σ H D I h => ?_⟩
  rw [exec_Assign_Name_used _ _ _ _ hsw]
  refine wpAny_bind (wpAny_standAt (wpAny_bind ?_))
  show wpAny _ X.A (do let _ ← comprehension (.ListComp elt [⟨tg, iter, ifs, 0⟩] scope pos) scope X.env (firstIterPos [⟨tg, iter, ifs, 0⟩] pos) (newList []) false (eval iter X.env) (some (assign (.Name y py) X.env))) _ _ s
  have rd : tLc wi g tt te (own.map (·.2)) σ H (fun x H1 => gName i x σ H1 D.nx) := h
  refine wpAny_bind (thn (lc_coreX (Qf := fun _ s' => SP X pins D .next s') hc tk hs hf nN I hi ok hg ht he fs rd fun L C s' m H' I' q hn f => ?_) fun _ s' hq => wpAny_pure (wpAny_pure hq))
  show wpAny _ _ (assign (.Name y py) X.env (.ref L)) _ _ _
  refine wpAny_assign_Name (store_ok2 (v := V.ref L) I' nN hy (.inl hyl) rfl (fun s2 I2 ⟨c, sb, hc⟩ => ?_) (.inr hyl))
  obtain ⟨f0, f1, f2, f3, f4, f5⟩ := f
  have haC : C ≠ c := hc.elim (fun z => by rw [z]; exact f1) fun z e => f4 y c z e.symm
  refine ⟨m, hn.sameBut sb haC, fun h3 sb3 => ?_⟩
  exact ⟨_, H', I2.turned (t' := s2.toks) (fun b o hb e => (sb3.2 b hb).trans e) f0 f1 f3 f4 f5, q⟩
end
end Vf
set_option Elab.async false
set_option linter.all false
set_option maxRecDepth 100000
set_option maxHeartbeats 4000000
/-! walks by one word: a list or a tuple, a pair of such zipped; comprehensions with two clauses. -/
namespace Vf
open PySem PySem.Spec PyProof.Rows L2 RZ
section
variable {K : PySem.W.Frag} {a b : Addr} {xs ys : List V} {H1 : Hp}
theorem walk_zipT {n : Nat} (hn : n = min xs.length ys.length) : Walk (ItzT K a b) n (fun H => SqT K H a xs ∧ SqT K H b ys) (YPair (fun i => xs[i]?) (fun i => ys[i]?)) := by
  subst hn
  refine ⟨fun i _ hi q => ?_, fun _ q => ⟨xs, ys, q.1, q.2, by omega⟩, fun i H v H' _ q y => ?_⟩
  · have h1 : i < xs.length := by omega
    have h2 : i < ys.length := by omega
    exact ⟨xs, ys, xs[i], ys[i], q.1, q.2, by simp [h1], by simp [h2]⟩
  · obtain ⟨T, x, z, h1, h2, h3, h4, h5⟩ := y
    exact ⟨T, x, z, h1, h2, h3, h4 xs q.1, h5 ys q.2⟩
/-- what iSeq asks, by any walk over the items -/
theorem seq_of {R : It → Hp → Prop} (h : SqV K H1 a xs) (k : ∀ (J : It) (G : Hp → Prop), Walk J xs.length G (YAt xs) → (∀ H', Same H1 H' → G H') → R J H1) :
    ∃ a', V.ref a = .ref a' ∧ (((∃ xs, SqL K H1 a' xs) ∧ R (Itl K a') H1) ∨ ((∃ xs, SqT K H1 a' xs) ∧ R (Itt K a') H1)) := by
  rcases h with h | h
  · exact ⟨a, rfl, .inl ⟨⟨_, h⟩, k _ _ walk_list fun H' s => s.seq h⟩⟩
  · exact ⟨a, rfl, .inr ⟨⟨_, h⟩, k _ _ walk_tup fun H' s => Same.seqT s h⟩⟩
/-- the same, of a list or a tuple that was there ahead -/
theorem seq_at {H0 : Hp} {R : It → Hp → Prop} (h : SqV K H0 a xs) (s : Same H0 H1) (k : ∀ (J : It) (G : Hp → Prop), Walk J xs.length G (YAt xs) → (∀ H', Same H0 H' → G H') → R J H1) :
    ∃ a', V.ref a = .ref a' ∧ (((∃ xs, SqL K H1 a' xs) ∧ R (Itl K a') H1) ∨ ((∃ xs, SqT K H1 a' xs) ∧ R (Itt K a') H1)) := by
  rcases h with h | h
  · exact ⟨a, rfl, .inl ⟨⟨_, s.seq h⟩, k _ _ walk_list fun H' s => s.seq h⟩⟩
  · exact ⟨a, rfl, .inr ⟨⟨_, Same.seqT s h⟩, k _ _ walk_tup fun H' s => Same.seqT s h⟩⟩
/-- two lists, or two tuples -/
def SqV2 (K : PySem.W.Frag) (H : Hp) (a b : Addr) (xs ys : List V) : Prop := (SqL K H a xs ∧ SqL K H b ys) ∨ (SqT K H a xs ∧ SqT K H b ys)
theorem zip_of {R : It → Hp → Prop} (h : SqV2 K H1 a b xs ys) (k : ∀ (J : It) (G : Hp → Prop), Walk J (min xs.length ys.length) G (YPair (fun i => xs[i]?) (fun i => ys[i]?)) → (∀ H', Same H1 H' → G H') → R J H1) :
    ∃ a' b' xs ys, [V.ref a, V.ref b] = [.ref a', .ref b'] ∧ ((SqL K H1 a' xs ∧ SqL K H1 b' ys ∧ R (Itz K a' b') H1) ∨ (SqT K H1 a' xs ∧ SqT K H1 b' ys ∧ R (ItzT K a' b') H1)) := by
  rcases h with h | h
  · exact ⟨a, b, xs, ys, rfl, .inl ⟨h.1, h.2, k _ _ (walk_zip rfl) fun H' s => ⟨s.seq h.1, s.seq h.2⟩⟩⟩
  · exact ⟨a, b, xs, ys, rfl, .inr ⟨h.1, h.2, k _ _ (walk_zipT rfl) fun H' s => ⟨Same.seqT s h.1, Same.seqT s h.2⟩⟩⟩
/-- a slice of a list or a tuple -/
def rSlV (K : PySem.W.Frag) : V → Option Int → Option Int → Hp → VK → Prop := fun x lo hi H Q => ∃ a xs, x = .ref a ∧ SqV K H a xs ∧ ∀ (H' : Hp) (p : Addr), Same H H' → SqV2 K H' a p xs (cutV xs lo hi) → Q (.ref p) H'
theorem cut_whole {lo hi : Option Int} (h : HT.sIx xs.length 0 lo = 0 ∧ HT.sIx xs.length xs.length hi = xs.length) : cutV xs lo hi = xs := by
  unfold cutV
  rw [h.1, h.2, List.drop_zero, Nat.sub_zero, List.take_length]
theorem sl_seqK {X : Cx} (hK : X.K = K) : SlR X (rSlV K) := by
  subst hK
  intro pins s σ H x v vl vu lo hi sl Q I rx hs pl pu h
  refine (sl_list.or sl_tupA) pins s σ H x v vl vu lo hi sl Q I rx hs pl pu ?_
  obtain ⟨a, xs, rfl, hS, q⟩ := h
  rcases hS with hS | hS
  · exact .inl ⟨a, xs, rfl, hS, fun p np => q _ p (same_upd np) (.inl ⟨(same_upd np).seq hS, SqL.of upd_same⟩)⟩
  · exact .inr ⟨a, xs, rfl, hS, fun e => q _ a (Same.refl _) (.inr ⟨hS, by rw [cut_whole e]; exact hS⟩), fun _ p np => q _ p (same_upd np) (.inr ⟨Same.seqT (same_upd np) hS, SqT.of upd_same⟩)⟩
end
section
variable {J : It} {n : Nat} {G : Hp → Prop} {Y : Nat → Hp → V → Hp → Prop}
theorem lc2_in (w : Walk J n G Y) {g1 : TG} {tt1 : TT} {te : TE} {vs1 : List Nat} {σ2 : L2.St} {H4 : Hp} {D : Addr} {Nx : Hp → Prop} (Pv : Nat → Hp → Prop) (h0 : Pv 0 H4) (hG : ∀ i H, i ≤ n → Pv i H → G H)
    (hs : ∀ i x H H', i < n → Pv i H → Y i H x H' → g1 x (wipe σ2 vs1) H' fun σ3 H5 => wipe σ3 vs1 = wipe σ2 vs1 ∧ tt1 σ3 H5 fun b H6 =>
      if b = true then te σ3 H6 fun y H7 => ∃ acc, H7 D = some (.lst acc) ∧ acc.length < sizeLine ∧ Pv (i + 1) (upd H7 D (.lst (acc ++ [y]))) else Pv (i + 1) H6) (hd : ∀ H, Pv n H → Nx H) :
    ∃ W1 : Nat → Nat → Hp → Prop, (∃ m, W1 0 m H4) ∧ ∀ j k H, W1 j k H →
      (J.stop j H ∧ Nx H) ∨ (J.go j H ∧ ∃ Nx1 : Hp → Prop, (∀ H', Nx1 H' → ∃ k', k' < k ∧ W1 (j + 1) k' H') ∧ ∀ x H', J.yld j H x H' → g1 x (wipe σ2 vs1) H' fun σ3 H5 => wipe σ3 vs1 = wipe σ2 vs1 ∧ tt1 σ3 H5 fun b H6 =>
        if b = true then te σ3 H6 fun y H7 => ∃ acc, H7 D = some (.lst acc) ∧ acc.length < sizeLine ∧ Nx1 (upd H7 D (.lst (acc ++ [y]))) else Nx1 H6) := by
  refine ⟨fun i m H => m = n - i ∧ i ≤ n ∧ Pv i H, ⟨n, by simp, Nat.zero_le _, h0⟩, ?_⟩
  rintro i m H ⟨rfl, hi, p⟩
  have q := hG i H hi p
  by_cases hlt : i < n
  · exact .inr ⟨w.goes i H hlt q, Pv (i + 1), fun H' p' => ⟨n - (i + 1), by omega, rfl, hlt, p'⟩, fun x H' y => hs i x H H' hlt p (w.yields i H x H' hlt q y)⟩
  · have e : i = n := by omega
    subst e
    exact .inl ⟨w.stops H q, hd H p⟩
theorem lc2_it (w : Walk J n G Y) {g : TG} {tt : TT} {wi1 : TI} {g1 : TG} {tt1 : TT} {te : TE} {vs vs1 : List Nat} {σ : L2.St} {H1 : Hp} {D : Addr} {Qd : Hp → Prop} (Pv : Nat → Hp → Prop) (h0 : Pv 0 (upd H1 D (.lst []))) (hG : ∀ i H, i ≤ n → Pv i H → G H)
    (hs : ∀ i x H H', i < n → Pv i H → Y i H x H' → g x (wipe σ vs) H' fun σ2 H2 => wipe σ2 vs = wipe σ vs ∧ tt σ2 H2 fun b H3 =>
      if b = true then wi1 σ2 H3 fun J1 H4 => ∃ W1 : Nat → Nat → Hp → Prop, (∃ m, W1 0 m H4) ∧ ∀ j k H, W1 j k H →
        (J1.stop j H ∧ Pv (i + 1) H) ∨ (J1.go j H ∧ ∃ Nx1 : Hp → Prop, (∀ H', Nx1 H' → ∃ k', k' < k ∧ W1 (j + 1) k' H') ∧ ∀ x H', J1.yld j H x H' → g1 x (wipe σ2 vs1) H' fun σ3 H5 => wipe σ3 vs1 = wipe σ2 vs1 ∧ tt1 σ3 H5 fun b H6 =>
          if b = true then te σ3 H6 fun y H7 => ∃ acc, H7 D = some (.lst acc) ∧ acc.length < sizeLine ∧ Nx1 (upd H7 D (.lst (acc ++ [y]))) else Nx1 H6)
      else Pv (i + 1) H3) (hd : ∀ H, Pv n H → Qd H) :
    ∃ W : Nat → Nat → Hp → Prop, (∃ m, W 0 m (upd H1 D (.lst []))) ∧ ∀ i m H, W i m H →
      (J.stop i H ∧ Qd H) ∨ (J.go i H ∧ ∃ Nx : Hp → Prop, (∀ H', Nx H' → ∃ m', m' < m ∧ W (i + 1) m' H') ∧ ∀ x H', J.yld i H x H' → g x (wipe σ vs) H' fun σ2 H2 => wipe σ2 vs = wipe σ vs ∧ tt σ2 H2 fun b H3 =>
        if b = true then wi1 σ2 H3 fun J1 H4 => ∃ W1 : Nat → Nat → Hp → Prop, (∃ m, W1 0 m H4) ∧ ∀ j k H, W1 j k H →
          (J1.stop j H ∧ Nx H) ∨ (J1.go j H ∧ ∃ Nx1 : Hp → Prop, (∀ H', Nx1 H' → ∃ k', k' < k ∧ W1 (j + 1) k' H') ∧ ∀ x H', J1.yld j H x H' → g1 x (wipe σ2 vs1) H' fun σ3 H5 => wipe σ3 vs1 = wipe σ2 vs1 ∧ tt1 σ3 H5 fun b H6 =>
            if b = true then te σ3 H6 fun y H7 => ∃ acc, H7 D = some (.lst acc) ∧ acc.length < sizeLine ∧ Nx1 (upd H7 D (.lst (acc ++ [y]))) else Nx1 H6)
        else Nx H3) := by
  refine ⟨fun i m H => m = n - i ∧ i ≤ n ∧ Pv i H, ⟨n, by simp, Nat.zero_le _, h0⟩, ?_⟩
  rintro i m H ⟨rfl, hi, p⟩
  have q := hG i H hi p
  by_cases hlt : i < n
  · exact .inr ⟨w.goes i H hlt q, Pv (i + 1), fun H' p' => ⟨n - (i + 1), by omega, rfl, hlt, p'⟩, fun x H' y => hs i x H H' hlt p (w.yields i H x H' hlt q y)⟩
  · have e : i = n := by omega
    subst e
    exact .inl ⟨w.stops H q, hd H p⟩
end
end Vf
set_option Elab.async false
set_option linter.all false
set_option maxRecDepth 100000
set_option maxHeartbeats 4000000
/-! data off some cells that move; comprehensions that grow data. -/
namespace Vf
open PySem PySem.Spec PyProof.Rows L2 RZ
/-- all but S is as it was -/
def Kb (S : List Addr) (H H' : Hp) : Prop := ∀ b o, H b = some o → b ∉ S → H' b = some o
theorem Kb.refl {S : List Addr} {H : Hp} : Kb S H H := fun _ _ e _ => e
theorem Kb.trans {S : List Addr} {H H1 H2 : Hp} (a : Kb S H H1) (b : Kb S H1 H2) : Kb S H H2 := fun c o e n => b c o (a c o e n) n
theorem Kb.ofSame {S : List Addr} {H H1 : Hp} (s : Same H H1) : Kb S H H1 := fun c o e _ => s c o e
theorem Kb.same {S : List Addr} {H H1 H2 : Hp} (a : Kb S H H1) (s : Same H1 H2) : Kb S H H2 := a.trans (.ofSame s)
theorem Kb.mono {S S' : List Addr} {H H1 : Hp} (a : Kb S H H1) (h : ∀ x ∈ S, x ∈ S') : Kb S' H H1 := fun c o e n => a c o e fun z => n (h c z)
theorem Kb.cons {S : List Addr} {x : Addr} {H H1 : Hp} (a : Kb S H H1) : Kb (x :: S) H H1 := a.mono fun _ h => List.mem_cons_of_mem _ h
theorem Kb.put {S : List Addr} {p : Addr} {o : HO} {H H1 : Hp} (a : Kb S H H1) (n : H p = none) : Kb S H (upd H1 p o) := fun c u e h => by
  rw [upd_ne (ne_of_none e n)]; exact a c u e h
theorem Kb.set {S : List Addr} {p : Addr} {o : HO} {H H1 : Hp} (a : Kb S H H1) (h : p ∈ S) : Kb S H (upd H1 p o) := fun c u e n => by
  rw [upd_ne (fun z => n (by rw [z]; exact h))]; exact a c u e n
theorem Kb.drop {S : List Addr} {x : Addr} {H H1 : Hp} (a : Kb (x :: S) H H1) (n : H x = none) : Kb S H H1 := fun c o e h => a c o e fun z => by
  rcases List.mem_cons.mp z with z | z
  · rw [z, n] at e; cases e
  · exact h z
theorem Kb.toSame {H H1 : Hp} (a : Kb [] H H1) : Same H H1 := fun c o e => a c o e fun z => nomatch z
def RpO (S : List Addr) (K : PySem.W.Frag) (H : Hp) (v : V) (d : Dt) : Prop := ∀ H', Kb S H H' → Rp K H' v d
def RpLO (S : List Addr) (K : PySem.W.Frag) (H : Hp) (v : List V) (d : List Dt) : Prop := ∀ H', Kb S H H' → RpL K H' v d
section
variable {S : List Addr} {K : PySem.W.Frag} {H H1 : Hp}
theorem RpO.rp {v : V} {d : Dt} (r : RpO S K H v d) : Rp K H v d := r H .refl
theorem RpLO.rp {v : List V} {d : List Dt} (r : RpLO S K H v d) : RpL K H v d := r H .refl
theorem RpO.kb {v : V} {d : Dt} (r : RpO S K H v d) (k : Kb S H H1) : RpO S K H1 v d := fun H' k' => r H' (k.trans k')
theorem RpLO.kb {v : List V} {d : List Dt} (r : RpLO S K H v d) (k : Kb S H H1) : RpLO S K H1 v d := fun H' k' => r H' (k.trans k')
theorem RpO.less {S' : List Addr} {v : V} {d : Dt} (r : RpO S K H v d) (h : ∀ x ∈ S', x ∈ S) : RpO S' K H v d := fun H' k' => r H' (k'.mono h)
theorem RpLO.less {S' : List Addr} {v : List V} {d : List Dt} (r : RpLO S K H v d) (h : ∀ x ∈ S', x ∈ S) : RpLO S' K H v d := fun H' k' => r H' (k'.mono h)
theorem RpO.int (i : Int) : RpO S K H (.int i) (.int i) := fun _ _ => .int i
theorem RpO.bl (b : Bool) : RpO S K H (.bl b) (.bl b) := fun _ _ => .bl b
theorem RpO.non : RpO S K H .non .non := fun _ _ => .non
theorem RpO.str (z : Str) : RpO S K H (.str z) (.str z) := fun _ _ => .str z
theorem RpO.lst {p : Addr} {xs : List V} {l : List Dt} (hp : H p = some (.lst xs)) (n : p ∉ S) (r : RpLO S K H xs l) : RpO S K H (.ref p) (.lst l) := fun H' k => .lst (SqL.of (k _ _ hp n)) (r H' k)
theorem RpO.tup {p : Addr} {xs : List V} {l : List Dt} (hp : H p = some (.tup xs)) (n : p ∉ S) (r : RpLO S K H xs l) : RpO S K H (.ref p) (.tup l) := fun H' k => .tup (SqT.of (k _ _ hp n)) (r H' k)
theorem RpLO.nil : RpLO S K H [] [] := fun _ _ => .nil
theorem RpLO.cons {v : V} {d : Dt} {vs : List V} {ds : List Dt} (r : RpO S K H v d) (q : RpLO S K H vs ds) : RpLO S K H (v :: vs) (d :: ds) := fun H' k => .cons (r H' k) (q H' k)
theorem rpl_app : ∀ {vs vs' : List V} {ds ds' : List Dt}, RpL K H vs ds → RpL K H vs' ds' → RpL K H (vs ++ vs') (ds ++ ds')
  | _, _, _, _, .nil, r => r
  | _, _, _, _, .cons h q, r => .cons h (rpl_app q r)
theorem RpLO.append {vs vs' : List V} {ds ds' : List Dt} (r : RpLO S K H vs ds) (q : RpLO S K H vs' ds') : RpLO S K H (vs ++ vs') (ds ++ ds') := fun H' k => rpl_app (r H' k) (q H' k)
theorem RpLO.length {vs : List V} {ds : List Dt} (r : RpLO S K H vs ds) : vs.length = ds.length := r.rp.length
theorem rpl_get : ∀ {v : List V} {d : List Dt} {i : Nat} {y : Dt}, RpL K H v d → d[i]? = some y → ∃ x, v[i]? = some x ∧ Rp K H x y
  | _, _, _, _, .nil, e => by simp at e
  | _, _, 0, _, .cons h _, e => by
    obtain rfl := Option.some.inj e
    exact ⟨_, rfl, h⟩
  | _, _, i + 1, y, .cons _ r, e => rpl_get (i := i) (y := y) r e
theorem rpl_intsV : ∀ ns : List Int, RpL K H (ns.map V.int) (ns.map Dt.int)
  | [] => .nil
  | n :: ns => .cons (.int n) (rpl_intsV ns)
theorem RpLO.ints (ns : List Int) : RpLO S K H (ns.map V.int) (ns.map Dt.int) := fun _ _ => rpl_intsV ns
theorem rpl_ints : ∀ {xs : List V} {ns : List Int}, RpL K H xs (ns.map Dt.int) → xs = ns.map V.int
  | _, [], r => by cases r; rfl
  | _, n :: ns, r => by
    cases r with
    | cons h q =>
      cases h
      rw [rpl_ints q]; rfl
theorem rpl_bls : ∀ {xs : List V} {ns : List Bool}, RpL K H xs (ns.map Dt.bl) → xs = ns.map V.bl
  | _, [], r => by cases r; rfl
  | _, n :: ns, r => by
    cases r with
    | cons h q =>
      cases h
      rw [rpl_bls q]; rfl
/-- a list of ints at an address -/
theorem rp_intL {v : V} {ns : List Int} (r : Rp K H v (.lst (ns.map Dt.int))) : ∃ a, v = .ref a ∧ SqL K H a (ns.map V.int) := by
  cases r with
  | lst h q => exact ⟨_, rfl, by rw [← rpl_ints q]; exact h⟩
theorem rp_intT {v : V} {ns : List Int} (r : Rp K H v (.tup (ns.map Dt.int))) : ∃ a, v = .ref a ∧ SqT K H a (ns.map V.int) := by
  cases r with
  | tup h q => exact ⟨_, rfl, by rw [← rpl_ints q]; exact h⟩
theorem rp_lst {v : V} {l : List Dt} (r : Rp K H v (.lst l)) : ∃ a xs, v = .ref a ∧ SqL K H a xs ∧ RpL K H xs l := by
  cases r with
  | lst h q => exact ⟨_, _, rfl, h, q⟩
theorem rp_tup {v : V} {l : List Dt} (r : Rp K H v (.tup l)) : ∃ a xs, v = .ref a ∧ SqT K H a xs ∧ RpL K H xs l := by
  cases r with
  | tup h q => exact ⟨_, _, rfl, h, q⟩
end
theorem list_det {α : Type} {l ds : List α} (hl : l.length = ds.length) (h : ∀ (i : Nat) (d : α), l[i]? = some d → ds[i]? = some d) : l = ds := by
  refine List.ext_getElem hl fun i h1 h2 => ?_
  have := h i _ (List.getElem?_eq_getElem h1)
  rw [List.getElem?_eq_getElem h2] at this
  exact (Option.some.inj this).symm
theorem map_of {α β : Type} {f : α → β} {P : α → Prop} : ∀ {l : List β}, (∀ (j : Nat) (d : β), l[j]? = some d → ∃ c, d = f c ∧ P c) → ∃ m : List α, l = m.map f ∧ ∀ c ∈ m, P c
  | [], _ => ⟨[], rfl, fun _ z => nomatch z⟩
  | b :: l, h => by
    obtain ⟨m, e, hm⟩ := map_of (l := l) fun j d e => h (j + 1) d (by simpa using e)
    obtain ⟨c, rfl, hc⟩ := h 0 b rfl
    refine ⟨c :: m, by rw [e]; rfl, fun x hx => ?_⟩
    rcases List.mem_cons.mp hx with rfl | hx
    · exact hc
    · exact hm x hx
/-- a list at D that grows, its items data -/
def Grow (K : PySem.W.Frag) (S : List Addr) (Iv : Hp → Prop) (P : Nat → Dt → Prop) (D : Addr) (H1 : Hp) (i : Nat) (H' : Hp) : Prop :=
  Kb S H1 H' ∧ Iv H' ∧ ∃ (xs : List V) (l : List Dt), H' D = some (.lst xs) ∧ l.length = i ∧ (∀ (j : Nat) (d : Dt), l[j]? = some d → P j d) ∧ RpLO (D :: S) K H' xs l
section
variable {K : PySem.W.Frag} {S : List Addr} {Iv : Hp → Prop} {P : Nat → Dt → Prop} {D : Addr} {H1 H' H4 : Hp} {i : Nat}
theorem Grow.start (nD : H1 D = none) (iv : Iv (upd H1 D (.lst []))) : Grow K S Iv P D H1 0 (upd H1 D (.lst [])) := ⟨Kb.refl.put nD, iv, [], [], upd_same, rfl, (fun j d e => by simp at e), .nil⟩
theorem Grow.kb (g : Grow K S Iv P D H1 i H') : Kb S H1 H' := g.1
theorem Grow.iv (g : Grow K S Iv P D H1 i H') : Iv H' := g.2.1
theorem Grow.at_ (g : Grow K S Iv P D H1 i H') : ∃ xs, H' D = some (.lst xs) := let ⟨_, _, xs, _, e, _⟩ := g; ⟨xs, e⟩
theorem Grow.ne (g : Grow K S Iv P D H1 i H') {p : Addr} (n : H' p = none) : p ≠ D := fun z => by obtain ⟨xs, e⟩ := g.at_; rw [z, e] at n; cases n
theorem Grow.step (g : Grow K S Iv P D H1 i H') (nD : H1 D = none) (DS : D ∉ S) (hi : i < 1000) (kb4 : Kb S H' H4) {y : V} {d : Dt} (hp : P i d) (r4 : RpO (D :: S) K H4 y d) (iv : ∀ acc, Iv (upd H4 D (.lst acc))) :
    ∃ acc, H4 D = some (.lst acc) ∧ acc.length < sizeLine ∧ Grow K S Iv P D H1 (i + 1) (upd H4 D (.lst (acc ++ [y]))) := by
  obtain ⟨kb, iv', xs, l, hD, hl, hP, hR⟩ := g
  refine ⟨xs, kb4 _ _ hD DS, ?_, (kb.trans kb4).put nD, iv _, xs ++ [y], l ++ [d], upd_same, by rw [List.length_append, hl]; rfl, fun j d' e => ?_, ?_⟩
  · rw [hR.length, hl]
    exact Nat.lt_of_lt_of_le (show i < 1000 by omega) (by decide)
  · by_cases hj : j < l.length
    · rw [List.getElem?_append_left hj] at e
      exact hP j d' e
    · rw [List.getElem?_append_right (by omega)] at e
      have hj0 : j - l.length = 0 := by
        cases q : j - l.length with
        | zero => rfl
        | succ k => rw [q] at e; simp at e
      rw [hj0] at e
      obtain rfl := Option.some.inj e
      have : j = i := by omega
      subst this
      exact hp
  · have k5 : Kb (D :: S) H4 (upd H4 D (.lst (xs ++ [y]))) := Kb.refl.set List.mem_cons_self
    exact ((hR.kb kb4.cons).kb k5).append (.cons (r4.kb k5) .nil)
theorem Grow.fin (g : Grow K S Iv P D H1 i H') : ∃ (xs : List V) (l : List Dt), H' D = some (.lst xs) ∧ l.length = i ∧ (∀ (j : Nat) (d : Dt), l[j]? = some d → P j d) ∧ RpLO (D :: S) K H' xs l := g.2.2
/-- the items are told one by one -/
theorem Grow.det {ds : List Dt} (g : Grow K S Iv (fun i d => ds[i]? = some d) D H1 ds.length H') : ∃ xs : List V, H' D = some (.lst xs) ∧ RpLO (D :: S) K H' xs ds := by
  obtain ⟨xs, l, e, hl, hP, hR⟩ := g.fin
  obtain rfl := list_det hl hP
  exact ⟨xs, e, hR⟩
theorem Grow.detN {ds : List Dt} {n : Nat} (h : n = ds.length) (g : Grow K S Iv (fun i d => ds[i]? = some d) D H1 n H') : ∃ xs : List V, H' D = some (.lst xs) ∧ RpLO (D :: S) K H' xs ds := by
  subst h; exact g.det
end
/-! ### rules that name the written part by a letter -/
section
variable {X : Cx} {K : PySem.W.Frag}
theorem pg_tupK {es : List Expr} {k : Nat} {t : TGs} {n : Nat} {pos : Pos} (hK : X.K = K) (hc : X.calm = true) (h : PGs X es t) (hn : (assignEach es X.env).length = n := by rfl) (hst : (assignEach es X.env).findIdx? (·.1) = none := by rfl) : PG X (.Tuple es k pos) (gTup K n t) := by
  subst hK; exact pg_tup hc h hn hst
theorem op_inK (hK : X.K = K) : OpR X (compareOp .In) (rIn K false) := by subst hK; exact op_in_seq
theorem op_notInK (hK : X.K = K) : OpR X (compareOp .NotIn) (rIn K true) := by subst hK; exact op_notIn_seq
end
def _root_.Vf.Dt.isStr : Dt → Bool
  | .str _ => true
  | _ => false
theorem isa_str : ∀ d : Dt, kitB d.ty "str" = some d.isStr
  | .non => show kitB "NoneType" "str" = some false by decide +kernel
  | .bl _ => show kitB "bool" "str" = some false by decide +kernel
  | .int _ => show kitB "int" "str" = some false by decide +kernel
  | .str _ => show kitB "str" "str" = some true by decide +kernel
  | .lst _ => show kitB "list" "str" = some false by decide +kernel
  | .tup _ => show kitB "tuple" "str" = some false by decide +kernel
  | .dct _ => show kitB "dict" "str" = some false by decide +kernel
/-! ### readings closed under weaker wishes; walks by one word -/
def tmE (t : TE) : TE := fun σ H Q => ∃ Q0 : VK, t σ H Q0 ∧ ∀ x H1, Q0 x H1 → Q x H1
def tmA (t : TA) : TA := fun σ H Q => ∃ Q0 : List V → Hp → Prop, t σ H Q0 ∧ ∀ x H1, Q0 x H1 → Q x H1
theorem pe_mono {X : Cx} {e : Expr} {t : TE} (h : PE X e t) : PE X e (tmE t) := ⟨fun pins s σ H Q I ⟨Q0, q, k⟩ => thn (h.run pins s σ H Q0 I q) fun u s1 ⟨v, H1, I1, r1, q1⟩ => ⟨v, H1, I1, r1, k _ _ q1⟩⟩
theorem pa_mono {X : Cx} {e : List Expr} {t : TA} (h : PA X e t) : PA X e (tmA t) := ⟨fun pos pins s σ H Q I ⟨Q0, q, k⟩ => thn (h.run pos pins s σ H Q0 I q) fun u s1 ⟨v, H1, I1, r1, q1⟩ => ⟨v, H1, I1, r1, k _ _ q1⟩⟩
theorem pi_imp {X : Cx} {tg l : Expr} {t t' : TI} (h : PI X tg l t) (i : ∀ σ H R, t' σ H R → t σ H R) : PI X tg l t' := ⟨fun pins s σ H R I q => h.run pins s σ H R I (i _ _ _ q)⟩
def SeqAsk (K : PySem.W.Frag) (R : It → Hp → Prop) : VK := fun x H1 => ∃ (a : Addr) (xs : List V), x = .ref a ∧ SqV K H1 a xs ∧ ∀ (J : It) (G : Hp → Prop), Walk J xs.length G (YAt xs) → (∀ H', Same H1 H' → G H') → R J H1
def iSeqV (K : PySem.W.Frag) (tl : TE) : TI := fun σ H R => tl σ H (SeqAsk K R)
theorem pi_seqV {X : Cx} {K : PySem.W.Frag} {tg l : Expr} {tl : TE} (hK : X.K = K) (hl : PE X l tl) : PI X tg l (iSeqV K tl) := by
  subst hK
  refine pi_imp (pi_seq (pe_mono hl)) fun σ H R q => ⟨_, q, fun x H1 ⟨a, xs, e, h, k⟩ => ?_⟩
  subst e
  exact seq_of h k
/-- the same, of what was there in an earlier heap -/
def SeqAskW (K : PySem.W.Frag) (R : It → Hp → Prop) : VK := fun x H1 => ∃ (a : Addr) (xs : List V) (H0 : Hp), x = .ref a ∧ SqV K H0 a xs ∧ Same H0 H1 ∧ ∀ (J : It) (G : Hp → Prop), Walk J xs.length G (YAt xs) → (∀ H', Same H0 H' → G H') → R J H1
def iSeqW (K : PySem.W.Frag) (tl : TE) : TI := fun σ H R => tl σ H (SeqAskW K R)
theorem pi_seqW {X : Cx} {K : PySem.W.Frag} {tg l : Expr} {tl : TE} (hK : X.K = K) (hl : PE X l tl) : PI X tg l (iSeqW K tl) := by
  subst hK
  refine pi_imp (pi_seq (pe_mono hl)) fun σ H R q => ⟨_, q, fun x H1 ⟨a, xs, H0, e, h, s, k⟩ => ?_⟩
  subst e
  exact seq_at h s k
def ZipAsk (K : PySem.W.Frag) (R : It → Hp → Prop) : List V → Hp → Prop := fun vs H1 => ∃ (a b : Addr) (xs ys : List V), vs = [.ref a, .ref b] ∧ SqV2 K H1 a b xs ys ∧ ∀ (J : It) (G : Hp → Prop), Walk J (min xs.length ys.length) G (YPair (fun i => xs[i]?) (fun i => ys[i]?)) → (∀ H', Same H1 H' → G H') → R J H1
def iZipV (K : PySem.W.Frag) (ta : TA) : TI := fun σ H R => ta σ H (ZipAsk K R)
theorem pi_zipV {X : Cx} {K : PySem.W.Frag} {e e2 : Expr} {ta : TA} {p pos tpos : Pos} {elts : List Expr} {kk : Nat} (hK : X.K = K) (hg : Gl X "zip") (hm : X.mg "zip" = none) (ha : PA X [e, e2] ta)
    (hs : starEach [e, e2] X.env = (false, eval e X.env) :: starEach [e2] X.env := by rfl) (hpl : (backTo pos (starEach [e2] X.env)).any (·.1) = false := by rfl) : PI X (.Tuple elts kk tpos) (.Call (.Name "zip" p) [e, e2] [] pos) (iZipV K ta) := by
  subst hK
  refine pi_imp (pi_zipA hg hm (pa_mono ha) hs hpl) fun σ H R q => ⟨_, q, fun x H1 ⟨a, b, xs, ys, e, h, k⟩ => ?_⟩
  subst e
  exact zip_of h k
end Vf
set_option Elab.async false
set_option linter.all false
set_option maxRecDepth 100000
set_option maxHeartbeats 1000000
namespace Kp15
open PySem PySem.Spec PyProof.Rows L2 Vf
def topS (i : Nat) : Stmt := PySem.Challenge.pw_exacttable_k15_texts.main.body.getD i (.Pass ⟨0, 0, 0, 0⟩)
abbrev s_is_whole : Stmt := topS 3
abbrev s_is_count : Stmt := topS 4
abbrev s_is_list : Stmt := topS 5
abbrev s_is_short_list : Stmt := topS 6
abbrev s_are_counts : Stmt := topS 7
abbrev s_has_table_form : Stmt := topS 22
abbrev s_wanted_table : Stmt := topS 23
abbrev s_row_text : Stmt := topS 26
abbrev s_table_text : Stmt := topS 27
abbrev s_is_number_text : Stmt := topS 28
abbrev s_read_number : Stmt := topS 29
abbrev s_read_row : Stmt := topS 30
abbrev s_read_table : Stmt := topS 31
abbrev s_l_cell_at : Stmt := topS 33
abbrev s_l_tape : Stmt := topS 34
abbrev s_l_digit : Stmt := topS 35
abbrev s_l_sorts : Stmt := topS 36
abbrev s_l_name : Stmt := topS 37
abbrev s_l_as : Stmt := topS 38
abbrev s_l_count : Stmt := topS 39
abbrev s_l_table : Stmt := topS 40
abbrev s_l_written : Stmt := topS 41
abbrev s_l_bad : Stmt := topS 42
abbrev s_l_sign : Stmt := topS 43
abbrev s_l_otherwise : Stmt := topS 44
abbrev s_l_is_number : Stmt := topS 45
abbrev s_l_read : Stmt := topS 46
abbrev s_l_read_right : Stmt := topS 47
abbrev s_l_refused : Stmt := topS 48
abbrev s_law : Stmt := topS 49
/-! ### what the top has written -/
structure Txt (K : PySem.W.Frag) (mg : Str → Option Value) (C : Nat → Addr) (tG tL : Tok) : Prop where
  inj : ∀ i j, i < 12 → j < 12 → C i = C j → i = j
  c_GREATEST : mg "GREATEST" = some (.int 1000000000000 tG)
  c_FIGURES : ∃ t, mg "FIGURES" = some (.str "0123456789" t)
  c_LONGEST : mg "LONGEST" = some (.int 6 tL)
  n_isinstance : mg "isinstance" = none
  n_len : mg "len" = none
  n_all : mg "all" = none
  n_range : mg "range" = none
  n_int : mg "int" = none
  n_bool : mg "bool" = none
  n_list : mg "list" = none
  n_tuple : mg "tuple" = none
  n_repr : mg "repr" = none
  n_max : mg "max" = none
  n_min : mg "min" = none
  n_zip : mg "zip" = none
  n_sum : mg "sum" = none
  n_sorted : mg "sorted" = none
  n_str : mg "str" = none
  n_enumerate : mg "enumerate" = none
  n_ValueError : mg "ValueError" = none
  TableError : ExcB K mg "TableError" (C 11)
  NoSums : ExcF K mg "NoSums" (C 0) (C 11)
  NoCaps : ExcF K mg "NoCaps" (C 1) (C 11)
  NoTable : ExcF K mg "NoTable" (C 2) (C 11)
  NoOrder : ExcF K mg "NoOrder" (C 3) (C 11)
  NoColumns : ExcF K mg "NoColumns" (C 4) (C 11)
  NoText : ExcF K mg "NoText" (C 5) (C 11)
  NoCell : ExcF K mg "NoCell" (C 6) (C 11)
  TooMany : ExcF K mg "TooMany" (C 7) (C 11)
  NoNumber : ExcF K mg "NoNumber" (C 8) (C 11)
  NoStep : ExcF K mg "NoStep" (C 9) (C 11)
  NoLine : ExcF K mg "NoLine" (C (10)) (C 11)
theorem Txt.fs {K : PySem.W.Frag} {mg : Str → Option Value} {C : Nat → Addr} {tG tL : Tok} (T : Txt K mg C tG tL) : ∀ i, i < 11 → ∃ n, ExcF K mg n (C i) (C 11)
  | 0, _ => ⟨_, T.NoSums⟩
  | 1, _ => ⟨_, T.NoCaps⟩
  | 2, _ => ⟨_, T.NoTable⟩
  | 3, _ => ⟨_, T.NoOrder⟩
  | 4, _ => ⟨_, T.NoColumns⟩
  | 5, _ => ⟨_, T.NoText⟩
  | 6, _ => ⟨_, T.NoCell⟩
  | 7, _ => ⟨_, T.TooMany⟩
  | 8, _ => ⟨_, T.NoNumber⟩
  | 9, _ => ⟨_, T.NoStep⟩
  | 10, _ => ⟨_, T.NoLine⟩
  | n + 11, h => absurd h (by omega)
theorem pe_isN {X : Cx} {C : Nat → Addr} {tG tL : Tok} {n : Str} {j i : Nat} {x : Str} {p p1 p2 pos : Pos} (T : Txt X.K X.mg C tG tL) (G : ExcF X.K X.mg n (C j) (C 11)) (hj : j < 11) (hv : PE X (.Name x p1) (tVar i)) (hc : PE X (.Name n p2) (tC (.ref (C j)))) (hg : Gl X "isinstance") (hm : X.mg "isinstance" = none)
    (he : starEach [.Name x p1, .Name n p2] X.env = (false, eval (.Name x p1) X.env) :: starEach [.Name n p2] X.env := by rfl) (he2 : starEach [.Name n p2] X.env = (false, eval (.Name n p2) X.env) :: starEach [] X.env := by rfl) (hpl : (backTo pos (starEach [.Name n p2] X.env)).any (·.1) = false := by rfl) :
    PE X (.Call (.Name "isinstance" p) [.Name x p1, .Name n p2] [] pos) (fun σ H Q => ∃ (a : Addr) (m : Nat), σ[i]? = some (some (.ref a)) ∧ m < 11 ∧ ExAt H a (C m) ∧ Q (.bl (decide (j = m))) H) := by
  refine (pe_isC G (fun z => absurd (T.inj _ _ (by omega) (by omega) z) (by omega)) hv hc hg hm he he2 hpl).imp fun σ H Q ⟨a, m, e, hm, E, q⟩ => ?_
  obtain ⟨nm, F⟩ := T.fs m hm
  have ed : decide (C j = C m) = decide (j = m) := decide_eq_decide.mpr ⟨fun z => T.inj _ _ (by omega) (by omega) z, fun z => by rw [z]⟩
  exact ⟨a, C m, nm, e, E, F, by rw [ed]; exact q⟩
theorem Txt.exm {K : PySem.W.Frag} {mg : Str → Option Value} {C : Nat → Addr} {tG tL : Tok} (T : Txt K mg C tG tL) (i j : Nat) (hi : i < 11) (hj : j < 11) : PySem.W.exmOne K (.ref (C i)) (.ref (C j)) = some (decide (j = i)) := by
  obtain ⟨n, F⟩ := T.fs i hi
  obtain ⟨m, G⟩ := T.fs j hj
  rw [exm_own F G.is G.t G.b, decide_eq_false (p := C j = C 11) (fun z => absurd (T.inj _ _ (by omega) (by omega) z) (by omega)), Bool.or_false]
  exact congrArg some (decide_eq_decide.mpr ⟨fun z => T.inj _ _ (by omega) (by omega) z, fun z => by rw [z]⟩)
theorem Txt.exmT {K : PySem.W.Frag} {mg : Str → Option Value} {C : Nat → Addr} {tG tL : Tok} (T : Txt K mg C tG tL) (i : Nat) (hi : i < 11) : PySem.W.exmOne K (.ref (C i)) (.ref (C 11)) = some true := by
  obtain ⟨n, F⟩ := T.fs i hi
  rw [exm_own F T.TableError.i T.TableError.t T.TableError.b, decide_eq_true (p := C 11 = C 11) rfl, Bool.or_true]
/-! ### the mirror of the checks -/
def isWhole : Dt → Bool
  | .int _ => true
  | _ => false
def isCount : Dt → Bool
  | .int i => decide (0 ≤ i) && decide (i ≤ 1000000000000)
  | _ => false
def isShort (d : Dt) : Bool := match d.items with
  | some l => decide (1 ≤ l.length) && decide (l.length ≤ 6)
  | none => false
def areCounts (d : Dt) : Bool := isShort d && (d.items.getD []).all isCount
theorem isWhole_eq (d : Dt) (e : d.isInt = true) : isWhole d = !d.isBool := by cases d <;> first | rfl | (cases e; done)
theorem isWhole_no (d : Dt) (e : ¬ d.isInt = true) : isWhole d = false := by cases d <;> first | rfl | (exact absurd rfl e)
theorem isCount_no (d : Dt) (e : ¬ isWhole d = true) : isCount d = false := by cases d <;> first | rfl | (exact absurd rfl e)
theorem isWhole_int (d : Dt) (e : isWhole d = true) : ∃ i, d = .int i := by cases d <;> first | exact ⟨_, rfl⟩ | (cases e; done)
theorem isCount_int (d : Dt) (e : isCount d = true) : ∃ i : Int, d = .int i ∧ 0 ≤ i ∧ i ≤ 1000000000000 := by
  cases d with
  | int i =>
    have h : (decide (0 ≤ i) && decide (i ≤ 1000000000000)) = true := e
    rw [Bool.and_eq_true, decide_eq_true_eq, decide_eq_true_eq] at h
    exact ⟨i, rfl, h.1, h.2⟩
  | _ => cases e
theorem all_counts : ∀ {l : List Dt}, l.all isCount = true → ∃ ns : List Int, l = ns.map Dt.int ∧ ∀ n ∈ ns, 0 ≤ n ∧ n ≤ 1000000000000
  | [], _ => ⟨[], rfl, fun _ h => by cases h⟩
  | d :: l, h => by
    rw [List.all_cons, Bool.and_eq_true] at h
    obtain ⟨i, rfl, h1, h2⟩ := isCount_int d h.1
    obtain ⟨ns, rfl, h3⟩ := all_counts h.2
    refine ⟨i :: ns, rfl, fun n hn => ?_⟩
    rcases List.mem_cons.mp hn with rfl | hn
    · exact ⟨h1, h2⟩
    · exact h3 n hn

/-! ### the promises -/
def sp_is_whole (K : PySem.W.Frag) : Sp := fun vs H Q _ => ∃ v d, vs = [v] ∧ Rp K H v d ∧ Q (.bl (isWhole d)) H
def sp_is_count (K : PySem.W.Frag) : Sp := fun vs H Q _ => ∃ v d, vs = [v] ∧ Rp K H v d ∧ Q (.bl (isCount d)) H
def sp_is_list (K : PySem.W.Frag) : Sp := fun vs H Q _ => ∃ v d, vs = [v] ∧ Rp K H v d ∧ ∀ H', Same H H' → Q (.bl d.items.isSome) H'
def sp_is_short_list (K : PySem.W.Frag) : Sp := fun vs H Q _ => ∃ v d, vs = [v] ∧ Rp K H v d ∧ ∀ H', Same H H' → Q (.bl (isShort d)) H'
def sp_are_counts (K : PySem.W.Frag) : Sp := fun vs H Q _ => ∃ v d, vs = [v] ∧ Rp K H v d ∧ ∀ H', Same H H' → Q (.bl (areCounts d)) H'
def sp_wanted_sums (K : PySem.W.Frag) (N0 : Addr) : Sp := fun vs H Q E => ∃ v d, vs = [v] ∧ Rp K H v d ∧ (areCounts d = false → ∀ H', Same H H' → E (.ref N0) none H') ∧
  (areCounts d = true → ∀ (ns : List Int) (H' : Hp) (p : Addr), d.items = some (ns.map Dt.int) → Same H H' → SqT K H' p (ns.map V.int) → Q (.ref p) H')
section
variable {P : Program} {w : World} {K : PySem.W.Frag} {mg : Str → Option Value} {base : Heap} {C : Nat → Addr} {tG tL : Tok}
theorem sc_is_whole : FnScope ["thing"] ["thing"] (defScope s_is_whole) :=
  ⟨rfl, rfl, rfl, by decide +kernel, rfl, by decide +kernel, by decide +kernel⟩
theorem ok_is_whole {f : Addr} {fd : FuncData} (F : Fun K "is_whole" "is_whole" s_is_whole f fd) (T : Txt K mg C tG tL) : FnOk P w K mg base CX0 1 f fd ["thing"] (sp_is_whole K) := by
  refine F.ok sc_is_whole (fun vs H Q E ⟨v, d, e, _⟩ => by rw [e]; rfl) (fun cdv A outer s H vs Q E hr h => ?_)
  obtain ⟨v, d, rfl, R, q⟩ := h
  refine ⟨_, (pss_one (ps_ret (pe_and (pe_callB (isiK (K := K) rfl) (by rfl) T.n_isinstance (by decide +kernel) (pa_cons (pv 0) (pa_cons (pe_bltn (v := .ty "int") (by rfl) T.n_int (by decide +kernel) rfl) pa_nil))) (pe_one (pe_not (pe_callB (isiK (K := K) rfl) (by rfl) T.n_isinstance (by decide +kernel) (pa_cons (pv 0) (pa_cons (pe_bltn (v := .ty "bool") (by rfl) T.n_bool (by decide +kernel) rfl) pa_nil)))))))), ?_⟩
  refine ⟨v, rfl, v, _, _, _, d.isInt, rfl, .ty _, R.ty, kit_ty (isa_int d), _, rfl, ite2 (fun e => ?_) (fun e => ?_)⟩
  · refine ⟨v, rfl, v, _, _, _, d.isBool, rfl, .ty _, R.ty, kit_ty (isa_bool d), _, rfl, ?_⟩
    rw [isWhole_eq d e] at q
    exact q
  · rw [isWhole_no d e] at q
    exact q
theorem sc_is_count : FnScope ["thing"] ["thing"] (defScope s_is_count) :=
  ⟨rfl, rfl, rfl, by decide +kernel, rfl, by decide +kernel, by decide +kernel⟩
theorem ok_is_count {f : Addr} {fd : FuncData} (F : Fun K "is_count" "is_count" s_is_count f fd) (T : Txt K mg C tG tL) (c_is_whole : Cal P w K mg base CX0 1 "is_whole" ["thing"] (sp_is_whole K)) : FnOk P w K mg base CX0 2 f fd ["thing"] (sp_is_count K) := by
  refine F.ok sc_is_count (fun vs H Q E ⟨v, d, e, _⟩ => by rw [e]; rfl) (fun cdv A outer s H vs Q E hr h => ?_)
  obtain ⟨v, d, rfl, R, q⟩ := h
  refine ⟨_, (pss_one (ps_ret (pe_and (pe_cal c_is_whole (hr.mono (by decide)) (by rfl) pass0 (pa_cons (pv 0) pa_nil)) (pe_one (pe_chain op_le op_le pe_int (pv 0) (pe_glob (v := .int 1000000000000) (by rfl) T.c_GREATEST ⟨_, rfl⟩)))))), ?_⟩
  refine ⟨v, rfl, v, d, rfl, R, _, rfl, ite2 (fun e => ?_) (fun e => ?_)⟩
  · obtain ⟨i, rfl⟩ := isWhole_int d e
    cases R
    refine ⟨.int i, rfl, 0, i, rfl, rfl, _, rfl, ite2 (fun e => ?_) (fun e => ?_)⟩
    · refine ⟨i, 1000000000000, rfl, rfl, ?_⟩
      have h : isCount (.int i) = decide (i ≤ 1000000000000) := by show (decide (0 ≤ i) && decide (i ≤ 1000000000000)) = _; rw [e, Bool.true_and]
      rw [h] at q
      exact q
    · have h : isCount (.int i) = false := by
        show (decide (0 ≤ i) && decide (i ≤ 1000000000000)) = _
        rw [Bool.eq_false_iff.mpr e, Bool.false_and]
      rw [h] at q
      exact q
  · rw [isCount_no d e] at q
    exact q
theorem sc_is_list : FnScope ["thing"] ["thing"] (defScope s_is_list) :=
  ⟨rfl, rfl, rfl, by decide +kernel, rfl, by decide +kernel, by decide +kernel⟩
theorem ok_is_list {f : Addr} {fd : FuncData} (F : Fun K "is_list" "is_list" s_is_list f fd) (T : Txt K mg C tG tL) : FnOk P w K mg base CX0 1 f fd ["thing"] (sp_is_list K) := by
  refine F.ok sc_is_list (fun vs H Q E ⟨v, d, e, _⟩ => by rw [e]; rfl) (fun cdv A outer s H vs Q E hr h => ?_)
  obtain ⟨v, d, rfl, R, q⟩ := h
  refine ⟨_, (pss_one (ps_ret (pe_callB (isiTK (K := K) rfl) (by rfl) T.n_isinstance (by decide +kernel) (pa_cons (pv 0) (pa_cons (pe_tup (pa_cons (pe_bltn (v := .ty "list") (by rfl) T.n_list (by decide +kernel) rfl) (pa_cons (pe_bltn (v := .ty "tuple") (by rfl) T.n_tuple (by decide +kernel) rfl) pa_nil))) pa_nil))))), ?_⟩
  refine ⟨v, rfl, (by show 2 ≤ sizeLine; decide), fun p np => ?_⟩
  exact ⟨v, p, _, _, _, _, rfl, upd_same, .cons (.ty "list") (.cons (.ty "tuple") .nil), (R.same (same_upd np)).ty, isa_seq d, q _ (same_upd np)⟩
theorem sc_is_short_list : FnScope ["thing"] ["thing"] (defScope s_is_short_list) :=
  ⟨rfl, rfl, rfl, by decide +kernel, rfl, by decide +kernel, by decide +kernel⟩
theorem ok_is_short_list {f : Addr} {fd : FuncData} (F : Fun K "is_short_list" "is_short_list" s_is_short_list f fd) (T : Txt K mg C tG tL) (c_is_list : Cal P w K mg base CX0 1 "is_list" ["thing"] (sp_is_list K)) : FnOk P w K mg base CX0 2 f fd ["thing"] (sp_is_short_list K) := by
  refine F.ok sc_is_short_list (fun vs H Q E ⟨v, d, e, _⟩ => by rw [e]; rfl) (fun cdv A outer s H vs Q E hr h => ?_)
  obtain ⟨v, d, rfl, R, q⟩ := h
  refine ⟨_, (pss_one (ps_ret (pe_and (pe_cal c_is_list (hr.mono (by decide)) (by rfl) pass0 (pa_cons (pv 0) pa_nil)) (pe_one (pe_chain op_le op_le pe_int (pe_callB (len_ofK (K := K) rfl) (by rfl) T.n_len (by decide +kernel) (pa_cons (pv 0) pa_nil)) (pe_glob (v := .int 6) (by rfl) T.c_LONGEST ⟨_, rfl⟩)))))), ?_⟩
  refine ⟨v, rfl, v, d, rfl, R, fun H1 s1 => ⟨_, rfl, ite2 (fun e => ?_) (fun e => ?_)⟩⟩
  · obtain ⟨l, el⟩ := Option.isSome_iff_exists.mp e
    obtain ⟨a, xs, rfl, hS, hR⟩ := R.items_some el
    have hlen := hR.length
    have hq : isShort d = (decide (1 ≤ l.length) && decide (l.length ≤ 6)) := by unfold isShort; rw [el]
    refine ⟨.ref a, rfl, a, xs, rfl, hS.same s1, 1, _, rfl, rfl, _, rfl, ite2 (fun e => ?_) (fun e => ?_)⟩
    · refine ⟨_, 6, rfl, rfl, ?_⟩
      have e1 : 1 ≤ l.length := by have := of_decide_eq_true e; omega
      have e2 : decide (((xs.length : Nat) : Int) ≤ 6) = decide (l.length ≤ 6) := by rw [hlen]; exact decide_eq_decide.mpr ⟨fun z => by omega, fun z => by omega⟩
      have q2 := q H1 s1
      rw [hq, decide_eq_true e1, Bool.true_and, ← e2] at q2
      exact q2
    · have e1 : ¬ 1 ≤ l.length := fun z => e (decide_eq_true (by omega))
      have q2 := q H1 s1
      rw [hq, decide_eq_false e1, Bool.false_and] at q2
      exact q2
  · have hq : isShort d = false := by
      unfold isShort
      cases z : d.items with
      | none => rfl
      | some l => rw [z] at e; exact absurd rfl e
    have q2 := q H1 s1
    rw [hq] at q2
    exact q2
theorem sc_are_counts : FnScope ["thing", "item"] ["thing"] (defScope s_are_counts) :=
  ⟨rfl, rfl, rfl, by decide +kernel, rfl, by decide +kernel, by decide +kernel⟩
theorem ok_are_counts {f : Addr} {fd : FuncData} (F : Fun K "are_counts" "are_counts" s_are_counts f fd) (T : Txt K mg C tG tL) (c_is_short_list : Cal P w K mg base CX0 2 "is_short_list" ["thing"] (sp_is_short_list K)) (c_is_count : Cal P w K mg base CX0 2 "is_count" ["thing"] (sp_is_count K)) :
    FnOk P w K mg base CX0 3 f fd ["thing"] (sp_are_counts K) := by
  refine F.ok sc_are_counts (fun vs H Q E ⟨v, d, e, _⟩ => by rw [e]; rfl) (fun cdv A outer s H vs Q E hr h => ?_)
  obtain ⟨v, d, rfl, R, q⟩ := h
  refine ⟨_, (pss_one (ps_ret (pe_and (pe_cal c_is_short_list (hr.mono (by decide)) (by rfl) pass0 (pa_cons (pv 0) pa_nil)) (pe_one (pe_callB (allK (K := K) rfl rfl) (by rfl) T.n_all (by decide +kernel) (pa_cons (pe_lcS (own := [("item", 1)]) (by rfl) sc_are_counts.nd (pv 0) mono_var (blkOk_by (own := [("item", 1)]) (N := ["thing", "item"]) (sc := defScope s_are_counts) (by decide +kernel)) (fun _ _ _ _ _ => (pg_name (i := 1) sc_are_counts.nd rfl (by first | exact Or.inl rfl | exact Or.inr rfl))) (fun _ _ _ _ _ => pts_nil) (fun _ _ _ _ _ => (pe_cal c_is_count (hr.mono (by decide)) (by rfl) pass0 (pa_cons (pv 1) pa_nil)))) pa_nil)))))), ?_⟩
  refine ⟨v, rfl, v, d, rfl, R, fun H1 s1 => ⟨_, rfl, ite2 (fun e => ?_) (fun e => ?_)⟩⟩
  · obtain ⟨l, el⟩ : ∃ l, d.items = some l := by
      cases z : d.items with
      | some l => exact ⟨l, rfl⟩
      | none =>
        unfold isShort at e
        rw [z] at e
        cases e
    obtain ⟨a, xs, rfl, hS, hR⟩ := (R.same s1).items_some el
    have hlen := hR.length
    have short : l.length ≤ 6 := by
      unfold isShort at e
      rw [el] at e
      have e : (decide (1 ≤ l.length) && decide (l.length ≤ 6)) = true := e
      rw [Bool.and_eq_true, decide_eq_true_eq, decide_eq_true_eq] at e
      exact e.2
    have hq : areCounts d = l.all isCount := by unfold areCounts; rw [e, el]; rfl
    refine ⟨.ref a, rfl, a, xs, (fun D i H' => Same H1 H' ∧ H' D = some (.lst (((l.take i).map isCount).map V.bl))), rfl, hS, (fun D nD => ⟨same_upd nD, upd_same⟩), (fun D i H' nD _ p => p.1), (fun D i x H' nD hx p => ?_), (fun D H' nD p => ?_)⟩
    · obtain ⟨y, hy, rxy⟩ := hR.get hx
      refine ⟨rfl, x, rfl, x, y, rfl, rxy.same p.1, _, p.2, ?_, ?_, ?_⟩
      · rw [List.length_map, List.length_map, List.length_take]
        exact Nat.lt_of_le_of_lt (Nat.le_trans (Nat.min_le_right _ _) short) (by decide)
      · exact fun b o e => by rw [upd_ne (ne_of_none e nD)]; exact p.1 b o e
      · rw [upd_same, List.take_add_one, hy]
        simp
    · rw [hlen, List.take_length] at p
      refine ⟨D, l.map isCount, rfl, .inl (.inl p.2), ?_⟩
      have q2 := q H' (s1.trans p.1)
      rw [hq] at q2
      rw [List.all_map]
      exact q2
  · have q2 := q H1 s1
    unfold areCounts at q2
    rw [Bool.eq_false_iff.mpr e, Bool.false_and] at q2
    exact q2
end
end Kp15
set_option Elab.async false
set_option linter.all false
set_option maxRecDepth 100000
set_option maxHeartbeats 1000000
namespace Kp15
open PySem PySem.Spec PyProof.Rows L2 Vf
/-! ### the law's own draws -/
def sp_cell_at (K : PySem.W.Frag) : Sp := fun vs H Q _ => ∃ (a : Addr) (ns : List Int) (k : Nat), vs = [.ref a, .int k] ∧ SqL K H a (ns.map V.int) ∧ Q (.int (ns.getD k 0)) H
def sp_tape : Sp := fun vs H Q _ => ∃ z : Int, vs = [.int z] ∧ ∀ (H' : Hp) (p : Addr) (n : Int), Same H H' → H p = none → H' p = some (.lst [.int n]) → Q (.ref p) H'
def sp_digit : Sp := fun vs H Q _ => ∃ (t : Addr) (n m : Int), vs = [.ref t, .int m] ∧ H t = some (.lst [.int n]) ∧ 0 < m ∧ m < 1000000000000000000000000 ∧ ∀ d n' : Int, 0 ≤ d → d < m → Q (.int d) (upd H t (.lst [.int n']))
section
variable {P : Program} {w : World} {K : PySem.W.Frag} {mg : Str → Option Value} {base : Heap} {C : Nat → Addr} {tG tL : Tok}
theorem sc_l_cell_at : FnScope ["_law_script", "_law_k"] ["_law_script", "_law_k"] (defScope s_l_cell_at) :=
  ⟨rfl, rfl, rfl, by decide +kernel, rfl, by decide +kernel, by decide +kernel⟩
theorem ok_cell_at {f : Addr} {fd : FuncData} (F : Fun K "_law_cell_at" "_law_cell_at" s_l_cell_at f fd) (T : Txt K mg C tG tL) : FnOk P w K mg base CX0 1 f fd ["_law_script", "_law_k"] (sp_cell_at K) := by
  refine F.ok sc_l_cell_at (fun vs H Q E ⟨a, ns, k, e, _⟩ => by rw [e]; rfl) (fun cdv A outer s H vs Q E hr h => ?_)
  obtain ⟨a, ns, k, rfl, hS, q⟩ := h
  refine ⟨_, (pss_cons (ps_if (pt_cmpR op_lt (pv 1) (pe_callB (len_ofK (K := K) rfl) (by rfl) T.n_len (by decide +kernel) (pa_cons (pv 0) pa_nil)) (nomark _))
  (pss_one (ps_ret (pe_ix (ix_listK (K := K) rfl) (pv 0) (pv 1) (fun _ _ => rfl))))
  pss_nil)
  (pss_one (ps_ret pe_int))), ?_⟩
  refine ⟨.int k, rfl, .ref a, rfl, a, _, rfl, .inl hS, k, _, rfl, rfl, _, rfl, ite2 (fun e => ?_) (fun e => ?_)⟩
  · have h : k < ns.length := by
      have := of_decide_eq_true e
      rw [List.length_map] at this
      omega
    refine ⟨.ref a, rfl, .int k, rfl, a, _, k, .int ns[k], rfl, rfl, hS, atI_nat (by rw [List.getElem?_map, List.getElem?_eq_getElem h]; rfl), ?_⟩
    rw [List.getD_eq_getElem?_getD, List.getElem?_eq_getElem h] at q
    exact q
  · have h : ns.length ≤ k := by
      rcases Nat.lt_or_ge k ns.length with z | z
      · exact absurd (decide_eq_true (by rw [List.length_map]; omega)) e
      · exact z
    rw [List.getD_eq_getElem?_getD, List.getElem?_eq_none h] at q
    exact q
theorem sc_l_digit : FnScope ["_law_tape_here", "_law_size", "_law_digit_here"] ["_law_tape_here", "_law_size"] (defScope s_l_digit) :=
  ⟨rfl, rfl, rfl, by decide +kernel, rfl, by decide +kernel, by decide +kernel⟩
theorem ok_digit {f : Addr} {fd : FuncData} (F : Fun K "_law_digit" "_law_digit" s_l_digit f fd) (T : Txt K mg C tG tL) : FnOk P w K mg base CX0 1 f fd ["_law_tape_here", "_law_size"] sp_digit := by
  refine F.ok sc_l_digit (fun vs H Q E ⟨t, n, m, e, _⟩ => by rw [e]; rfl) (fun cdv A outer s H vs Q E hr h => ?_)
  obtain ⟨t, n, m, rfl, ht, m0, m1, q⟩ := h
  refine ⟨_, (pss_cons (ps_set (i := 2) sc_l_digit.nd rfl (by first | exact Or.inl rfl | exact Or.inr rfl) (pe_op op_mod (pe_ix (ix_listK (K := K) rfl) (pv 0) pe_int (fun _ _ => rfl)) (pv 1)))
  (pss_cons (ps_asg (pe_op op_fdivW (pe_ix (ix_listK (K := K) rfl) (pv 0) pe_int (fun _ _ => rfl)) (pv 1)) (pg_sub (pv 0) pe_int set_list))
  (pss_one (ps_ret (pv 2))))), ?_⟩
  refine ⟨.ref t, rfl, t, _, 0, .int n, rfl, rfl, SqL.of ht, atI_nat (j := 0) rfl, .int m, rfl, n, m, rfl, rfl, m0, ?_⟩
  refine ⟨.ref t, rfl, t, _, 0, .int n, rfl, rfl, SqL.of ht, atI_nat (j := 0) rfl, .int m, rfl, n, m, rfl, rfl, wide_div m0 (b := 100) ?_ (by decide) (by decide), ?_⟩
  · have e : (2 : Nat) ^ 100 = 1267650600228229401496703205376 := by decide +kernel
    rw [e]
    omega
  · exact ⟨.ref t, rfl, t, _, 0, 0, rfl, rfl, ht, rfl, _, rfl, q _ _ (Int.emod_nonneg _ (by omega)) (Int.emod_lt_of_pos _ m0)⟩
theorem sc_l_tape : FnScope ["_law_cell", "_law_number", "_law_found", "_law_k"] ["_law_cell"] (defScope s_l_tape) :=
  ⟨rfl, rfl, rfl, by decide +kernel, rfl, by decide +kernel, by decide +kernel⟩
theorem ok_tape {f : Addr} {fd : FuncData} (F : Fun K "_law_tape" "_law_tape" s_l_tape f fd) (T : Txt K mg C tG tL) : FnOk P w K mg base CX0 1 f fd ["_law_cell"] sp_tape := by
  refine F.ok sc_l_tape (fun vs H Q E ⟨z, e, _⟩ => by rw [e]; rfl) (fun cdv A outer s H vs Q E hr h => ?_)
  obtain ⟨z, rfl, q⟩ := h
  have pw : CPow 10 18 := ⟨by decide, by decide, by decide⟩
  refine ⟨_, (pss_cons (ps_if (pt_cmpR op_ge (pv 0) (pe_op op_pow pe_int pe_int) (nomark _))
  (pss_one (ps_ret (pe_lst (pa_cons (pe_op op_sub (pv 0) (pe_op op_pow pe_int pe_int)) pa_nil))))
  pss_nil)
  (pss_cons (ps_set (i := 1) sc_l_tape.nd rfl (by first | exact Or.inl rfl | exact Or.inr rfl) (pe_op op_mod (pe_op op_add (pe_op op_mul (pe_op op_mod (pv 0) pe_int) pe_int) pe_int) pe_int))
  (pss_cons (ps_set (i := 2) sc_l_tape.nd rfl (by first | exact Or.inl rfl | exact Or.inr rfl) pe_int)
  (pss_cons (ps_for PassesOwn.never rfl (pi_range1 (by rfl) T.n_range (pa_cons pe_int pa_nil))
  (pg_name (i := 3) sc_l_tape.nd rfl (by first | exact Or.inl rfl | exact Or.inr rfl))
  (pss_cons (ps_set (i := 1) sc_l_tape.nd rfl (by first | exact Or.inl rfl | exact Or.inr rfl) (pe_op op_mod (pe_op op_add (pe_op op_add (pe_op op_mul (pv 1) pe_int) (pv 3)) pe_int) pe_int))
  (pss_one (ps_set (i := 2) sc_l_tape.nd rfl (by first | exact Or.inl rfl | exact Or.inr rfl) (pe_op op_add (pe_op op_mul (pv 2) pe_int) (pv 1))))))
  (pss_one (ps_ret (pe_lst (pa_cons (pv 2) pa_nil)))))))), ?_⟩
  refine ⟨.int z, rfl, 10, 18, rfl, rfl, pw, z, _, rfl, rfl, _, rfl, ite2 (fun e => ?_) (fun e => ?_)⟩
  · exact ⟨.int z, rfl, 10, 18, rfl, rfl, pw, z, _, rfl, rfl, (by show 1 ≤ sizeLine; decide), fun p np => q _ p _ (same_upd np) np upd_same⟩
  · refine ⟨.int z, rfl, z, _, rfl, rfl, (by show (0 : Int) < 2147483629; decide), _, _, rfl, rfl, .inr ⟨by decide, by decide⟩, _, _, rfl, rfl, _, _, rfl, rfl, (by show (0 : Int) < 2147483647; decide), ?_⟩
    refine ⟨32, rfl, by decide, by decide, for_range (n := 32) (fun i σ H' => H' = H ∧ ∃ (a b : Int) (v : Option V), σ = [some (.int z), some (.int a), some (.int b), v]) ⟨rfl, _, _, none, rfl⟩ (fun i σ H' hi p => ?_) (fun σ H' p => ?_)⟩
    · obtain ⟨rfl, a, b, v, rfl⟩ := p
      refine ⟨.int a, rfl, a, _, rfl, rfl, .inr ⟨by decide, by decide⟩, _, rfl, _, _, rfl, rfl, _, _, rfl, rfl, _, _, rfl, rfl, (by show (0 : Int) < 2147483647; decide), ?_⟩
      refine ⟨.int b, rfl, b, _, rfl, rfl, .inr ⟨by decide, by decide⟩, _, rfl, _, _, rfl, rfl, rfl, _, _, _, rfl⟩
    · obtain ⟨rfl, a, b, v, rfl⟩ := p
      exact ⟨.int b, rfl, (by show 1 ≤ sizeLine; decide), fun p np => q _ p _ (same_upd np) np upd_same⟩
end
end Kp15
set_option Elab.async false
set_option linter.all false
set_option maxRecDepth 100000
set_option maxHeartbeats 1000000
namespace Kp15
open PySem PySem.Spec PyProof.Rows L2 Vf
/-! ### how long -/
def lenD (d : Dt) : Nat := (d.items.getD []).length
theorem counts_len {d : Dt} (h : areCounts d = true) : 1 ≤ lenD d ∧ lenD d ≤ 6 := by
  unfold areCounts at h
  rw [Bool.and_eq_true] at h
  have h := h.1
  unfold isShort at h
  unfold lenD
  cases z : d.items with
  | none => rw [z] at h; cases h
  | some l =>
    rw [z] at h
    have h : (decide (1 ≤ l.length) && decide (l.length ≤ 6)) = true := h
    rw [Bool.and_eq_true, decide_eq_true_eq, decide_eq_true_eq] at h
    exact h
/-! ### tables: their form -/
def toI : Dt → Int
  | .int i => i
  | _ => 0
def rowI (d : Dt) : List Int := (d.items.getD []).map toI
def formOf (d : Dt) : List (List Int) := (d.items.getD []).map rowI
def isForm (d : Dt) : Bool := isShort d && (d.items.getD []).all areCounts && (d.items.getD []).all fun r => decide (lenD r = lenD ((d.items.getD []).headD .non))
theorem short_some {d : Dt} (h : isShort d = true) : ∃ l, d.items = some l ∧ 1 ≤ l.length ∧ l.length ≤ 6 := by
  unfold isShort at h
  cases z : d.items with
  | none => rw [z] at h; cases h
  | some l =>
    rw [z] at h
    have h : (decide (1 ≤ l.length) && decide (l.length ≤ 6)) = true := h
    rw [Bool.and_eq_true, decide_eq_true_eq, decide_eq_true_eq] at h
    exact ⟨l, rfl, h.1, h.2⟩
theorem toI_int (ns : List Int) : (ns.map Dt.int).map toI = ns := by
  rw [List.map_map]
  exact (List.map_congr_left fun c _ => rfl).trans (List.map_id ns)
/-- a row of counts, as it stands -/
theorem counts_row {K : PySem.W.Frag} {H : Hp} {v : V} {d : Dt} (R : Rp K H v d) (h : areCounts d = true) : ∃ a, v = .ref a ∧ SqV K H a ((rowI d).map V.int) ∧ d.items = some ((rowI d).map Dt.int) ∧ (rowI d).length = lenD d ∧ ∀ n ∈ rowI d, 0 ≤ n ∧ n ≤ 1000000000000 := by
  unfold areCounts at h
  rw [Bool.and_eq_true] at h
  obtain ⟨l, el, _, _⟩ := short_some h.1
  rw [el] at h
  obtain ⟨ns, e, hb⟩ := all_counts (show l.all isCount = true from h.2)
  obtain ⟨a, xs, rfl, hS, hR⟩ := R.items_some el
  have er : rowI d = ns := by unfold rowI; rw [el, e]; exact toI_int ns
  have ex : xs = ns.map V.int := by
    rw [e] at hR
    clear hS el h er e
    induction ns generalizing xs with
    | nil => cases hR; rfl
    | cons n ns ih =>
      cases hR with
      | cons h r =>
        cases h
        rw [ih (fun x hx => hb x (List.mem_cons_of_mem _ hx)) _ r]
        rfl
  rw [ex] at hS
  refine ⟨a, rfl, by rw [er]; exact hS, by rw [er, el, e], ?_, by rw [er]; exact hb⟩
  rw [er]
  unfold lenD
  rw [el, e]
  simp
/-- the form, taken apart -/
structure FormAt (d : Dt) (l : List Dt) (wd : Nat) : Prop where
  el : d.items = some l
  l1 : 1 ≤ l.length
  l6 : l.length ≤ 6
  rows : ∀ r ∈ l, areCounts r = true ∧ lenD r = wd
  w1 : 1 ≤ wd
  w6 : wd ≤ 6
theorem form_at {d : Dt} (h : isForm d = true) : ∃ l wd, FormAt d l wd := by
  unfold isForm at h
  rw [Bool.and_eq_true, Bool.and_eq_true] at h
  obtain ⟨⟨h1, h2⟩, h3⟩ := h
  obtain ⟨l, el, l1, l6⟩ := short_some h1
  rw [el] at h2 h3
  have h2 : l.all areCounts = true := h2
  have h3 : (l.all fun r => decide (lenD r = lenD (l.headD .non))) = true := h3
  cases l with
  | nil => exact absurd l1 (by decide)
  | cons r0 l =>
    have a0 := List.all_eq_true.mp h2 r0 List.mem_cons_self
    refine ⟨_, lenD r0, el, l1, l6, fun r hr => ⟨List.all_eq_true.mp h2 r hr, of_decide_eq_true (List.all_eq_true.mp h3 r hr)⟩, (counts_len a0).1, (counts_len a0).2⟩
theorem FormAt.form {d : Dt} {l : List Dt} {wd : Nat} (F : FormAt d l wd) : formOf d = l.map rowI := by unfold formOf; rw [F.el]; rfl
/-- rows, each a list or a tuple of ints -/
inductive RowsS (K : PySem.W.Frag) (H : Hp) : List Addr → List (List Int) → Prop
  | nil : RowsS K H [] []
  | cons {a : Addr} {as : List Addr} {r : List Int} {tb : List (List Int)} : SqV K H a (r.map V.int) → RowsS K H as tb → RowsS K H (a :: as) (r :: tb)
theorem RowsS.same {K : PySem.W.Frag} {H H' : Hp} (s : Same H H') : ∀ {as : List Addr} {tb : List (List Int)}, RowsS K H as tb → RowsS K H' as tb
  | _, _, .nil => .nil
  | _, _, .cons h r => .cons (h.same s) (RowsS.same s r)
theorem RowsS.length {K : PySem.W.Frag} {H : Hp} : ∀ {as : List Addr} {tb : List (List Int)}, RowsS K H as tb → as.length = tb.length
  | _, _, .nil => rfl
  | _, _, .cons _ r => congrArg (· + 1) (RowsS.length r)
theorem RowsS.get {K : PySem.W.Frag} {H : Hp} : ∀ {as : List Addr} {tb : List (List Int)} {i : Nat} {a : Addr}, RowsS K H as tb → as[i]? = some a → ∃ r, tb[i]? = some r ∧ SqV K H a (r.map V.int)
  | _, _, _, _, .nil, e => by simp at e
  | _, _, 0, _, .cons h _, e => by
    obtain rfl := Option.some.inj e
    exact ⟨_, rfl, h⟩
  | _, _, i + 1, a, .cons _ r, e => RowsS.get (i := i) (a := a) r e
theorem rows_form {K : PySem.W.Frag} {H : Hp} {wd : Nat} : ∀ {xs : List V} {l : List Dt}, RpL K H xs l → (∀ r ∈ l, areCounts r = true ∧ lenD r = wd) → ∃ as : List Addr, xs = as.map V.ref ∧ RowsS K H as (l.map rowI) ∧ ∀ r ∈ l.map rowI, r.length = wd ∧ ∀ n ∈ r, 0 ≤ n ∧ n ≤ 1000000000000
  | _, _, .nil, _ => ⟨[], rfl, .nil, fun _ h => by cases h⟩
  | _, _, .cons h r, f => by
    obtain ⟨as, e, R, g⟩ := rows_form r fun x hx => f x (List.mem_cons_of_mem _ hx)
    obtain ⟨a, rfl, hS, _, hl, hb⟩ := counts_row h (f _ List.mem_cons_self).1
    refine ⟨a :: as, by rw [e]; rfl, .cons hS R, fun q hq => ?_⟩
    rcases List.mem_cons.mp hq with rfl | hq
    · exact ⟨hl.trans (f _ List.mem_cons_self).2, hb⟩
    · exact g q hq
/-- a form as it stands -/
structure TabAt (K : PySem.W.Frag) (H : Hp) (v : V) (tb : List (List Int)) (wd : Nat) : Prop where
  ex : ∃ (a : Addr) (as : List Addr), v = .ref a ∧ SqV K H a (as.map V.ref) ∧ RowsS K H as tb
  h1 : 1 ≤ tb.length
  h6 : tb.length ≤ 6
  w1 : 1 ≤ wd
  w6 : wd ≤ 6
  row : ∀ r ∈ tb, r.length = wd ∧ ∀ n ∈ r, 0 ≤ n ∧ n ≤ 1000000000000
theorem tab_at {K : PySem.W.Frag} {H : Hp} {v : V} {d : Dt} (R : Rp K H v d) (h : isForm d = true) : ∃ wd, TabAt K H v (formOf d) wd := by
  obtain ⟨l, wd, F⟩ := form_at h
  obtain ⟨a, xs, rfl, hS, hR⟩ := R.items_some F.el
  obtain ⟨as, rfl, RS, g⟩ := rows_form hR F.rows
  refine ⟨wd, ⟨a, as, rfl, hS, by rw [F.form]; exact RS⟩, by rw [F.form, List.length_map]; exact F.l1, by rw [F.form, List.length_map]; exact F.l6, F.w1, F.w6, by rw [F.form]; exact g⟩
theorem TabAt.same {K : PySem.W.Frag} {H H' : Hp} {v : V} {tb : List (List Int)} {wd : Nat} (T : TabAt K H v tb wd) (s : Same H H') : TabAt K H' v tb wd := by
  obtain ⟨a, as, e, hS, hR⟩ := T.ex
  exact ⟨⟨a, as, e, hS.same s, hR.same s⟩, T.h1, T.h6, T.w1, T.w6, T.row⟩
/-- new lists that hold rows -/
inductive RowsF (H H' : Hp) : List Addr → List (List V) → Prop
  | nil : RowsF H H' [] []
  | cons {k : Addr} {ks : List Addr} {m : List V} {ms : List (List V)} : H k = none → H' k = some (.lst m) → RowsF H H' ks ms → RowsF H H' (k :: ks) (m :: ms)
theorem RowsF.keep {H H1 H2 : Hp} : ∀ {ks : List Addr} {ms : List (List V)}, RowsF H H1 ks ms → (∀ b o, H b = none → H1 b = some (.lst o) → b ∈ ks → H2 b = some (.lst o)) → RowsF H H2 ks ms
  | _, _, .nil, _ => .nil
  | _, _, .cons h1 h2 r, f => .cons h1 (f _ _ h1 h2 List.mem_cons_self) (r.keep fun b o e1 e2 hb => f b o e1 e2 (List.mem_cons_of_mem _ hb))
theorem RowsF.append {H H' : Hp} {ks ks' : List Addr} {ms ms' : List (List V)} : RowsF H H' ks ms → RowsF H H' ks' ms' → RowsF H H' (ks ++ ks') (ms ++ ms')
  | .nil, r => r
  | .cons h1 h2 q, r => .cons h1 h2 (RowsF.append q r)
theorem RowsF.length {H H' : Hp} : ∀ {ks : List Addr} {ms : List (List V)}, RowsF H H' ks ms → ks.length = ms.length
  | _, _, .nil => rfl
  | _, _, .cons _ _ r => congrArg (· + 1) (RowsF.length r)
theorem RowsF.get {H H' : Hp} : ∀ {ks : List Addr} {ms : List (List V)} {i : Nat} {k : Addr}, RowsF H H' ks ms → ks[i]? = some k → ∃ m, ms[i]? = some m ∧ H k = none ∧ H' k = some (.lst m)
  | _, _, _, _, .nil, e => by simp at e
  | _, _, 0, _, .cons h1 h2 _, e => by
    obtain rfl := Option.some.inj e
    exact ⟨_, rfl, h1, h2⟩
  | _, _, i + 1, k, .cons _ _ r, e => RowsF.get (i := i) (k := k) r e
theorem RowsF.fresh {H H' : Hp} : ∀ {ks : List Addr} {ms : List (List V)}, RowsF H H' ks ms → ∀ k ∈ ks, H k = none ∧ ∃ o, H' k = some o
  | _, _, .nil, _, z => nomatch z
  | _, _, .cons h1 h2 r, k, z => by
    rcases List.mem_cons.mp z with rfl | z
    · exact ⟨h1, _, h2⟩
    · exact r.fresh k z
def rowsV (tb : List (List Int)) : List (List V) := tb.map (·.map V.int)
theorem zip_items {i : Nat} : ∀ {tb : List (List Int)} {ys : List V}, (∀ r ∈ tb, i < r.length) → Paired (fun (xs : List V) y => xs[i]? = some y) (rowsV tb) ys → ys = (tb.map fun r => r.getD i 0).map V.int
  | [], _, _, h => by cases h; rfl
  | r :: tb, _, f, h => by
    cases h with
    | cons h q =>
      rw [List.map_cons, List.map_cons, zip_items (fun x hx => f x (List.mem_cons_of_mem _ hx)) q]
      congr 1
      have hi := f r List.mem_cons_self
      rw [List.getElem?_map, List.getElem?_eq_getElem hi] at h
      rw [List.getD_eq_getElem?_getD, List.getElem?_eq_getElem hi]
      exact (Option.some.inj h).symm
def rowSums (tb : List (List Int)) : List Int := tb.map List.sum
def colSums (tb : List (List Int)) (wd : Nat) : List Int := (List.range wd).map fun j => (tb.map fun r => r.getD j 0).sum
/-! ### the promises -/
def sp_has_form (K : PySem.W.Frag) : Sp := fun vs H Q _ => ∃ v d, vs = [v] ∧ Rp K H v d ∧ ∀ H', Same H H' → Q (.bl (isForm d)) H'
def sp_wanted_table (K : PySem.W.Frag) (N2 : Addr) : Sp := fun vs H Q E => ∃ v d, vs = [v] ∧ Rp K H v d ∧ (isForm d = false → ∀ H', Same H H' → E (.ref N2) none H') ∧
  (isForm d = true → ∀ (H' : Hp) (D : Addr) (ls : List Addr), Same H H' → H D = none → H' D = some (.lst (ls.map V.ref)) → RowsF H H' ls (rowsV (formOf d)) → (∀ l ∈ ls, l ≠ D) → Q (.ref D) H')
def sp_table_sums (K : PySem.W.Frag) (N2 : Addr) : Sp := fun vs H Q E => ∃ v d, vs = [v] ∧ Rp K H v d ∧ (isForm d = false → ∀ H', Same H H' → E (.ref N2) none H') ∧
  (isForm d = true → ∀ (H' : Hp) (T a b : Addr) (wd : Nat), (∀ r ∈ formOf d, r.length = wd) → Same H H' → H T = none → H a = none → H b = none → H' T = some (.tup [.ref a, .ref b]) → H' a = some (.lst ((rowSums (formOf d)).map V.int)) → H' b = some (.lst ((colSums (formOf d) wd).map V.int)) → a ≠ b → Q (.ref T) H')
section
variable {P : Program} {w : World} {K : PySem.W.Frag} {mg : Str → Option Value} {base : Heap} {C : Nat → Addr} {tG tL : Tok}
theorem sc_has_table_form : FnScope ["thing", "row"] ["thing"] (defScope s_has_table_form) :=
  ⟨rfl, rfl, rfl, by decide +kernel, rfl, by decide +kernel, by decide +kernel⟩
theorem ok_has_form {f : Addr} {fd : FuncData} (F : Fun K "has_table_form" "has_table_form" s_has_table_form f fd) (T : Txt K mg C tG tL) (c_is_short_list : Cal P w K mg base CX0 2 "is_short_list" ["thing"] (sp_is_short_list K)) (c_are_counts : Cal P w K mg base CX0 3 "are_counts" ["thing"] (sp_are_counts K)) :
    FnOk P w K mg base CX0 4 f fd ["thing"] (sp_has_form K) := by
  refine F.ok sc_has_table_form (fun vs H Q E ⟨v, d, e, _⟩ => by rw [e]; rfl) (fun cdv A outer s H vs Q E hr h => ?_)
  obtain ⟨v, d, rfl, R, q⟩ := h
  refine ⟨_, (pss_cons (ps_if (PW.pt (pw_or (pt_not (pt_val (pe_cal c_is_short_list (hr.mono (by decide)) (by rfl) pass0 (pa_cons (pv 0) pa_nil)))) (pw_or1 (pt_not (pt_val (pe_callB (allK (K := K) rfl rfl) (by rfl) T.n_all (by decide +kernel) (pa_cons (pe_lcS (own := [("row", 1)]) (by rfl) sc_has_table_form.nd (pv 0) mono_var (blkOk_by (own := [("row", 1)]) (N := ["thing", "row"]) (sc := defScope s_has_table_form) (by decide +kernel)) (fun _ _ _ _ _ => (pg_name (i := 1) sc_has_table_form.nd rfl (by first | exact Or.inl rfl | exact Or.inr rfl))) (fun _ _ _ _ _ => pts_nil) (fun _ _ _ _ _ => (pe_cal c_are_counts (hr.mono (by decide)) (by rfl) pass0 (pa_cons (pv 1) pa_nil)))) pa_nil)))))))
  (pss_one (ps_ret pe_bl))
  pss_nil)
  (pss_one (ps_ret (pe_callB (allK (K := K) rfl rfl) (by rfl) T.n_all (by decide +kernel) (pa_cons (pe_lcS (own := [("row", 1)]) (by rfl) sc_has_table_form.nd (pv 0) mono_var (blkOk_by (own := [("row", 1)]) (N := ["thing", "row"]) (sc := defScope s_has_table_form) (by decide +kernel)) (fun _ _ _ _ _ => (pg_name (i := 1) sc_has_table_form.nd rfl (by first | exact Or.inl rfl | exact Or.inr rfl))) (fun _ _ _ _ _ => pts_nil) (fun _ _ _ _ _ => (pe_cmpR op_eq (pe_callB (len_ofK (K := K) rfl) (by rfl) T.n_len (by decide +kernel) (pa_cons (pv 1) pa_nil)) (pe_callB (len_ofK (K := K) rfl) (by rfl) T.n_len (by decide +kernel) (pa_cons (pe_ix (ix_seqK (K := K) rfl) (pv 0) pe_int (fun _ _ => rfl)) pa_nil)) (nomark _)))) pa_nil))))), ?_⟩
  refine ⟨v, rfl, v, d, rfl, R, fun H1 s1 => ⟨_, rfl, ?_⟩⟩
  cases e1 : isShort d with
  | false =>
    have hq : isForm d = false := by unfold isForm; rw [e1]; rfl
    have q2 := q H1 s1
    rw [hq] at q2
    exact q2
  | true =>
    obtain ⟨l, el, l1, l6⟩ := short_some e1
    obtain ⟨a, xs, rfl, hS, hR⟩ := (R.same s1).items_some el
    have hlen := hR.length
    refine ⟨.ref a, rfl, a, xs, (fun D i H' => Same H1 H' ∧ H' D = some (.lst (((l.take i).map areCounts).map V.bl))), rfl, hS, (fun D nD => ⟨same_upd nD, upd_same⟩), (fun D i H' nD _ p => p.1), (fun D i x H' nD hx p => ?_), (fun D H' nD p => ?_)⟩
    · obtain ⟨y, hy, rxy⟩ := hR.get hx
      refine ⟨rfl, x, rfl, x, y, rfl, rxy.same p.1, fun H2 s2 => ⟨_, s2 _ _ p.2, ?_, ?_, ?_⟩⟩
      · rw [List.length_map, List.length_map, List.length_take]
        exact Nat.lt_of_le_of_lt (Nat.le_trans (Nat.min_le_right _ _) l6) (by decide)
      · exact fun b o e => by rw [upd_ne (ne_of_none e nD)]; exact s2 _ _ (p.1 b o e)
      · rw [upd_same, List.take_add_one, hy]
        simp
    · rw [hlen, List.take_length] at p
      refine ⟨D, l.map areCounts, rfl, .inl (.inl p.2), _, rfl, ?_⟩
      rw [List.all_map]
      cases e2 : l.all (id ∘ areCounts) with
      | false =>
        have e2' : l.all areCounts = false := e2
        have hq : isForm d = false := by
          unfold isForm
          rw [el]
          show (isShort d && l.all areCounts && _) = false
          rw [e2', Bool.and_false, Bool.false_and]
        have q2 := q H' (s1.trans p.1)
        rw [hq] at q2
        exact q2
      | true =>
        have e2' : l.all areCounts = true := e2
        cases l with
        | nil => exact absurd l1 (by decide)
        | cons r0 l =>
          have s2 := s1.trans p.1
          have hS2 := hS.same p.1
          have hR2 := hR.same p.1
          have rlen : ∀ x y, Rp K H' x y → areCounts y = true → ∃ b, x = .ref b ∧ SqV K H' b ((rowI y).map V.int) ∧ ((rowI y).map V.int).length = lenD y := fun x y r h => by
            obtain ⟨b, e, hb, _, hl, _⟩ := counts_row r h
            exact ⟨b, e, hb, by rw [List.length_map]; exact hl⟩
          obtain ⟨x0, xs, rfl⟩ : ∃ x0 xs', xs = x0 :: xs' := by cases hR2 with | cons h r => exact ⟨_, _, rfl⟩
          have r0 := (hR2.get (i := 0) rfl)
          obtain ⟨y0, ey0, ry0⟩ := r0
          obtain rfl : r0 = y0 := Option.some.inj ey0
          obtain ⟨b0, rfl, hb0, hl0⟩ := rlen _ _ ry0 (List.all_eq_true.mp e2' _ List.mem_cons_self)
          refine ⟨.ref a, rfl, a, _, (fun D2 i H2 => Same H' H2 ∧ H2 D2 = some (.lst ((((r0 :: l).take i).map fun r => decide (lenD r = lenD r0)).map V.bl))), rfl, hS2, (fun D2 nD2 => ⟨same_upd nD2, upd_same⟩), (fun D2 i H2 nD2 _ p2 => p2.1), (fun D2 i x H2 nD2 hx p2 => ?_), (fun D2 H2 nD2 p2 => ?_)⟩
          · obtain ⟨y, hy, rxy⟩ := hR2.get hx
            obtain ⟨b, rfl, hb, hl⟩ := rlen _ _ rxy (List.all_eq_true.mp e2' _ (List.mem_of_getElem? hy))
            refine ⟨rfl, .ref b, rfl, b, _, rfl, hb.same p2.1, .ref a, rfl, a, _, 0, .ref b0, rfl, rfl, hS2.same p2.1, atI_nat (j := 0) rfl, b0, _, rfl, hb0.same p2.1, rfl, _, p2.2, ?_, ?_, ?_⟩
            · rw [List.length_map, List.length_map, List.length_take]
              exact Nat.lt_of_le_of_lt (Nat.le_trans (Nat.min_le_right _ _) l6) (by decide)
            · exact fun c o e => by rw [upd_ne (ne_of_none e nD2)]; exact p2.1 c o e
            · have ed : decide (V.int (((rowI y).map V.int).length : Nat) = V.int (((rowI r0).map V.int).length : Nat)) = decide (lenD y = lenD r0) := by
                rw [hl, hl0]
                exact decide_eq_decide.mpr ⟨fun z => by have := V.int.inj z; omega, fun z => by rw [z]⟩
              rw [upd_same, List.take_add_one, hy, ed]
              simp
          · rw [← hR2.length] at *
            rw [show (V.ref b0 :: xs).length = (r0 :: l).length from hR2.length, List.take_length] at p2
            refine ⟨D2, _, rfl, .inl (.inl p2.2), ?_⟩
            have hq : isForm d = (r0 :: l).all fun r => decide (lenD r = lenD r0) := by
              unfold isForm
              rw [e1, el]
              show (true && (r0 :: l).all areCounts && (r0 :: l).all fun r => decide (lenD r = lenD r0)) = _
              rw [e2']; rfl
            have q2 := q H2 (s2.trans p2.1)
            rw [hq] at q2
            rw [List.all_map]
            exact q2
end
end Kp15
set_option Elab.async false
set_option linter.all false
set_option maxRecDepth 100000
set_option maxHeartbeats 1000000
namespace Kp15
open PySem PySem.Spec PyProof.Rows L2 Vf
/-! ### tables copied -/
def widthOf (tb : List (List Int)) : Nat := (tb.headD []).length
theorem some_get {α : Type} {xs : List α} {i : Nat} {f : α → V} {x : V} (h : (xs.map f)[i]? = some x) : ∃ y, xs[i]? = some y ∧ x = f y := by
  rw [List.getElem?_map] at h
  cases e : xs[i]? with
  | none => rw [e] at h; cases h
  | some y => rw [e] at h; exact ⟨y, rfl, (Option.some.inj h).symm⟩
theorem take_all {α : Type} {f : α → Bool} {l : List α} {i : Nat} (hi : i < l.length) (h : (l.take i).all f = true) : (l.take (i + 1)).all f = f l[i] := by
  rw [List.take_add_one, List.all_append, h, List.getElem?_eq_getElem hi]
  simp
theorem all_false {α : Type} {f : α → Bool} {l : List α} {i : Nat} (hi : i < l.length) (h : f l[i] = false) : l.all f = false := by
  rw [Bool.eq_false_iff]
  intro z
  rw [List.all_eq_true.mp z _ (List.getElem_mem hi)] at h
  cases h
section
variable {P : Program} {w : World} {K : PySem.W.Frag} {mg : Str → Option Value} {base : Heap} {C : Nat → Addr} {tG tL : Tok} {CF : Addr}
theorem sc_wanted_table : FnScope ["thing", "row"] ["thing"] (defScope s_wanted_table) :=
  ⟨rfl, rfl, rfl, by decide +kernel, rfl, by decide +kernel, by decide +kernel⟩
theorem ok_wanted_table {f : Addr} {fd : FuncData} (F : Fun K "wanted_table" "wanted_table" s_wanted_table f fd) (T : Txt K mg C tG tL) (c_has_table_form : Cal P w K mg base CX0 4 "has_table_form" ["thing"] (sp_has_form K)) :
    FnOk P w K mg base (L2N.CX P w) 5 f fd ["thing"] (sp_wanted_table K (C 2)) := by
  refine F.okN sc_wanted_table (fun vs H Q E ⟨v, d, e, _⟩ => by rw [e]; rfl) (fun cdv A outer s H vs Q E hr h => ?_)
  obtain ⟨v, d, rfl, R, qE, qQ⟩ := h
  refine ⟨_, (pss_cons (ps_if (pt_not (pt_val (pe_cal c_has_table_form (hr.mono (by decide)) (by rfl) pass0 (pa_cons (pv 0) pa_nil))))
  (pss_one (L2N.ps_raise rfl (L2N.takes_of rfl rfl rfl rfl) (L2N.pmk_own PySem.F.excBase_ValueError T.NoTable.x T.NoTable.g T.NoTable.k (raises_own T.NoTable.b T.NoTable.t) (by exact rfl))))
  pss_nil)
  (pss_one (ps_ret (pe_lcS (own := [("row", 1)]) (by rfl) sc_wanted_table.nd (pv 0) mono_var (blkOk_by (own := [("row", 1)]) (N := ["thing", "row"]) (sc := defScope s_wanted_table) (by decide +kernel)) (fun _ _ _ _ _ => (pg_name (i := 1) sc_wanted_table.nd rfl (by first | exact Or.inl rfl | exact Or.inr rfl))) (fun _ _ _ _ _ => pts_nil) (fun _ _ _ _ _ => (pe_callTy (list_ofK (K := K) rfl) (by rfl) T.n_list (by decide +kernel) (pa_cons (pv 1) pa_nil))))))), ?_⟩
  refine ⟨v, rfl, v, d, rfl, R, fun H1 s1 => ⟨_, rfl, ?_⟩⟩
  cases e1 : isForm d with
  | false => exact qE e1 H1 s1
  | true =>
    obtain ⟨wd, TA⟩ := tab_at (R.same s1) e1
    obtain ⟨a, as, rfl, hS, hR⟩ := TA.ex
    have hlen := hR.length
    refine ⟨.ref a, rfl, a, _, (fun D i H' => Same H1 H' ∧ ∃ ls : List Addr, H' D = some (.lst (ls.map V.ref)) ∧ RowsF H1 H' ls ((rowsV (formOf d)).take i) ∧ ∀ l ∈ ls, l ≠ D), rfl, hS, (fun D nD => ⟨same_upd nD, [], upd_same, .nil, fun _ z => nomatch z⟩), (fun D i H' nD _ p => p.1), (fun D i x H' nD hx p => ?_), (fun D H' nD p => ?_)⟩
    · obtain ⟨sm, ls, hls, hrows, hne⟩ := p
      obtain ⟨b, hb, rfl⟩ := some_get hx
      obtain ⟨r, hr', hT⟩ := hR.get hb
      refine ⟨rfl, .ref b, rfl, b, _, rfl, hT.same sm, fun l nl => ?_⟩
      have nlD : l ≠ D := fun z => by rw [z, hls] at nl; cases nl
      have k1 := same_upd (o := .lst (r.map V.int)) nl
      refine ⟨_, k1 _ _ hls, ?_, fun c o e => ?_, ls ++ [l], by rw [upd_same, List.map_append]; rfl, ?_, fun y hy => ?_⟩
      · rw [List.length_map, hrows.length, List.length_take]
        unfold rowsV
        rw [List.length_map]
        exact Nat.lt_of_le_of_lt (Nat.le_trans (Nat.min_le_right _ _) TA.h6) (by decide)
      · rw [upd_ne (ne_of_none e nD)]
        exact k1 _ _ (sm c o e)
      · have hi : (rowsV (formOf d))[i]? = some (r.map V.int) := by unfold rowsV; rw [List.getElem?_map, hr']; rfl
        rw [List.take_add_one, hi]
        refine (hrows.keep fun c o e1 e2 hc => ?_).append (.cons (sm.free nl) ?_ .nil)
        · rw [upd_ne (hne c hc)]
          exact k1 _ _ e2
        · rw [upd_ne nlD, upd_same]
      · rcases List.mem_append.mp hy with z | z
        · exact hne y z
        · obtain rfl : y = l := by simpa using z
          exact nlD
    · obtain ⟨sm, ls, hls, hrows, hne⟩ := p
      rw [List.take_of_length_le (by unfold rowsV; rw [List.length_map, List.length_map, hlen]; exact Nat.le_refl _)] at hrows
      refine qQ e1 H' D ls (s1.trans sm) (s1.free nD) hls ?_ hne
      have up : ∀ {ks ms}, RowsF H1 H' ks ms → RowsF H H' ks ms := fun {ks ms} r => by
        induction r with
        | nil => exact .nil
        | cons h1 h2 _ ih => exact .cons (s1.free h1) h2 ih
      exact up hrows
end
end Kp15
set_option Elab.async false
set_option linter.all false
set_option maxRecDepth 100000
set_option maxHeartbeats 1000000
namespace Kp15
open PySem PySem.Spec PyProof.Rows L2 Vf
/-! ### texts of rows and tables -/
def numT (n : Int) : Str := (toString n : String)
def rowTxt (ns : List Int) : Str := Txt.join " " (ns.map numT)
def tabTxt (tb : List (List Int)) : Str := Txt.join "; " (tb.map rowTxt)
def Small (n : Int) : Prop := 0 ≤ n ∧ n ≤ 1000000000000
theorem Small.abs {n : Int} (h : Small n) : n.natAbs < 10 ^ 13 := by
  have e : (10 : Nat) ^ 13 = 10000000000000 := by decide +kernel
  obtain ⟨h1, h2⟩ := h
  omega
theorem numT_len {n : Int} (h : Small n) : (numT n).length ≤ 14 := by
  have e := int_text_length_le10 (k := 13) (by decide) h.abs
  show (Str.ofString (toString n)).length ≤ 14
  rw [PySem.ofString_length]
  omega
theorem numT_log {n : Int} (h : Small n) : n.natAbs.log2 < 1920 := by
  by_cases z : n.natAbs = 0
  · rw [z]; decide
  · exact (Nat.log2_lt z).mpr (Nat.lt_of_lt_of_le h.abs (by decide +kernel))
theorem sum_len {c : Nat} : ∀ {ts : List Str}, (∀ t ∈ ts, t.length ≤ c) → (ts.map (·.length)).sum ≤ ts.length * c
  | [], _ => Nat.zero_le _
  | t :: ts, h => by
    have h1 := h t List.mem_cons_self
    have h2 := sum_len (ts := ts) fun x hx => h x (List.mem_cons_of_mem _ hx)
    rw [List.map_cons, List.sum_cons, List.length_cons, Nat.succ_mul]
    omega
theorem join_len {a : Str} {c : Nat} {ts : List Str} (h : ∀ t ∈ ts, t.length ≤ c) : (Txt.join a ts).length ≤ ts.length * c + ts.length * a.length := by
  have e := StrLaws.join_length_le a ts
  have f := sum_len h
  show (Builtin.Str.glued a ts).length ≤ _
  rw [StrLaws.glued_eq_join]
  omega
theorem row_len1 {ns : List Int} (h : ∀ n ∈ ns, Small n) (l6 : ns.length ≤ 6) : (rowTxt ns).length ≤ 90 := by
  have e := join_len (a := " ") (c := 14) (ts := ns.map numT) fun t ht => by
    obtain ⟨n, hn, rfl⟩ := List.mem_map.mp ht
    exact numT_len (h n hn)
  rw [List.length_map] at e
  have e1 : ((" " : String) : Str).length = 1 := rfl
  rw [e1] at e
  unfold rowTxt
  omega
def sp_row_text (K : PySem.W.Frag) : Sp := fun vs H Q _ => ∃ (a : Addr) (ns : List Int), vs = [.ref a] ∧ SqL K H a (ns.map V.int) ∧ ns.length ≤ 6 ∧ (∀ n ∈ ns, Small n) ∧ ∀ H', Same H H' → Q (.str (rowTxt ns)) H'
def sp_table_text (K : PySem.W.Frag) (N2 : Addr) : Sp := fun vs H Q E => ∃ v d, vs = [v] ∧ Rp K H v d ∧ (isForm d = false → ∀ H', Same H H' → E (.ref N2) none H') ∧ (isForm d = true → ∀ H', Same H H' → Q (.str (tabTxt (formOf d))) H')
section
variable {P : Program} {w : World} {K : PySem.W.Frag} {mg : Str → Option Value} {base : Heap} {C : Nat → Addr} {tG tL : Tok}
theorem sc_row_text : FnScope ["row", "number"] ["row"] (defScope s_row_text) :=
  ⟨rfl, rfl, rfl, by decide +kernel, rfl, by decide +kernel, by decide +kernel⟩
theorem ok_row_text {f : Addr} {fd : FuncData} (F : Fun K "row_text" "row_text" s_row_text f fd) (T : Txt K mg C tG tL) : FnOk P w K mg base CX0 1 f fd ["row"] (sp_row_text K) := by
  refine F.ok sc_row_text (fun vs H Q E ⟨a, ns, e, _⟩ => by rw [e]; rfl) (fun cdv A outer s H vs Q E hr h => ?_)
  obtain ⟨a, ns, rfl, hS, l6, hb, q⟩ := h
  refine ⟨_, (pss_one (ps_ret (pe_join pe_str (pe_lc (own := [("number", 1)]) (by rfl) sc_row_text.nd (pi_list (pv 0)) (blkOk_by (own := [("number", 1)]) (N := ["row", "number"]) (sc := defScope s_row_text) (by decide +kernel)) (fun _ _ _ _ _ => (pg_name (i := 1) sc_row_text.nd rfl (by first | exact Or.inl rfl | exact Or.inr rfl))) (fun _ _ _ _ _ => pts_nil) (fun _ _ _ _ _ => (pe_callTy call_str_int (by rfl) T.n_str (by decide +kernel) (pa_cons (pv 1) pa_nil))))))), ?_⟩
  refine ⟨⟨_, rfl⟩, .ref a, rfl, a, rfl, ⟨_, hS⟩, fun X nX => ?_⟩
  refine lc_list (K := K) (xs := ns.map V.int) (fun i H' => Same H H' ∧ H' X = some (.lst ((ns.take i).map fun n => V.str (numT n)))) ⟨same_upd nX, upd_same⟩ (fun i H' _ p => p.1.seq hS) (fun i x H' hx p => ?_) (fun H2 p => ?_)
  · obtain ⟨sm, hX⟩ := p
    obtain ⟨n, hn, rfl⟩ := some_get hx
    refine ⟨rfl, .int n, rfl, n, rfl, numT_log (hb n (List.mem_of_getElem? hn)), _, hX, ?_, fun b o e => ?_, ?_⟩
    · rw [List.length_map, List.length_take]
      exact Nat.lt_of_le_of_lt (Nat.le_trans (Nat.min_le_right _ _) l6) (by decide)
    · rw [upd_ne (ne_of_none e nX)]; exact sm b o e
    · rw [upd_same, List.take_add_one, hn, List.map_append]; rfl
  obtain ⟨sm, hX⟩ := p
  rw [List.take_of_length_le (by rw [List.length_map]; exact Nat.le_refl _)] at hX
  refine ⟨" ", X, ns.map numT, rfl, rfl, .inl (SqL.of (by rw [hX, List.map_map]; rfl)), ?_, q _ sm⟩
  have e := sum_len (c := 14) (ts := ns.map numT) fun t ht => by
    obtain ⟨n, hn, rfl⟩ := List.mem_map.mp ht
    exact numT_len (hb n hn)
  have e1 : ((" " : String) : Str).length = 1 := rfl
  rw [e1]
  rw [List.length_map] at e ⊢
  omega
theorem sc_table_text : FnScope ["table", "row"] ["table"] (defScope s_table_text) :=
  ⟨rfl, rfl, rfl, by decide +kernel, rfl, by decide +kernel, by decide +kernel⟩
theorem ok_table_text {f : Addr} {fd : FuncData} (F : Fun K "table_text" "table_text" s_table_text f fd) (T : Txt K mg C tG tL) (c_wanted_table : Cal P w K mg base (L2N.CX P w) 5 "wanted_table" ["thing"] (sp_wanted_table K (C 2))) (c_row_text : Cal P w K mg base CX0 1 "row_text" ["row"] (sp_row_text K)) :
    FnOk P w K mg base (L2N.CX P w) 6 f fd ["table"] (sp_table_text K (C 2)) := by
  refine F.okN sc_table_text (fun vs H Q E ⟨v, d, e, _⟩ => by rw [e]; rfl) (fun cdv A outer s H vs Q E hr h => ?_)
  obtain ⟨v, d, rfl, R, qE, qQ⟩ := h
  refine ⟨_, (pss_one (ps_ret (pe_join pe_str (pe_lc (own := [("row", 1)]) (by rfl) sc_table_text.nd (pi_list (pe_cal c_wanted_table (hr.mono (by decide)) (by rfl) (L2N.passes_call (L2N.takes_of rfl rfl rfl rfl) (fun _ _ _ _ h => h)) (pa_cons (pv 0) pa_nil))) (blkOk_by (own := [("row", 1)]) (N := ["table", "row"]) (sc := defScope s_table_text) (by decide +kernel)) (fun _ _ _ _ _ => (pg_name (i := 1) sc_table_text.nd rfl (by first | exact Or.inl rfl | exact Or.inr rfl))) (fun _ _ _ _ _ => pts_nil) (fun _ _ _ _ _ => (pe_cal c_row_text (hr.mono (by decide)) (by rfl) pass0 (pa_cons (pv 1) pa_nil))))))), ?_⟩
  refine ⟨⟨_, rfl⟩, v, rfl, v, d, rfl, R, fun e H' s' => qE e H' s', fun e1 H1 D ls s1 nD hD rowsF hne => ?_⟩
  obtain ⟨wd, TA⟩ := tab_at R e1
  have hlen : ls.length = (formOf d).length := by rw [rowsF.length]; unfold rowsV; rw [List.length_map]
  have h6 := TA.h6
  have w6 := TA.w6
  have nth : ∀ {i k}, ls[i]? = some k → ∃ r : List Int, (formOf d)[i]? = some r ∧ H1 k = some (.lst (r.map V.int)) := fun {i k} hk => by
    obtain ⟨m, hm, h1, h2⟩ := rowsF.get hk
    unfold rowsV at hm
    rw [List.getElem?_map] at hm
    cases e : (formOf d)[i]? with
    | none => rw [e] at hm; cases hm
    | some r => rw [e] at hm; obtain rfl := Option.some.inj hm; exact ⟨r, e, h2⟩
  refine ⟨D, rfl, ⟨_, SqL.of hD⟩, fun X nX => ?_⟩
  refine lc_list (K := K) (xs := ls.map V.ref) (fun i H' => Same H1 H' ∧ H' X = some (.lst (((formOf d).take i).map fun r => V.str (rowTxt r)))) ⟨same_upd nX, upd_same⟩ (fun i H' _ p => p.1.seq (SqL.of hD)) (fun i x H' hx p => ?_) (fun H2 p => ?_)
  · obtain ⟨sm, hX⟩ := p
    obtain ⟨k, hk, rfl⟩ := some_get hx
    obtain ⟨r, hr', hk2⟩ := nth hk
    have rb := TA.row r (List.mem_of_getElem? hr')
    refine ⟨rfl, .ref k, rfl, k, r, rfl, SqL.of (sm _ _ hk2), by omega, rb.2, fun H3 s3 => ⟨_, s3 _ _ hX, ?_, fun b o e => ?_, ?_⟩⟩
    · rw [List.length_map, List.length_take]
      exact Nat.lt_of_le_of_lt (Nat.le_trans (Nat.min_le_right _ _) h6) (by decide)
    · rw [upd_ne (ne_of_none e nX)]; exact s3 _ _ (sm b o e)
    · rw [upd_same, List.take_add_one, hr', List.map_append]; rfl
  obtain ⟨sm, hX⟩ := p
  rw [List.take_of_length_le (by rw [List.length_map, hlen]; exact Nat.le_refl _)] at hX
  refine ⟨"; ", X, (formOf d).map rowTxt, rfl, rfl, .inl (SqL.of (by rw [hX, List.map_map]; rfl)), ?_, qQ e1 _ (s1.trans sm)⟩
  have e := sum_len (c := 90) (ts := (formOf d).map rowTxt) fun t ht => by
    obtain ⟨r, hr', rfl⟩ := List.mem_map.mp ht
    have rb := TA.row r hr'
    exact row_len1 rb.2 (by omega)
  have e1 : (("; " : String) : Str).length = 2 := rfl
  rw [e1]
  rw [List.length_map] at e ⊢
  omega
end
end Kp15
set_option Elab.async false
set_option linter.all false
set_option maxRecDepth 100000
set_option maxHeartbeats 1000000
namespace Kp15
open PySem PySem.Spec PyProof.Rows L2 Vf
/-! ### texts as lists of signs -/
open TL
open NumText in
def wval (w : List Nat) : Nat := digitsVal w
def wds : List Nat → List (List Nat)
  | [] => [[]]
  | c :: r => if c = 32 then [] :: wds r else (c :: (wds r).headD []) :: (wds r).tail
def rws : List Nat → List (List Nat)
  | [] => [[]]
  | [c] => [[c]]
  | c :: d :: r => if c = 59 ∧ d = 32 then [] :: rws r else (c :: (rws (d :: r)).headD []) :: (rws (d :: r)).tail
theorem wds_ne : ∀ l, wds l ≠ []
  | [] => by unfold wds; simp
  | c :: r => by unfold wds; split <;> simp
theorem rws_ne : ∀ l, rws l ≠ []
  | [] => by unfold rws; simp
  | [c] => by unfold rws; simp
  | c :: d :: r => by unfold rws; split <;> simp
theorem head_tail {α : Type} {l : List (List α)} (h : l ≠ []) : l.headD [] :: l.tail = l := by
  cases l with
  | nil => exact absurd rfl h
  | cons a l => rfl
theorem wds_blank (r : List Nat) : wds (32 :: r) = [] :: wds r := if_pos rfl
theorem wds_sign {c : Nat} (h : c ≠ 32) (r : List Nat) : wds (c :: r) = (c :: (wds r).headD []) :: (wds r).tail := if_neg h
theorem rws_semi (r : List Nat) : rws (59 :: 32 :: r) = [] :: rws r := if_pos ⟨rfl, rfl⟩
theorem rws_sign {c d : Nat} (h : ¬ (c = 59 ∧ d = 32)) (r : List Nat) : rws (c :: d :: r) = (c :: (rws (d :: r)).headD []) :: (rws (d :: r)).tail := if_neg h
theorem wds_spl : ∀ (l acc : List Nat), spl [32] 0 acc l = (acc ++ (wds l).headD []) :: (wds l).tail
  | [], acc => by rw [spl_nil]; show [acc] = [acc ++ []]; rw [List.append_nil]
  | c :: r, acc => by
    by_cases h : c = 32
    · subst h
      have hp : pre [32] (32 :: r) = true := pre_self [32] r
      rw [spl_hit hp]
      show acc :: spl [32] 0 [] r = _
      rw [wds_spl r [], wds_blank, List.nil_append, head_tail (wds_ne r)]
      show _ = (acc ++ []) :: wds r
      rw [List.append_nil]
    · rw [spl_miss (pre_of_head [] r h), wds_spl r, wds_sign h]
      show _ = (acc ++ (c :: _)) :: _
      rw [List.append_assoc]; rfl
theorem rws_spl : ∀ (l acc : List Nat), spl [59, 32] 0 acc l = (acc ++ (rws l).headD []) :: (rws l).tail
  | [], acc => by rw [spl_nil]; show [acc] = [acc ++ []]; rw [List.append_nil]
  | [c], acc => by
    have : pre [59, 32] [c] = false := by
      show ([c] == [59, 32]) = false
      exact beq_eq_false_iff_ne.mpr fun z => by injection z with _ z; cases z
    rw [spl_miss this, spl_nil]; rfl
  | c :: d :: r, acc => by
    by_cases h : c = 59 ∧ d = 32
    · obtain ⟨rfl, rfl⟩ := h
      have hp : pre [59, 32] (59 :: 32 :: r) = true := pre_self [59, 32] r
      rw [spl_hit hp]
      show acc :: spl [59, 32] 0 [] r = _
      rw [rws_spl r [], rws_semi, List.nil_append, head_tail (rws_ne r)]
      show _ = (acc ++ []) :: rws r
      rw [List.append_nil]
    · have hp : pre [59, 32] (c :: d :: r) = false := by
        by_cases h1 : c = 59
        · subst h1
          have h2 : d ≠ 32 := fun z => h ⟨rfl, z⟩
          show ([59, d] == [59, 32]) = false
          exact beq_eq_false_iff_ne.mpr fun z => h2 (by injection z with _ z; injection z)
        · exact pre_of_head [32] _ h1
      rw [spl_miss hp, rws_spl (d :: r), rws_sign h]
      show _ = (acc ++ (c :: _)) :: _
      rw [List.append_assoc]; rfl
theorem tl_semi : tl ("; " : Str) = [59, 32] := by decide +kernel
theorem tl_blank : tl (" " : Str) = [32] := by decide +kernel
theorem split_rows (x : Str) : (Txt.split x "; ").map tl = rws (tl x) := by
  rw [split_spl x "; " (by rw [tl_semi]; simp) (kind_ok (by decide +kernel)), tl_semi, rws_spl, List.nil_append, head_tail (rws_ne _)]
theorem split_words (x : Str) : (Txt.split x " ").map tl = wds (tl x) := by
  rw [split_spl x " " (by rw [tl_blank]; simp) (kind_ok (by decide +kernel)), tl_blank, wds_spl, List.nil_append, head_tail (wds_ne _)]
/-! cut where a separator stands -/
theorem wds_app (a b : List Nat) : wds (a ++ 32 :: b) = wds a ++ wds b := by
  induction a with
  | nil => rw [List.nil_append]; conv => lhs; unfold wds
           rw [if_pos rfl]; rfl
  | cons c a ih =>
    rw [List.cons_append]
    conv => lhs; unfold wds
    conv => rhs; lhs; unfold wds
    rw [ih]
    split
    · rfl
    · cases e : wds a with
      | nil => exact absurd e (wds_ne a)
      | cons h t => rfl
theorem wds_free {a : List Nat} (h : 32 ∉ a) : wds a = [a] := by
  induction a with
  | nil => rfl
  | cons c a ih =>
    unfold wds
    rw [if_neg (fun z : c = 32 => h (z ▸ List.mem_cons_self)), ih fun z => h (List.mem_cons_of_mem _ z)]
    rfl
theorem rws_free : ∀ {a : List Nat}, 59 ∉ a → rws a = [a]
  | [], _ => rfl
  | [c], _ => rfl
  | c :: d :: a, h => by
    unfold rws
    rw [if_neg (fun z : c = 59 ∧ d = 32 => h (z.1 ▸ List.mem_cons_self)), rws_free (a := d :: a) fun z => h (List.mem_cons_of_mem _ z)]
    rfl
theorem rws_app : ∀ (a b : List Nat), rws (a ++ 59 :: 32 :: b) = rws a ++ rws b
  | [], b => by
    rw [List.nil_append]; conv => lhs; unfold rws
    rw [if_pos ⟨rfl, rfl⟩]; rfl
  | [c], b => by
    show rws (c :: 59 :: (32 :: b)) = [[c]] ++ rws b
    conv => lhs; unfold rws
    rw [if_neg (fun z => by cases z.2)]
    have e := rws_app [] b
    rw [List.nil_append] at e
    rw [e]; rfl
  | c :: d :: a, b => by
    show rws (c :: d :: (a ++ 59 :: 32 :: b)) = _
    conv => lhs; unfold rws
    conv => rhs; lhs; unfold rws
    by_cases h : c = 59 ∧ d = 32
    · rw [if_pos h, if_pos h, rws_app a b]; rfl
    · rw [if_neg h, if_neg h]
      have e := rws_app (d :: a) b
      rw [List.cons_append] at e
      rw [e]
      cases e2 : rws (d :: a) with
      | nil => exact absurd e2 (rws_ne _)
      | cons h t => rfl
/-! ### numbers -/
def isFig (c : Nat) : Bool := decide (48 ≤ c) && decide (c ≤ 57)
def numOk (w : List Nat) : Bool := (decide (1 ≤ w.length) && decide (w.length ≤ 13)) && w.all isFig && (decide (w = [48]) || !decide (w.head? = some 48))
def goodW (w : List Nat) : Bool := numOk w && decide (wval w ≤ 1000000000000)
theorem figs_digits {w : List Nat} (h : w.all isFig = true) : NumText.AllDigits w := fun c hc => by
  have := List.all_eq_true.mp h c hc
  have this : (decide (48 ≤ c) && decide (c ≤ 57)) = true := this
  rw [Bool.and_eq_true, decide_eq_true_eq, decide_eq_true_eq] at this
  exact this
theorem digits_figs {w : List Nat} (h : NumText.AllDigits w) : w.all isFig = true := List.all_eq_true.mpr fun c hc => by
  have := h c hc
  show (decide (48 ≤ c) && decide (c ≤ 57)) = true
  rw [decide_eq_true this.1, decide_eq_true this.2]; rfl
theorem back_nat {c : Nat} (h : 48 ≤ c ∧ c ≤ 57) : (Char.ofNat c).toNat = c := by
  obtain ⟨d, rfl, hd⟩ : ∃ d, c = 48 + d ∧ d < 10 := ⟨c - 48, by omega, by omega⟩
  have : ∀ d : Nat, d < 10 → (Char.ofNat (48 + d)).toNat = 48 + d := by decide
  exact this d hd
theorem map_back {w : List Nat} (h : NumText.AllDigits w) : (w.map Char.ofNat).map Char.toNat = w := by
  rw [List.map_map]
  exact (List.map_congr_left fun c hc => back_nat (h c hc)).trans (List.map_id w)
/-- the number that a word means, written again -/
theorem num_back {w : List Nat} (h : w.all isFig = true) : numL (wval w) = (match w.dropWhile (· == 48) with | [] => [48] | c :: r => c :: r) := by
  have hd := figs_digits h
  unfold numL wval
  rw [NumText.toDigits_all w hd]
  cases e : w.dropWhile (· == 48) with
  | nil => rfl
  | cons c r =>
    show ((c :: r).map Char.ofNat).map Char.toNat = c :: r
    refine map_back fun x hx => hd x ?_
    rw [← e] at hx
    exact (List.dropWhile_suffix _).subset hx
theorem num_canon {w : List Nat} (h : w.all isFig = true) (h1 : 1 ≤ w.length) : decide (numL (wval w) = w) = (decide (w = [48]) || !decide (w.head? = some 48)) := by
  rw [num_back h]
  cases w with
  | nil => exact absurd h1 (by decide)
  | cons c r =>
    by_cases c48 : c = 48
    · subst c48
      rw [decide_eq_true (p := (48 :: r).head? = some 48) rfl]
      show _ = (_ || false)
      rw [Bool.or_false]
      refine decide_eq_decide.mpr ⟨fun z => ?_, fun z => by rw [z]; rfl⟩
      cases e : (48 :: r).dropWhile (· == 48) with
      | nil => rw [e] at z; exact z.symm
      | cons c' r' =>
        rw [e] at z
        have hn : ((c' == 48)) = false := by
          have := List.head?_dropWhile_not (fun x : Nat => x == 48) (48 :: r)
          rw [e] at this
          simpa using this
        injection z with z1 z2
        rw [z1] at hn
        exact absurd hn (by decide)
    · have e : (c :: r).dropWhile (· == 48) = c :: r := by rw [List.dropWhile_cons, if_neg (by rw [beq_iff_eq]; exact c48)]
      rw [e, decide_eq_true (p := c :: r = c :: r) rfl, decide_eq_false (p := (c :: r).head? = some 48) (fun z => c48 (by injection z))]
      show true = (_ || true)
      rw [Bool.or_true]
theorem numOk_len {w : List Nat} (h : numOk w = true) : 1 ≤ w.length ∧ w.length ≤ 13 ∧ w.all isFig = true := by
  unfold numOk at h
  rw [Bool.and_eq_true, Bool.and_eq_true, Bool.and_eq_true, decide_eq_true_eq, decide_eq_true_eq] at h
  exact ⟨h.1.1.1, h.1.1.2, h.1.2⟩
theorem numOk_num {n : Nat} (h : n ≤ 1000000000000) : goodW (numL n) = true := by
  have l13 := numL_len (n := n) (k := 13) (by decide) (Nat.lt_of_le_of_lt h (by decide +kernel))
  have fg := digits_figs (numL_digits n)
  have ne := List.length_pos_iff.mpr (numL_ne n)
  have e := num_canon fg ne
  have v : wval (numL n) = n := numL_val n
  rw [v, decide_eq_true rfl] at e
  unfold goodW numOk
  rw [v, fg, decide_eq_true l13, decide_eq_true (show 1 ≤ (numL n).length from ne), ← e, decide_eq_true h]; rfl
/-! ### tables -/
def tabW (T : List Nat) : List (List (List Nat)) := (rws T).map wds
def readOk (T : List Nat) : Bool := (decide ((tabW T).length ≤ 6) && decide (((tabW T).headD []).length ≤ 6)) && ((tabW T).all fun r => decide (r.length = ((tabW T).headD []).length)) && (tabW T).all (·.all goodW)
def readT (T : List Nat) : List (List Int) := (tabW T).map (·.map fun w => (wval w : Int))
theorem bad_word {T : List Nat} {r : List (List Nat)} {w : List Nat} (hr : r ∈ tabW T) (hw : w ∈ r) (h : goodW w = false) : readOk T = false := by
  unfold readOk
  cases e : (tabW T).all (·.all goodW) with
  | false => rw [Bool.and_false]
  | true => rw [List.all_eq_true.mp (List.all_eq_true.mp e r hr) w hw] at h; cases h
theorem tabW_app (a b : List Nat) : tabW (a ++ 59 :: 32 :: b) = tabW a ++ tabW b := by unfold tabW; rw [rws_app, List.map_append]
theorem tabW_row {a : List Nat} (h : 59 ∉ a) : tabW a = [wds a] := by unfold tabW; rw [rws_free h]; rfl
/-- read sign by sign: is each word of figures, and none empty? -/
def scan : Bool → List Nat → Bool
  | q, [] => q
  | q, [c] => if isFig c then true else false
  | q, c :: d :: r => if isFig c then scan true (d :: r) else if c = 32 then q && scan false (d :: r) else if c = 59 then (if d = 32 then q && scan false r else false) else false
theorem isFig_no {c : Nat} (h : isFig c = true) : c ≠ 32 ∧ c ≠ 59 := by
  have h : (decide (48 ≤ c) && decide (c ≤ 57)) = true := h
  rw [Bool.and_eq_true, decide_eq_true_eq, decide_eq_true_eq] at h
  omega
def figW (w : List Nat) : Bool := !w.isEmpty && w.all isFig
/-- all words of figures; the first one may be empty where q -/
def allFig (q : Bool) (T : List Nat) : Bool := (((tabW T).headD []).headD []).all isFig && (q || !(((tabW T).headD []).headD []).isEmpty) && ((tabW T).headD []).tail.all figW && (tabW T).tail.all (·.all figW)
theorem figW_ne {w : List Nat} (h : figW w = true) : w.all isFig = true ∧ (!w.isEmpty) = true := by
  unfold figW at h
  rw [Bool.and_eq_true] at h
  exact ⟨h.2, h.1⟩
/-- how the first word, the others of its row, and the other rows stand -/
theorem tabW_ne (T : List Nat) : ∃ w ws t, tabW T = (w :: ws) :: t ∧ wds ((rws T).headD []) = w :: ws := by
  cases e : rws T with
  | nil => exact absurd e (rws_ne T)
  | cons h t =>
    cases e2 : wds h with
    | nil => exact absurd e2 (wds_ne h)
    | cons w ws =>
      refine ⟨w, ws, t.map wds, ?_, e2⟩
      unfold tabW
      rw [e, List.map_cons, e2]
theorem allFig_of {q : Bool} {T w : List Nat} {ws : List (List Nat)} {t : List (List (List Nat))} (e : tabW T = (w :: ws) :: t) : allFig q T = (w.all isFig && (q || !w.isEmpty) && ws.all figW && t.all (·.all figW)) := by
  unfold allFig; rw [e]; rfl
theorem tabW_sign {c d : Nat} {r : List Nat} (h : ¬ (c = 59 ∧ d = 32)) (h2 : c ≠ 32) {w : List Nat} {ws : List (List Nat)} {t : List (List (List Nat))} (e : tabW (d :: r) = (w :: ws) :: t) : tabW (c :: d :: r) = ((c :: w) :: ws) :: t := by
  unfold tabW at e ⊢
  rw [rws_sign h]
  cases e1 : rws (d :: r) with
  | nil => exact absurd e1 (rws_ne _)
  | cons a as =>
    rw [e1, List.map_cons] at e
    injection e with z1 z2
    rw [List.headD_cons, List.tail_cons, List.map_cons, wds_sign h2, z1, z2]
    rfl
theorem tabW_blank {d : Nat} {r : List Nat} {w : List Nat} {ws : List (List Nat)} {t : List (List (List Nat))} (e : tabW (d :: r) = (w :: ws) :: t) : tabW (32 :: d :: r) = ([] :: w :: ws) :: t := by
  unfold tabW at e ⊢
  rw [rws_sign (fun z => by cases z.1)]
  cases e1 : rws (d :: r) with
  | nil => exact absurd e1 (rws_ne _)
  | cons a as =>
    rw [e1, List.map_cons] at e
    injection e with z1 z2
    rw [List.headD_cons, List.tail_cons, List.map_cons, wds_blank, z1, z2]
theorem scan_of : ∀ (q : Bool) (T : List Nat), allFig q T = true → scan q T = true
  | q, [], h => by
    have e : allFig q [] = (true && (q || false) && true && true) := rfl
    rw [e] at h
    cases q
    · cases h
    · rfl
  | q, [c], h => by
    unfold scan
    by_cases f : isFig c = true
    · rw [if_pos f]
    · rw [if_neg f]
      exfalso
      by_cases c32 : c = 32
      · subst c32
        have e : tabW [32] = ([] :: [[]]) :: [] := rfl
        rw [allFig_of e] at h
        rw [show ([[]] : List (List Nat)).all figW = false from rfl, Bool.and_false, Bool.false_and] at h
        cases h
      · have e : tabW [c] = ([c] :: []) :: [] := by
          show [wds [c]] = _
          rw [wds_sign c32]; rfl
        rw [allFig_of e] at h
        rw [show [c].all isFig = false from by rw [List.all_cons, Bool.eq_false_iff.mpr f, Bool.false_and], Bool.false_and, Bool.false_and, Bool.false_and] at h
        cases h
  | q, c :: d :: r, h => by
    obtain ⟨w, ws, t, e, -⟩ := tabW_ne (d :: r)
    unfold scan
    by_cases f : isFig c = true
    · rw [if_pos f]
      obtain ⟨n32, n59⟩ := isFig_no f
      rw [allFig_of (tabW_sign (fun z => n59 z.1) n32 e)] at h
      refine scan_of true (d :: r) ?_
      rw [allFig_of e]
      rw [List.all_cons, f, Bool.true_and] at h
      simp only [Bool.and_eq_true] at h ⊢
      exact ⟨⟨⟨h.1.1.1, rfl⟩, h.1.2⟩, h.2⟩
    · rw [if_neg f]
      by_cases c32 : c = 32
      · rw [if_pos c32]
        subst c32
        rw [allFig_of (tabW_blank e)] at h
        have h : ((true && (q || false)) && (figW w && ws.all figW) && t.all (·.all figW)) = true := h
        simp only [Bool.and_eq_true, Bool.or_false, Bool.true_and] at h
        obtain ⟨⟨hq, hw, hws⟩, ht⟩ := h
        obtain ⟨g1, g2⟩ := figW_ne hw
        rw [hq, Bool.true_and]
        refine scan_of false (d :: r) ?_
        rw [allFig_of e, g1, g2, hws, ht]; rfl
      · rw [if_neg c32]
        have dead : ∀ {x : Bool}, ¬ (c = 59 ∧ d = 32) → x = true := fun n => by
          rw [allFig_of (tabW_sign n c32 e), List.all_cons, Bool.eq_false_iff.mpr f, Bool.false_and, Bool.false_and, Bool.false_and, Bool.false_and] at h
          cases h
        by_cases c59 : c = 59
        · rw [if_pos c59]
          by_cases d32 : d = 32
          · rw [if_pos d32]
            subst c59 d32
            obtain ⟨w', ws', t', e', -⟩ := tabW_ne r
            have e2 : tabW (59 :: 32 :: r) = ([] :: []) :: (w' :: ws') :: t' := by
              have := tabW_app [] r
              rw [List.nil_append, e'] at this
              exact this
            rw [allFig_of e2] at h
            have h : ((true && (q || false)) && true && ((figW w' && ws'.all figW) && t'.all (·.all figW))) = true := h
            simp only [Bool.and_eq_true, Bool.or_false, Bool.true_and, Bool.and_true] at h
            obtain ⟨hq, ⟨hw, hws⟩, ht⟩ := h
            obtain ⟨g1, g2⟩ := figW_ne hw
            rw [hq, Bool.true_and]
            refine scan_of false r ?_
            rw [allFig_of e', g1, g2, hws, ht]; rfl
          · exact dead fun z => d32 z.2
        · exact dead fun z => c59 z.1
theorem goodW_fig {w : List Nat} (h : goodW w = true) : figW w = true := by
  unfold goodW at h
  rw [Bool.and_eq_true] at h
  obtain ⟨l1, -, fg⟩ := numOk_len h.1
  unfold figW
  rw [fg, Bool.and_true]
  cases w with
  | nil => exact absurd l1 (by decide)
  | cons _ _ => rfl
/-- what the scan throws out is no table -/
theorem scan_no {T : List Nat} (h : scan false T = false) : readOk T = false := by
  cases e : readOk T with
  | false => rfl
  | true =>
    exfalso
    unfold readOk at e
    rw [Bool.and_eq_true] at e
    have all := List.all_eq_true.mp e.2
    obtain ⟨w, ws, t, et, -⟩ := tabW_ne T
    rw [et] at all
    have a0 := List.all_eq_true.mp (all _ List.mem_cons_self)
    obtain ⟨g1, g2⟩ := figW_ne (goodW_fig (a0 _ List.mem_cons_self))
    have : allFig false T = true := by
      rw [allFig_of et, g1, g2]
      rw [List.all_eq_true.mpr fun x hx => goodW_fig (a0 x (List.mem_cons_of_mem _ hx))]
      rw [List.all_eq_true.mpr fun x hx => List.all_eq_true.mpr fun y hy => goodW_fig (List.all_eq_true.mp (all x (List.mem_cons_of_mem _ hx)) y hy)]
      rfl
    rw [scan_of false T this] at h
    cases h
/-! ### a table's own text -/
def numN (n : Int) : List Nat := numL n.toNat
def rowN (r : List Int) : List Nat := TL.joinL [32] (r.map numN)
def tabN (tb : List (List Int)) : List Nat := TL.joinL [59, 32] (tb.map rowN)
theorem joinL_snoc (S : List Nat) : ∀ (ps : List (List Nat)) (p : List Nat), TL.joinL S (ps ++ [p]) = if ps = [] then p else TL.joinL S ps ++ (S ++ p)
  | [], p => rfl
  | [q], p => rfl
  | q :: q' :: ps, p => by
    have ih := joinL_snoc S (q' :: ps) p
    rw [if_neg (by simp)] at ih ⊢
    show q ++ (S ++ TL.joinL S (q' :: ps ++ [p])) = q ++ (S ++ TL.joinL S (q' :: ps)) ++ (S ++ p)
    rw [ih]
    simp [List.append_assoc]
theorem mem_joinL {S : List Nat} {x : Nat} : ∀ {ps : List (List Nat)}, x ∈ TL.joinL S ps → x ∈ S ∨ ∃ p ∈ ps, x ∈ p
  | [], h => by cases h
  | [p], h => .inr ⟨p, List.mem_cons_self, h⟩
  | p :: q :: r, h => by
    have h : x ∈ p ++ (S ++ TL.joinL S (q :: r)) := h
    rcases List.mem_append.mp h with h | h
    · exact .inr ⟨p, List.mem_cons_self, h⟩
    · rcases List.mem_append.mp h with h | h
      · exact .inl h
      · rcases mem_joinL h with h | ⟨z, hz, h⟩
        · exact .inl h
        · exact .inr ⟨z, List.mem_cons_of_mem _ hz, h⟩
theorem rowN_free (r : List Int) : 59 ∉ rowN r := fun h => by
  rcases mem_joinL h with h | ⟨p, hp, h⟩
  · simp at h
  · obtain ⟨n, _, rfl⟩ := List.mem_map.mp hp
    exact numL_free (.inr (by decide)) h
theorem wds_rowN {r : List Int} (h : r ≠ []) : wds (rowN r) = r.map numN := by
  have e := spl_join (s := 32) (S := []) (parts := r.map numN) (fun z => h (List.map_eq_nil_iff.mp z)) fun p hp => by
    obtain ⟨n, _, rfl⟩ := List.mem_map.mp hp
    exact numL_free (.inl (by decide))
  rw [wds_spl, List.nil_append, head_tail (wds_ne _)] at e
  exact e
theorem rws_tabN {tb : List (List Int)} (h : tb ≠ []) : rws (tabN tb) = tb.map rowN := by
  have e := spl_join (s := 59) (S := [32]) (parts := tb.map rowN) (fun z => h (List.map_eq_nil_iff.mp z)) fun p hp => by
    obtain ⟨r, _, rfl⟩ := List.mem_map.mp hp
    exact rowN_free r
  rw [rws_spl, List.nil_append, head_tail (rws_ne _)] at e
  exact e
structure TabG (tb : List (List Int)) (n w : Nat) : Prop where
  n1 : 1 ≤ n
  n6 : n ≤ 6
  w1 : 1 ≤ w
  w6 : w ≤ 6
  len : tb.length = n
  row : ∀ r ∈ tb, r.length = w ∧ ∀ y ∈ r, 0 ≤ y ∧ y ≤ 1000000000000
theorem TabG.ne {tb : List (List Int)} {n w : Nat} (G : TabG tb n w) : tb ≠ [] := fun z => by have := G.len; have := G.n1; rw [z] at *; simp at *; omega
theorem TabG.rne {tb : List (List Int)} {n w : Nat} (G : TabG tb n w) {r : List Int} (h : r ∈ tb) : r ≠ [] := fun z => by have := (G.row r h).1; have := G.w1; rw [z] at *; simp at *; omega
theorem tabW_tabN {tb : List (List Int)} {n w : Nat} (G : TabG tb n w) : tabW (tabN tb) = tb.map (·.map numN) := by
  unfold tabW
  rw [rws_tabN G.ne, List.map_map]
  exact List.map_congr_left fun r hr => wds_rowN (G.rne hr)
theorem numN_val {y : Int} (h : 0 ≤ y) : ((wval (numN y) : Nat) : Int) = y := by
  show ((NumText.digitsVal (numL y.toNat) : Nat) : Int) = y
  rw [numL_val]
  omega
theorem readT_tabN {tb : List (List Int)} {n w : Nat} (G : TabG tb n w) : readT (tabN tb) = tb := by
  unfold readT
  rw [tabW_tabN G, List.map_map]
  refine (List.map_congr_left fun r hr => ?_).trans (List.map_id tb)
  show (r.map numN).map _ = r
  rw [List.map_map]
  exact (List.map_congr_left fun y hy => numN_val ((G.row r hr).2 y hy).1).trans (List.map_id r)
theorem goodW_numN {y : Int} (h : 0 ≤ y ∧ y ≤ 1000000000000) : goodW (numN y) = true := numOk_num (by omega)
theorem TabG.head {tb : List (List Int)} {n w : Nat} (G : TabG tb n w) : ∃ r0 tb', tb = r0 :: tb' ∧ r0.length = w := by
  cases tb with
  | nil => exact absurd rfl G.ne
  | cons r t => exact ⟨r, t, rfl, (G.row r List.mem_cons_self).1⟩
theorem readOk_tabN {tb : List (List Int)} {n w : Nat} (G : TabG tb n w) : readOk (tabN tb) = true := by
  obtain ⟨r0, t', e0, l0⟩ := G.head
  have hd : (tabW (tabN tb)).headD [] = r0.map numN := by rw [tabW_tabN G, e0]; rfl
  unfold readOk
  rw [hd, tabW_tabN G, List.length_map, List.length_map, l0, G.len, decide_eq_true G.n6, decide_eq_true G.w6]
  rw [List.all_eq_true.mpr fun x hx => by
    obtain ⟨r, hr, rfl⟩ := List.mem_map.mp hx
    exact decide_eq_true (by rw [List.length_map]; exact (G.row r hr).1)]
  rw [List.all_eq_true.mpr fun x hx => by
    obtain ⟨r, hr, rfl⟩ := List.mem_map.mp hx
    exact List.all_eq_true.mpr fun y hy => by
      obtain ⟨z, hz, rfl⟩ := List.mem_map.mp hy
      exact goodW_numN ((G.row r hr).2 z hz)]
  rfl
end Kp15
set_option Elab.async false
set_option linter.all false
set_option maxRecDepth 100000
set_option maxHeartbeats 1000000
namespace Kp15
open PySem PySem.Spec PyProof.Rows L2 Vf
/-! ### texts read -/
open TL
def fitS (s : Str) : Prop := s.length ≤ 2000
def sp_isnum : Sp := fun vs H Q _ => ∃ (s : Str), vs = [.str s, .int 13] ∧ fitS s ∧ ∀ H', Same H H' → Q (.bl (numOk (tl s))) H'
def sp_read_number (N5 : Addr) : Sp := fun vs H Q E => ∃ (s : Str), vs = [.str s] ∧ fitS s ∧ (numOk (tl s) = false → ∀ H', Same H H' → E (.ref N5) none H') ∧ (numOk (tl s) = true → ∀ H', Same H H' → Q (.int (wval (tl s) : Nat)) H')
def sp_read_row (N5 : Addr) : Sp := fun vs H Q E => ∃ (s : Str), vs = [.str s] ∧ fitS s ∧ ((wds (tl s)).all numOk = false → ∀ H', Same H H' → E (.ref N5) none H') ∧
  ((wds (tl s)).all numOk = true → ∀ (H' : Hp) (D : Addr), Same H H' → H D = none → H' D = some (.lst (((wds (tl s)).map fun w => (wval w : Int)).map V.int)) → Q (.ref D) H')
def txtOk (d : Dt) : Bool := match d with
  | .str s => readOk (tl s)
  | _ => false
def sp_read_table (K : PySem.W.Frag) (N5 : Addr) : Sp := fun vs H Q E => ∃ v d, vs = [v] ∧ Rp K H v d ∧ (∀ s, d = .str s → fitS s) ∧ (txtOk d = false → ∀ H', Same H H' → E (.ref N5) none H') ∧
  (∀ s, d = .str s → readOk (tl s) = true → ∀ (H' : Hp) (D : Addr) (ls : List Addr), Same H H' → H D = none → H' D = some (.lst (ls.map V.ref)) → RowsF H H' ls (rowsV (readT (tl s))) → (∀ l ∈ ls, l ≠ D) → Q (.ref D) H')
theorem tl_figs : tl ("0123456789" : Str) = [48, 49, 50, 51, 52, 53, 54, 55, 56, 57] := by decide +kernel
theorem fig_in (c : Nat) : decide (c ∈ (("0123456789" : Str)).cps.toList) = isFig c := by
  rw [show (("0123456789" : Str)).cps.toList = [48, 49, 50, 51, 52, 53, 54, 55, 56, 57] from tl_figs]
  show _ = (decide (48 ≤ c) && decide (c ≤ 57))
  rw [← Bool.decide_and]
  refine decide_eq_decide.mpr ⟨fun h => ?_, fun h => ?_⟩
  · simp only [List.mem_cons, List.not_mem_nil, or_false] at h
    omega
  · simp only [List.mem_cons, List.not_mem_nil, or_false]
    omega
theorem fitS_len {s : Str} (h : fitS s) : s.length ≤ sizeLine := Nat.le_trans h (by decide)
theorem tl_cps (s : Str) (i : Nat) : (tl s)[i]? = s.cps[i]? := by unfold TL.tl; rw [Array.getElem?_toList]
section
variable {P : Program} {w : World} {K : PySem.W.Frag} {mg : Str → Option Value} {base : Heap} {C : Nat → Addr} {tG tL : Tok}
theorem sc_is_number_text : FnScope ["text", "longest", "sign"] ["text", "longest"] (defScope s_is_number_text) :=
  ⟨rfl, rfl, rfl, by decide +kernel, rfl, by decide +kernel, by decide +kernel⟩
theorem ok_isnum {f : Addr} {fd : FuncData} (F : Fun K "is_number_text" "is_number_text" s_is_number_text f fd) (T : Txt K mg C tG tL) : FnOk P w K mg base CX0 1 f fd ["text", "longest"] sp_isnum := by
  refine F.ok sc_is_number_text (fun vs H Q E ⟨s, e, _⟩ => by rw [e]; rfl) (fun cdv A outer s0 H vs Q E hr h => ?_)
  obtain ⟨s, rfl, fs, q⟩ := h
  refine ⟨_, (pss_cons (ps_if (pt_not (pt_chain op_le op_le pe_int (pe_callB call_len (by rfl) T.n_len (by decide +kernel) (pa_cons (pv 0) pa_nil)) (pv 1)))
  (pss_one (ps_ret pe_bl))
  pss_nil)
  (pss_cons (ps_if (pt_not (pt_val (pe_callB (allK (K := K) rfl rfl) (by rfl) T.n_all (by decide +kernel) (pa_cons (pe_lc (own := [("sign", 2)]) (by rfl) sc_is_number_text.nd (pi_str (pv 0)) (blkOk_by (own := [("sign", 2)]) (N := ["text", "longest", "sign"]) (sc := defScope s_is_number_text) (by decide +kernel)) (fun _ _ _ _ _ => (pg_name (i := 2) sc_is_number_text.nd rfl (by first | exact Or.inl rfl | exact Or.inr rfl))) (fun _ _ _ _ _ => pts_nil) (fun _ _ _ _ _ => (pe_cmpR op_in_sign (pv 2) (T.c_FIGURES.elim fun _ e => pe_glob (v := .str "0123456789") (by rfl) e ⟨_, rfl⟩) (by rfl)))) pa_nil))))
  (pss_one (ps_ret pe_bl))
  pss_nil)
  (pss_one (ps_ret (pe_or (pe_cmpR op_eq (pv 0) pe_str (nomark _)) (pe_one (pe_cmpR op_ne (pe_ix ix_str (pv 0) pe_int (fun _ _ => rfl)) pe_str (nomark _)))))))), ?_⟩
  have ls : (tl s).length = s.length := (len_tl s).symm
  have no : numOk (tl s) = false → ∀ H', Same H H' → Q (.bl false) H' := fun e H' g => by have := q H' g; rw [e] at this; exact this
  refine ⟨.str s, rfl, .str s, s.length, rfl, ⟨fitS_len fs, rfl⟩, 1, _, rfl, rfl, _, rfl, ite2 (fun e => ?_) (fun e => ?_)⟩
  rotate_left
  · refine ⟨_, rfl, ?_⟩
    refine no ?_ H (Same.refl _)
    unfold numOk
    rw [ls, decide_eq_false (p := 1 ≤ s.length) (fun z => e (decide_eq_true (by omega))), Bool.false_and, Bool.false_and, Bool.false_and]
  have e1 : 1 ≤ s.length := by have := of_decide_eq_true e; omega
  refine ⟨.int 13, rfl, _, _, rfl, rfl, _, rfl, ?_⟩
  by_cases e13 : s.length ≤ 13
  rotate_left
  · rw [decide_eq_false (p := ((s.length : Nat) : Int) ≤ 13) (by omega)]
    refine no ?_ H (Same.refl _)
    unfold numOk
    rw [ls, decide_eq_false (p := s.length ≤ 13) e13, Bool.and_false, Bool.false_and, Bool.false_and]
  rw [decide_eq_true (p := ((s.length : Nat) : Int) ≤ 13) (by omega)]
  refine ⟨.str s, rfl, s, rfl, fun X nX => ?_⟩
  refine lc_it walk_str (fun i H' => Same H H' ∧ H' X = some (.lst ((((tl s).take i).map isFig).map V.bl))) ⟨same_upd nX, upd_same⟩ (fun _ _ _ _ => trivial) (fun i x H' H'' hi p y => ?_) (fun H' p => ?_)
  · obtain ⟨sm, hX⟩ := p
    obtain ⟨rfl, c, hc, rfl⟩ := y
    have hc' : (tl s)[i]? = some c := by rw [tl_cps]; exact hc
    refine ⟨rfl, .str ⟨#[c]⟩, rfl, c, "0123456789", rfl, rfl, _, hX, ?_, fun b o eb => by rw [upd_ne (ne_of_none eb nX)]; exact sm b o eb, ?_⟩
    · rw [List.length_map, List.length_map, List.length_take]
      exact Nat.lt_of_le_of_lt (show _ ≤ 13 by omega) (by decide)
    · rw [upd_same, fig_in, List.take_add_one, hc', List.map_append, List.map_append]; rfl
  obtain ⟨sm, hX⟩ := p
  have et : (tl s).take s.cps.size = tl s := List.take_of_length_le (by rw [ls]; exact Nat.le_refl _)
  rw [et] at hX
  refine ⟨X, (tl s).map isFig, rfl, .inl (.inl hX), _, rfl, ?_⟩
  rw [List.all_map]
  cases ef : (tl s).all (id ∘ isFig) with
  | false =>
    have ef : (tl s).all isFig = false := ef
    refine no ?_ H' sm
    unfold numOk
    rw [ef, Bool.and_false, Bool.false_and]
  | true =>
    have ef : (tl s).all isFig = true := ef
    have eq : numOk (tl s) = (decide (tl s = [48]) || !decide ((tl s).head? = some 48)) := by
      unfold numOk
      rw [ls, ef, decide_eq_true e1, decide_eq_true e13]; rfl
    have q2 := q H' sm
    rw [eq] at q2
    have e0 : decide (s = ("0" : Str)) = decide (tl s = [48]) := decide_eq_decide.mpr ⟨fun z => by rw [z]; decide +kernel, fun z => ext_tl (by rw [z]; decide +kernel)⟩
    obtain ⟨c, r, ec⟩ : ∃ c r, tl s = c :: r := by
      cases e : tl s with
      | nil => rw [e] at ls; simp at ls; omega
      | cons c r => exact ⟨c, r, rfl⟩
    have eV : decide (V.str s = V.str "0") = decide (tl s = [48]) := by
      rw [← e0]
      exact decide_eq_decide.mpr ⟨fun z => V.str.inj z, fun z => by rw [z]⟩
    have e1c : tl (⟨#[c]⟩ : Str) = [c] := rfl
    have eC : (!decide (V.str (⟨#[c]⟩ : Str) = V.str "0")) = !decide ((tl s).head? = some 48) := by
      rw [ec]
      congr 1
      exact decide_eq_decide.mpr ⟨fun z => by
        have z := congrArg tl (V.str.inj z)
        rw [e1c, show tl ("0" : Str) = [48] from by decide +kernel] at z
        injection z with z
        rw [z]; rfl, fun z => by
        have z : c = 48 := by injection z
        have z2 : (⟨#[c]⟩ : Str) = "0" := ext_tl (by rw [e1c, z]; decide +kernel)
        rw [z2]⟩
    refine ⟨.str s, rfl, rfl, _, rfl, ?_⟩
    rw [eV]
    by_cases z : tl s = [48]
    · rw [decide_eq_true z] at q2 ⊢
      exact q2
    · rw [decide_eq_false z] at q2 ⊢
      refine ⟨.str s, rfl, s, 0, c, rfl, rfl, fitS_len fs, atI_nat (j := 0) (by rw [show s.cps.toList = c :: r from ec]; rfl), rfl, ?_⟩
      rw [eC]
      exact q2
theorem sc_read_number : FnScope ["text"] ["text"] (defScope s_read_number) :=
  ⟨rfl, rfl, rfl, by decide +kernel, rfl, by decide +kernel, by decide +kernel⟩
theorem ok_read_number {f : Addr} {fd : FuncData} (F : Fun K "read_number" "read_number" s_read_number f fd) (T : Txt K mg C tG tL) (c_is_number_text : Cal P w K mg base CX0 1 "is_number_text" ["text", "longest"] sp_isnum) : FnOk P w K mg base (L2N.CX P w) 2 f fd ["text"] (sp_read_number (C 5)) := by
  refine F.okN sc_read_number (fun vs H Q E ⟨s, e, _⟩ => by rw [e]; rfl) (fun cdv A outer s0 H vs Q E hr h => ?_)
  obtain ⟨s, rfl, fs, qE, qQ⟩ := h
  refine ⟨_, (pss_cons (ps_if (pt_not (pt_val (pe_cal c_is_number_text (hr.mono (by decide)) (by rfl) pass0 (pa_cons (pv 0) (pa_cons (pe_callB call_len (by rfl) T.n_len (by decide +kernel) (pa_cons (pe_callTy call_str_int (by rfl) T.n_str (by decide +kernel) (pa_cons (pe_glob (v := .int 1000000000000) (by rfl) T.c_GREATEST ⟨_, rfl⟩) pa_nil)) pa_nil)) pa_nil)))))
  (pss_one (L2N.ps_raise rfl (L2N.takes_of rfl rfl rfl rfl) (L2N.pmk_own PySem.F.excBase_ValueError T.NoText.x T.NoText.g T.NoText.k (raises_own T.NoText.b T.NoText.t) (by exact rfl))))
  pss_nil)
  (pss_one (ps_ret (pe_callTy call_int_str (by rfl) T.n_int (by decide +kernel) (pa_cons (pv 0) pa_nil))))), ?_⟩
  have e13 : 13 = ((toString (1000000000000 : Int) : String) : Str).length := by
    rw [len_tl]
    show 13 = (tl (Str.ofString (toString ((1000000000000 : Nat) : Int)))).length
    rw [tl_num]
    decide +kernel
  refine ⟨.str s, rfl, 1000000000000, rfl, by decide +kernel, .str _, 13, rfl, ⟨by rw [← e13]; decide, e13⟩, s, rfl, fs, fun H1 s1 => ⟨_, rfl, ?_⟩⟩
  cases e : numOk (tl s) with
  | false => exact qE e _ s1
  | true =>
    obtain ⟨l1, l13, fg⟩ := numOk_len e
    refine ⟨.str s, rfl, s, ((wval (tl s) : Nat) : Int), rfl, ?_, ?_, qQ e _ s1⟩
    · exact PySem.intText_digits (x := s) (figs_digits fg) (fun z => by rw [show tl s = [] from z] at l1; exact absurd l1 (by decide)) (by rw [len_tl]; omega)
    · rw [len_tl]; omega
end
end Kp15
set_option Elab.async false
set_option linter.all false
set_option maxRecDepth 100000
set_option maxHeartbeats 1000000
namespace Kp15
open PySem PySem.Spec PyProof.Rows L2 Vf
/-! ### rows that are read, as data -/
theorem counts_ok {d : Dt} {rs : List Int} (e : d.items = some (rs.map Dt.int)) (h1 : 1 ≤ rs.length) (h6 : rs.length ≤ 6) (hb : ∀ r ∈ rs, 0 ≤ r ∧ r ≤ 1000000000000) : areCounts d = true := by
  unfold areCounts isShort
  rw [e]
  have g : (rs.map Dt.int).all isCount = true := by
    rw [List.all_map, List.all_eq_true]
    intro r hr
    have := hb r hr
    show (decide (0 ≤ r) && decide (r ≤ 1000000000000)) = true
    rw [decide_eq_true this.1, decide_eq_true this.2]; rfl
  show ((decide (1 ≤ (rs.map Dt.int).length) && decide ((rs.map Dt.int).length ≤ 6)) && (rs.map Dt.int).all isCount) = true
  rw [g, List.length_map, decide_eq_true h1, decide_eq_true h6]; rfl
theorem formOf_items {d : Dt} {l : List Dt} {tb : List (List Int)} (e : d.items = some l) (h : l.map Dt.items = tb.map fun r => some (r.map Dt.int)) : formOf d = tb := by
  unfold formOf
  rw [e]
  show l.map rowI = tb
  have e1 : l.map rowI = (l.map Dt.items).map fun o => (o.getD []).map toI := by rw [List.map_map]; rfl
  rw [e1, h, List.map_map]
  refine (List.map_congr_left fun r _ => ?_).trans (List.map_id tb)
  exact toI_int r
theorem items_mem {l : List Dt} {tb : List (List Int)} (h : l.map Dt.items = tb.map fun r => some (r.map Dt.int)) {x : Dt} (hx : x ∈ l) : ∃ r ∈ tb, x.items = some (r.map Dt.int) := by
  have : x.items ∈ l.map Dt.items := List.mem_map_of_mem hx
  rw [h] at this
  obtain ⟨r, hr, e⟩ := List.mem_map.mp this
  exact ⟨r, hr, e.symm⟩
theorem form_ok {d : Dt} {l : List Dt} {tb : List (List Int)} {wd : Nat} (e : d.items = some l) (h : l.map Dt.items = tb.map fun r => some (r.map Dt.int)) (h1 : 1 ≤ tb.length) (h6 : tb.length ≤ 6) (w1 : 1 ≤ wd) (w6 : wd ≤ 6) (row : ∀ r ∈ tb, r.length = wd ∧ ∀ n ∈ r, 0 ≤ n ∧ n ≤ 1000000000000) : isForm d = true := by
  have hl : l.length = tb.length := by have := congrArg List.length h; rwa [List.length_map, List.length_map] at this
  have ln : ∀ x ∈ l, lenD x = wd ∧ areCounts x = true := fun x hx => by
    obtain ⟨r, hr, ex⟩ := items_mem h hx
    obtain ⟨a, b⟩ := row r hr
    refine ⟨by unfold lenD; rw [ex]; simpa using a, counts_ok ex (by omega) (by omega) b⟩
  have s1 : isShort d = true := by
    unfold isShort
    rw [e]
    show (decide (1 ≤ l.length) && decide (l.length ≤ 6)) = true
    rw [decide_eq_true (by omega), decide_eq_true (by omega)]; rfl
  unfold isForm
  rw [s1, e]
  show (true && l.all areCounts && l.all fun r => decide (lenD r = lenD (l.headD .non))) = true
  have a1 : l.all areCounts = true := List.all_eq_true.mpr fun x hx => (ln x hx).2
  have a2 : (l.all fun r => decide (lenD r = lenD (l.headD .non))) = true := List.all_eq_true.mpr fun x hx => by
    cases l with
    | nil => cases hx
    | cons y l => exact decide_eq_true ((ln x hx).1.trans (ln y List.mem_cons_self).1.symm)
  rw [a1, a2]; rfl
def rowD (r : List Int) : Dt := .lst (r.map Dt.int)
def gridD (tb : List (List Int)) : Dt := .lst (tb.map rowD)
theorem grid_items (tb : List (List Int)) : (tb.map rowD).map Dt.items = tb.map fun r => some (r.map Dt.int) := by
  rw [List.map_map]; rfl
theorem grid_form (tb : List (List Int)) : formOf (gridD tb) = tb := formOf_items (l := tb.map rowD) rfl (grid_items tb)
theorem TabG.form {tb : List (List Int)} {n w : Nat} (g : TabG tb n w) : isForm (gridD tb) = true :=
  form_ok (l := tb.map rowD) rfl (grid_items tb) (by rw [g.len]; exact g.n1) (by rw [g.len]; exact g.n6) g.w1 g.w6 g.row
theorem lenD_row (r : List Int) : lenD (rowD r) = r.length := by
  show (r.map Dt.int).length = _
  rw [List.length_map]
theorem wds_len : ∀ T : List Nat, (wds T).length ≤ T.length + 1 ∧ ∀ w ∈ wds T, w.length ≤ T.length
  | [] => ⟨Nat.le_refl _, fun w h => by obtain rfl : w = [] := by simpa [wds] using h
                                        exact Nat.le_refl _⟩
  | c :: r => by
    obtain ⟨h1, h2⟩ := wds_len r
    by_cases h : c = 32
    · subst h
      rw [wds_blank]
      refine ⟨by rw [List.length_cons, List.length_cons]; omega, fun w hw => ?_⟩
      rcases List.mem_cons.mp hw with rfl | hw
      · exact Nat.zero_le _
      · exact Nat.le_succ_of_le (h2 w hw)
    · rw [wds_sign h]
      cases e : wds r with
      | nil => exact absurd e (wds_ne r)
      | cons a as =>
        rw [e] at h1 h2
        refine ⟨by rw [List.tail_cons, List.length_cons, List.length_cons]; rw [List.length_cons] at h1; omega, fun w hw => ?_⟩
        rw [List.headD_cons, List.tail_cons] at hw
        rcases List.mem_cons.mp hw with rfl | hw
        · have := h2 a List.mem_cons_self
          rw [List.length_cons, List.length_cons]
          omega
        · exact Nat.le_succ_of_le (h2 w (List.mem_cons_of_mem _ hw))
theorem rws_len : ∀ T : List Nat, (rws T).length ≤ T.length + 1 ∧ ∀ w ∈ rws T, w.length ≤ T.length
  | [] => ⟨Nat.le_refl _, fun w h => by obtain rfl : w = [] := by simpa [rws] using h
                                        exact Nat.le_refl _⟩
  | [c] => ⟨by show 1 ≤ 2; decide, fun w h => by obtain rfl : w = [c] := by simpa [rws] using h
                                                 exact Nat.le_refl _⟩
  | c :: d :: r => by
    by_cases h : c = 59 ∧ d = 32
    · obtain ⟨rfl, rfl⟩ := h
      obtain ⟨h1, h2⟩ := rws_len r
      rw [rws_semi]
      refine ⟨by simp only [List.length_cons]; omega, fun w hw => ?_⟩
      rcases List.mem_cons.mp hw with rfl | hw
      · exact Nat.zero_le _
      · have := h2 w hw
        simp only [List.length_cons]
        omega
    · obtain ⟨h1, h2⟩ := rws_len (d :: r)
      rw [rws_sign h]
      cases e : rws (d :: r) with
      | nil => exact absurd e (rws_ne _)
      | cons a as =>
        rw [e] at h1 h2
        refine ⟨by rw [List.tail_cons, List.length_cons, List.length_cons]; rw [List.length_cons] at h1; omega, fun w hw => ?_⟩
        rw [List.headD_cons, List.tail_cons] at hw
        rcases List.mem_cons.mp hw with rfl | hw
        · have := h2 a List.mem_cons_self
          rw [List.length_cons] at *
          simp only [List.length_cons] at *
          omega
        · have := h2 w (List.mem_cons_of_mem _ hw)
          simp only [List.length_cons] at *
          omega
/-- the numbers' form is the words' -/
theorem form_read {T : List Nat} (h : ∀ r ∈ tabW T, r.all numOk = true) : isForm (gridD (readT T)) = readOk T := by
  have gw : ∀ r ∈ tabW T, ∀ w ∈ r, goodW w = decide (wval w ≤ 1000000000000) := fun r hr w hw => by
    unfold goodW
    rw [List.all_eq_true.mp (h r hr) w hw, Bool.true_and]
  have ne : tabW T ≠ [] := by
    obtain ⟨w, ws, t, e, _⟩ := tabW_ne T
    rw [e]; simp
  have rne : ∀ r ∈ tabW T, r ≠ [] := fun r hr => by
    obtain ⟨a, _, rfl⟩ := List.mem_map.mp hr
    exact wds_ne a
  have rl : (readT T).length = (tabW T).length := List.length_map ..
  cases e : readOk T with
  | true =>
    unfold readOk at e
    rw [Bool.and_eq_true, Bool.and_eq_true, Bool.and_eq_true, decide_eq_true_eq, decide_eq_true_eq] at e
    obtain ⟨⟨⟨n6, w6⟩, eqs⟩, goods⟩ := e
    have hd : ∃ r0 t, tabW T = r0 :: t := by
      cases e : tabW T with
      | nil => exact absurd e ne
      | cons r t => exact ⟨r, t, rfl⟩
    obtain ⟨r0, t, e0⟩ := hd
    have h0 : (tabW T).headD [] = r0 := by rw [e0]; rfl
    rw [h0] at w6 eqs
    have r0ne := rne r0 (by rw [e0]; exact List.mem_cons_self)
    refine TabG.form (n := (tabW T).length) (w := r0.length) ⟨List.length_pos_iff.mpr ne, n6, List.length_pos_iff.mpr r0ne, w6, rl, fun r hr => ?_⟩
    obtain ⟨ws, hws, rfl⟩ := List.mem_map.mp hr
    refine ⟨by rw [List.length_map]; exact of_decide_eq_true (List.all_eq_true.mp eqs ws hws), fun y hy => ?_⟩
    obtain ⟨w, hw, rfl⟩ := List.mem_map.mp hy
    have g := List.all_eq_true.mp (List.all_eq_true.mp goods ws hws) w hw
    rw [gw ws hws w hw] at g
    have g := of_decide_eq_true g
    omega
  | false =>
    rw [Bool.eq_false_iff]
    intro f
    obtain ⟨l, wd, F⟩ := form_at f
    obtain rfl : (readT T).map rowD = l := Option.some.inj F.el
    have l6 := F.l6
    rw [List.length_map, rl] at l6
    have rows : ∀ ws ∈ tabW T, ws.length = wd ∧ ∀ w ∈ ws, wval w ≤ 1000000000000 := fun ws hws => by
      have hm : rowD (ws.map fun w => (wval w : Int)) ∈ (readT T).map rowD := List.mem_map_of_mem (List.mem_map_of_mem hws)
      obtain ⟨hc, hl⟩ := F.rows _ hm
      rw [lenD_row, List.length_map] at hl
      refine ⟨hl, fun w hw => ?_⟩
      unfold areCounts at hc
      rw [Bool.and_eq_true] at hc
      have := List.all_eq_true.mp hc.2 (.int (wval w : Nat)) (List.mem_map_of_mem (List.mem_map_of_mem hw))
      have : (decide (0 ≤ ((wval w : Nat) : Int)) && decide (((wval w : Nat) : Int) ≤ 1000000000000)) = true := this
      rw [Bool.and_eq_true, decide_eq_true_eq, decide_eq_true_eq] at this
      omega
    obtain ⟨r0, t, e0⟩ : ∃ r0 t, tabW T = r0 :: t := by
      cases e : tabW T with
      | nil => exact absurd e ne
      | cons r t => exact ⟨r, t, rfl⟩
    have h0 : (tabW T).headD [] = r0 := by rw [e0]; rfl
    have r0m : r0 ∈ tabW T := by rw [e0]; exact List.mem_cons_self
    have w6 := F.w6
    have : readOk T = true := by
      unfold readOk
      rw [h0, decide_eq_true l6, decide_eq_true (p := r0.length ≤ 6) (by have := (rows r0 r0m).1; omega)]
      rw [List.all_eq_true.mpr fun r hr => decide_eq_true (p := r.length = r0.length) ((rows r hr).1.trans (rows r0 r0m).1.symm)]
      rw [List.all_eq_true.mpr fun r hr => List.all_eq_true.mpr fun w hw => by rw [gw r hr w hw]; exact decide_eq_true ((rows r hr).2 w hw)]
      rfl
    rw [this] at e
    cases e
/-- words that are no numbers -/
theorem words_no {T : List Nat} {a : List Nat} (ha : a ∈ rws T) (h : (wds a).all numOk = false) : readOk T = false := by
  obtain ⟨w, hw, hn⟩ := List.all_eq_false.mp h
  refine bad_word (List.mem_map_of_mem ha) hw ?_
  unfold goodW
  rw [Bool.eq_false_iff.mpr hn, Bool.false_and]
theorem rp_ints2 {K : PySem.W.Frag} {H : Hp} : ∀ rs : List Int, RpL K H (rs.map V.int) (rs.map Dt.int)
  | [] => .nil
  | r :: rs => .cons (.int r) (rp_ints2 rs)
theorem rowsF_rp {K : PySem.W.Frag} {H H' : Hp} : ∀ {ls : List Addr} {tb : List (List Int)}, RowsF H H' ls (rowsV tb) → RpL K H' (ls.map V.ref) (tb.map rowD)
  | _, [], r => by cases r; exact .nil
  | _, t :: tb, r => by
    cases r with
    | cons h1 h2 r => exact .cons (.lst (SqL.of h2) (rp_ints2 t)) (rowsF_rp r)
inductive RowsN (H : Hp) : List Addr → List (List Int) → Prop
  | nil : RowsN H [] []
  | cons {l : Addr} {ls : List Addr} {r : List Int} {tb : List (List Int)} : H l = some (.lst (r.map V.int)) → RowsN H ls tb → RowsN H (l :: ls) (r :: tb)
theorem RowsN.keep {H H' : Hp} : ∀ {ls : List Addr} {tb : List (List Int)}, RowsN H ls tb → (∀ l ∈ ls, ∀ o, H l = some o → H' l = some o) → RowsN H' ls tb
  | _, _, .nil, _ => .nil
  | _, _, .cons h r, f => .cons (f _ List.mem_cons_self _ h) (r.keep fun l hl => f l (List.mem_cons_of_mem _ hl))
theorem RowsN.same {H H' : Hp} {ls : List Addr} {tb : List (List Int)} (r : RowsN H ls tb) (s : Same H H') : RowsN H' ls tb := r.keep fun l _ o e => s l o e
theorem RowsN.length {H : Hp} : ∀ {ls : List Addr} {tb : List (List Int)}, RowsN H ls tb → ls.length = tb.length
  | _, _, .nil => rfl
  | _, _, .cons _ r => congrArg (· + 1) (RowsN.length r)
theorem RowsN.get {H : Hp} : ∀ {ls : List Addr} {tb : List (List Int)} {i : Nat} {l : Addr}, RowsN H ls tb → ls[i]? = some l → ∃ r, tb[i]? = some r ∧ H l = some (.lst (r.map V.int))
  | _, _, _, _, .nil, e => by simp at e
  | _, _, 0, _, .cons h _, e => by
    obtain rfl := Option.some.inj e
    exact ⟨_, rfl, h⟩
  | _, _, i + 1, l, .cons _ r, e => RowsN.get (i := i) (l := l) r e
theorem RowsN.append {H : Hp} {ls ls' : List Addr} {tb tb' : List (List Int)} : RowsN H ls tb → RowsN H ls' tb' → RowsN H (ls ++ ls') (tb ++ tb')
  | .nil, r => r
  | .cons h q, r => .cons h (RowsN.append q r)
theorem RowsN.there {H : Hp} : ∀ {ls : List Addr} {tb : List (List Int)}, RowsN H ls tb → ∀ l ∈ ls, ∃ o, H l = some o
  | _, _, .nil, _, z => nomatch z
  | _, _, .cons h r, l, z => by
    rcases List.mem_cons.mp z with rfl | z
    · exact ⟨_, h⟩
    · exact r.there l z
end Kp15
set_option Elab.async false
set_option linter.all false
set_option maxRecDepth 100000
set_option maxHeartbeats 1000000
namespace Kp15
open PySem PySem.Spec PyProof.Rows L2 Vf
/-! ### rows and tables read -/
open TL
theorem part_at {s : Str} {y : Str} {f : List Nat → List (List Nat)} (e : (Txt.split s y).map tl = f (tl s)) {i : Nat} {x : V} (hx : ((Txt.split s y).map V.str)[i]? = some x) : ∃ p : Str, x = .str p ∧ (f (tl s))[i]? = some (tl p) ∧ tl p ∈ f (tl s) := by
  obtain ⟨p, hp, rfl⟩ := some_get hx
  have : (f (tl s))[i]? = some (tl p) := by rw [← e, List.getElem?_map, hp]; rfl
  exact ⟨p, rfl, this, List.mem_of_getElem? this⟩
section
variable {P : Program} {w : World} {K : PySem.W.Frag} {mg : Str → Option Value} {base : Heap} {C : Nat → Addr} {tG tL : Tok}
theorem sc_read_row : FnScope ["text", "part"] ["text"] (defScope s_read_row) :=
  ⟨rfl, rfl, rfl, by decide +kernel, rfl, by decide +kernel, by decide +kernel⟩
theorem ok_read_row {f : Addr} {fd : FuncData} (F : Fun K "read_row" "read_row" s_read_row f fd) (T : Txt K mg C tG tL) (c_read_number : Cal P w K mg base (L2N.CX P w) 2 "read_number" ["text"] (sp_read_number (C 5))) : FnOk P w K mg base (L2N.CX P w) 3 f fd ["text"] (sp_read_row (C 5)) := by
  refine F.okN sc_read_row (fun vs H Q E ⟨s, e, _⟩ => by rw [e]; rfl) (fun cdv A outer s0 H vs Q E hr h => ?_)
  obtain ⟨s, rfl, fs, qE, qQ⟩ := h
  have ls := len_tl s
  have fs' : s.length ≤ 2000 := fs
  have sz := sizeLine_eq
  obtain ⟨wl, wm⟩ := wds_len (tl s)
  have el : (Txt.split s " ").length = (wds (tl s)).length := by rw [← split_words, List.length_map]
  refine ⟨_, (pss_one (ps_ret (pe_lcX (own := [("part", 1)]) (by rfl) (L2N.takes_of rfl rfl rfl rfl) rfl rfl sc_read_row.nd (pi_list (pe_split (pv 0) pe_str)) (blkOk_by (own := [("part", 1)]) (N := ["text", "part"]) (sc := defScope s_read_row) (by decide +kernel)) (fun _ _ _ _ _ _ => (pg_name (i := 1) sc_read_row.nd rfl (by first | exact Or.inl rfl | exact Or.inr rfl))) (fun _ _ _ _ _ _ => pts_nil) (fun _ _ _ _ _ _ px => (pe_cal c_read_number (hr.mono (by decide)) (by rfl) (px _ (fun _ _ _ h => h)) (pa_cons (pv 1) pa_nil)))))), ?_⟩
  refine ⟨.str s, rfl, ⟨_, rfl⟩, s, " ", rfl, rfl, by decide +kernel, by omega, fun p np => ?_⟩
  have k1 := same_upd (o := .lst ((Txt.split s " ").map V.str)) np
  have hp : (upd H p (.lst ((Txt.split s " ").map V.str))) p = some (.lst ((Txt.split s " ").map V.str)) := upd_same
  generalize upd H p (.lst ((Txt.split s " ").map V.str)) = H1 at k1 hp ⊢
  refine ⟨p, rfl, ⟨_, SqL.of hp⟩, fun X nX => ?_⟩
  refine lc_list (K := K) (xs := (Txt.split s " ").map V.str) (fun i H' => Same H1 H' ∧ H' X = some (.lst ((((wds (tl s)).take i).map fun w => (wval w : Int)).map V.int)) ∧ ∀ w ∈ (wds (tl s)).take i, numOk w = true) ⟨same_upd nX, upd_same, fun _ z => nomatch z⟩ (fun i H' _ p' => p'.1.seq (SqL.of hp)) (fun i x H' hx p' => ?_) (fun H' p' => ?_)
  · obtain ⟨sm, hX, hall⟩ := p'
    obtain ⟨q, rfl, hq, hm⟩ := part_at (split_words s) hx
    have fq : fitS q := by show q.length ≤ 2000; rw [len_tl q]; have := wm _ hm; omega
    refine ⟨rfl, .str q, rfl, q, rfl, fq, fun nf H2 s2 => qE ?_ _ ((k1.trans sm).trans s2), fun ok H2 s2 => ⟨_, s2 _ _ hX, ?_, fun b o eb => by rw [upd_ne (ne_of_none eb nX)]; exact s2 _ _ (sm b o eb), ?_, fun w hw => ?_⟩⟩
    · exact List.all_eq_false.mpr ⟨_, hm, by rw [nf]; decide⟩
    · rw [List.length_map, List.length_map, List.length_take]
      exact Nat.lt_of_le_of_lt (Nat.min_le_right _ _) (by omega)
    · rw [upd_same, List.take_add_one, hq, List.map_append, List.map_append]; rfl
    · rw [List.take_add_one, hq] at hw
      rcases List.mem_append.mp hw with z | z
      · exact hall w z
      · obtain rfl : w = tl q := by simpa using z
        exact ok
  obtain ⟨sm, hX, hall⟩ := p'
  rw [List.length_map, el, List.take_length] at hX hall
  exact qQ (List.all_eq_true.mpr hall) H' X (k1.trans sm) (k1.free nX) hX
theorem sc_read_table : FnScope ["text", "rows", "part"] ["text"] (defScope s_read_table) :=
  ⟨rfl, rfl, rfl, by decide +kernel, rfl, by decide +kernel, by decide +kernel⟩
theorem ok_read_table {f : Addr} {fd : FuncData} (F : Fun K "read_table" "read_table" s_read_table f fd) (T : Txt K mg C tG tL) (c_read_row : Cal P w K mg base (L2N.CX P w) 3 "read_row" ["text"] (sp_read_row (C 5))) (c_has_table_form : Cal P w K mg base CX0 4 "has_table_form" ["thing"] (sp_has_form K)) : FnOk P w K mg base (L2N.CX P w) 5 f fd ["text"] (sp_read_table K (C 5)) := by
  refine F.okN sc_read_table (fun vs H Q E ⟨v, d, e, _⟩ => by rw [e]; rfl) (fun cdv A outer s0 H vs Q E hr h => ?_)
  obtain ⟨v, d, rfl, R, fS, qE, qQ⟩ := h
  have sz := sizeLine_eq
  refine ⟨_, (pss_cons (ps_if (pt_not (pt_val (pe_callB (isiK (K := K) rfl) (by rfl) T.n_isinstance (by decide +kernel) (pa_cons (pv 0) (pa_cons (pe_bltn (v := .ty "str") (by rfl) T.n_str (by decide +kernel) rfl) pa_nil)))))
  (pss_one (L2N.ps_raise rfl (L2N.takes_of rfl rfl rfl rfl) (L2N.pmk_own PySem.F.excBase_ValueError T.NoText.x T.NoText.g T.NoText.k (raises_own T.NoText.b T.NoText.t) (by exact rfl))))
  pss_nil)
  (pss_cons (ps_setLcX (i := 1) (own := [("part", 2)]) (by rfl) (L2N.takes_of rfl rfl rfl rfl) rfl rfl sc_read_table.nd rfl rfl (sw_true rfl rfl rfl (by decide +kernel)) (pi_list (pe_split (pv 0) pe_str)) (blkOk_by (own := [("part", 2)]) (N := ["text", "rows", "part"]) (sc := defScope s_read_table) (by decide +kernel)) (fun _ _ _ _ _ _ => (pg_name (i := 2) sc_read_table.nd rfl (by first | exact Or.inl rfl | exact Or.inr rfl))) (fun _ _ _ _ _ _ => pts_nil) (fun _ _ _ _ _ _ px => (pe_cal c_read_row (hr.mono (by decide)) (by rfl) (px _ (fun _ _ _ h => h)) (pa_cons (pv 2) pa_nil))))
  (pss_cons (ps_if (pt_not (pt_val (pe_cal c_has_table_form (hr.mono (by decide)) (by rfl) pass0 (pa_cons (pv 1) pa_nil))))
  (pss_one (L2N.ps_raise rfl (L2N.takes_of rfl rfl rfl rfl) (L2N.pmk_own PySem.F.excBase_ValueError T.NoText.x T.NoText.g T.NoText.k (raises_own T.NoText.b T.NoText.t) (by exact rfl))))
  pss_nil)
  (pss_one (ps_ret (pv 1)))))), ?_⟩
  refine ⟨v, rfl, v, _, _, _, d.isStr, rfl, .ty _, R.ty, kit_ty (isa_str d), _, rfl, ?_⟩
  cases ed : d.isStr with
  | false => exact qE (by cases d <;> first | rfl | (cases ed; done)) _ (Same.refl _)
  | true =>
    obtain ⟨s, rfl⟩ : ∃ s, d = .str s := by cases d <;> first | exact ⟨_, rfl⟩ | (cases ed; done)
    cases R
    have fs := fS s rfl
    have qE : readOk (tl s) = false → _ := qE
    have qQ := qQ s rfl
    have ls := len_tl s
    have fs' : s.length ≤ 2000 := fs
    obtain ⟨wl, wm⟩ := rws_len (tl s)
    have el : (Txt.split s "; ").length = (rws (tl s)).length := by rw [← split_rows, List.length_map]
    refine ⟨.str s, rfl, ⟨_, rfl⟩, s, "; ", rfl, rfl, by decide +kernel, by omega, fun p np => ?_⟩
    have k1 := same_upd (o := .lst ((Txt.split s "; ").map V.str)) np
    have hp : (upd H p (.lst ((Txt.split s "; ").map V.str))) p = some (.lst ((Txt.split s "; ").map V.str)) := upd_same
    generalize upd H p (.lst ((Txt.split s "; ").map V.str)) = H1 at k1 hp ⊢
    refine ⟨p, rfl, ⟨_, SqL.of hp⟩, fun X nX => ?_⟩
    refine lc_list (K := K) (xs := (Txt.split s "; ").map V.str) (fun i H' => Same H1 H' ∧ ∃ gs : List Addr, H' X = some (.lst (gs.map V.ref)) ∧ RowsF H1 H' gs (rowsV ((((rws (tl s)).take i).map wds).map (·.map fun w => (wval w : Int)))) ∧ (∀ k ∈ gs, k ≠ X) ∧ ∀ a ∈ (rws (tl s)).take i, (wds a).all numOk = true) ⟨same_upd nX, [], upd_same, .nil, (fun _ z => nomatch z), fun _ z => nomatch z⟩ (fun i H' _ p' => p'.1.seq (SqL.of hp)) (fun i x H' hx p' => ?_) (fun H' p' => ?_)
    · obtain ⟨sm, gs, hgs, hrows, hneg, hall⟩ := p'
      obtain ⟨q, rfl, hq, hm⟩ := part_at (split_rows s) hx
      have fq : fitS q := by show q.length ≤ 2000; rw [len_tl q]; have := wm _ hm; omega
      refine ⟨rfl, .str q, rfl, q, rfl, fq, fun nf H2 s2 => qE (words_no hm nf) _ ((k1.trans sm).trans s2), fun ok H2 D2 s2 nD2 hD2 => ?_⟩
      have nqX : D2 ≠ X := fun z => by rw [z, hgs] at nD2; cases nD2
      refine ⟨_, s2 _ _ hgs, ?_, fun b o eb => by rw [upd_ne (ne_of_none eb nX)]; exact s2 _ _ (sm b o eb), gs ++ [D2], by rw [upd_same, List.map_append]; rfl, ?_, fun y hy => ?_, fun a ha => ?_⟩
      · rw [List.length_map, hrows.length]
        unfold rowsV
        rw [List.length_map, List.length_map, List.length_map, List.length_take]
        exact Nat.lt_of_le_of_lt (Nat.min_le_right _ _) (by omega)
      · rw [List.take_add_one, hq]
        unfold rowsV
        rw [List.map_append, List.map_append, List.map_append]
        refine (hrows.keep fun c o e1 e2 hc => ?_).append (.cons (sm.free nD2) ?_ .nil)
        · rw [upd_ne (hneg c hc)]
          exact s2 _ _ e2
        · rw [upd_ne nqX]; exact hD2
      · rcases List.mem_append.mp hy with z | z
        · exact hneg y z
        · obtain rfl : y = D2 := by simpa using z
          exact nqX
      · rw [List.take_add_one, hq] at ha
        rcases List.mem_append.mp ha with z | z
        · exact hall a z
        · obtain rfl : a = tl q := by simpa using z
          exact ok
    obtain ⟨sm, gs, hgs, hrows, hneg, hall⟩ := p'
    rw [List.length_map, el, List.take_length] at hrows hall
    have hrows : RowsF H1 H' gs (rowsV (readT (tl s))) := hrows
    have ff := form_read (T := tl s) fun r hr' => by
      obtain ⟨a, ha, rfl⟩ := List.mem_map.mp hr'
      exact hall a ha
    have RX : Rp K H' (.ref X) (gridD (readT (tl s))) := .lst (SqL.of hgs) (rowsF_rp hrows)
    refine ⟨.ref X, rfl, .ref X, gridD (readT (tl s)), rfl, RX, fun H2 s2 => ⟨_, rfl, ?_⟩⟩
    rw [ff]
    cases eo : readOk (tl s) with
    | false => exact qE eo _ ((k1.trans sm).trans s2)
    | true =>
      have up : ∀ {ks ms}, RowsF H1 H' ks ms → RowsF H H2 ks ms := fun {ks ms} r => by
        induction r with
        | nil => exact .nil
        | cons h1 h2 _ ih => exact .cons (k1.free h1) (s2 _ _ h2) ih
      exact ⟨.ref X, rfl, qQ eo H2 X gs ((k1.trans sm).trans s2) (k1.free nX) (s2 _ _ hgs) (up hrows) hneg⟩
end
end Kp15
set_option Elab.async false
set_option linter.all false
set_option maxRecDepth 100000
set_option maxHeartbeats 1000000
namespace Kp15
open PySem PySem.Spec PyProof.Rows L2 Vf
/-! ### small data, shown -/
def sm : Nat → Dt → Bool
  | _, .non => true
  | _, .bl _ => true
  | _, .int i => decide (i.natAbs < 10 ^ 60)
  | _, .str x => decide ((reprText x).length ≤ 60)
  | 0, .lst _ => false
  | 0, .tup _ => false
  | 0, .dct _ => false
  | k + 1, .lst l => decide (l.length ≤ 12) && l.all (sm k)
  | k + 1, .tup l => decide (l.length ≤ 12) && l.all (sm k)
  | k + 1, .dct l => decide (l.length ≤ 12) && l.all fun p => (match p.1 with | .inl i => decide (i.natAbs < 10 ^ 60) | .inr _ => false) && sm k p.2
def ln : Nat → Nat
  | 0 => 70
  | k + 1 => 10 + 12 * (ln k + 80)
theorem ln_70 : ∀ k, 70 ≤ ln k
  | 0 => Nat.le_refl _
  | k + 1 => by have := ln_70 k; show 70 ≤ 10 + 12 * (ln k + 80); omega
theorem int_show {i : Int} (h : i.natAbs < 10 ^ 60) : PyData.showable (.int i) = true ∧ (PyData.shown (.int i)).length ≤ 70 := by
  refine ⟨?_, ?_⟩
  · refine decide_eq_true ?_
    by_cases z : i.natAbs = 0
    · rw [z]; decide
    · exact (Nat.log2_lt z).mpr (Nat.lt_of_lt_of_le h (by decide +kernel))
  · have e := int_text_length_le10 (k := 60) (by decide) h
    have e2 : (PyData.shown (.int i)).length = (toString i).length := by
      show (Str.ofString (toString i)).length = _
      rw [PySem.ofString_length]
    rw [e2]
    omega
theorem dictText_le (ts : List Str) : (dictText ts).length ≤ 2 + piled ts := by
  unfold dictText
  rw [strLen_append, strLen_append]
  have e1 : (("{" : String) : Str).length = 1 := rfl
  have e3 : (("}" : String) : Str).length = 1 := rfl
  have e2 : (Str.join ", " ts).length ≤ piled ts := by
    cases ts with
    | nil => decide
    | cons t r =>
      have := join_length_add (t :: r) (by simp)
      omega
  omega
def Sh (k : Nat) (d : PyData) : Prop := d.showable = true ∧ d.depth ≤ k ∧ d.shown.length ≤ ln k
theorem sh_all {k : Nat} (f : ∀ d, sm k d = true → Sh k d.py) : ∀ l : List Dt, l.all (sm k) = true → PyData.showableAll (Dt.pyL l) = true ∧ PyData.depthAll (Dt.pyL l) ≤ k ∧ piled (PyData.shownAll (Dt.pyL l)) ≤ l.length * (ln k + 2)
  | [], _ => ⟨rfl, Nat.zero_le _, by simp [Dt.pyL, PyData.shownAll, piled]⟩
  | d :: r, h => by
    rw [List.all_cons, Bool.and_eq_true] at h
    obtain ⟨a1, a2, a3⟩ := f d h.1
    obtain ⟨b1, b2, b3⟩ := sh_all f r h.2
    refine ⟨?_, ?_, ?_⟩
    · show (d.py.showable && PyData.showableAll (Dt.pyL r)) = true
      rw [a1, b1]; rfl
    · show max d.py.depth (PyData.depthAll (Dt.pyL r)) ≤ k
      omega
    · show piled (d.py.shown :: PyData.shownAll (Dt.pyL r)) ≤ (r.length + 1) * (ln k + 2)
      rw [piled_cons, Nat.add_mul]
      omega
theorem sh_kv {k : Nat} (f : ∀ d, sm k d = true → Sh k d.py) : ∀ l : List (Key × Dt), (l.all fun p => (match p.1 with | .inl i => decide (i.natAbs < 10 ^ 60) | .inr _ => false) && sm k p.2) = true → PyData.showableKv (Dt.pyD l) = true ∧ PyData.depthKv (Dt.pyD l) ≤ k ∧ piled (PyData.shownKv (Dt.pyD l)) ≤ l.length * (ln k + 80)
  | [], _ => ⟨rfl, Nat.zero_le _, by simp [Dt.pyD, PyData.shownKv, piled]⟩
  | (.inr x, d) :: r, h => by
    rw [List.all_cons, Bool.and_eq_true, Bool.and_eq_true] at h
    cases h.1.1
  | (.inl i, d) :: r, h => by
    rw [List.all_cons, Bool.and_eq_true, Bool.and_eq_true] at h
    obtain ⟨a1, a2, a3⟩ := f d h.1.2
    obtain ⟨b1, b2, b3⟩ := sh_kv f r h.2
    obtain ⟨c1, c2⟩ := int_show (i := i) (of_decide_eq_true h.1.1)
    refine ⟨?_, ?_, ?_⟩
    · show (PyData.showable (.int i) && d.py.showable && PyData.showableKv (Dt.pyD r)) = true
      rw [a1, b1, c1]; rfl
    · show max (max 0 d.py.depth) (PyData.depthKv (Dt.pyD r)) ≤ k
      omega
    · show piled ((PyData.shown (.int i) ++ ": " ++ d.py.shown) :: PyData.shownKv (Dt.pyD r)) ≤ (r.length + 1) * (ln k + 80)
      rw [piled_cons, Nat.add_mul, strLen_append, strLen_append]
      have e : ((": " : String) : Str).length = 2 := rfl
      omega
theorem sm_show : ∀ (k : Nat) (d : Dt), sm k d = true → Sh k d.py
  | k, .non, _ => ⟨rfl, Nat.zero_le _, Nat.le_trans (by decide) (ln_70 k)⟩
  | k, .bl b, _ => ⟨rfl, Nat.zero_le _, Nat.le_trans (by cases b <;> decide) (ln_70 k)⟩
  | 0, .int i, h => let e := int_show (i := i) (of_decide_eq_true h); ⟨e.1, Nat.le_refl _, e.2⟩
  | k + 1, .int i, h => let e := int_show (i := i) (of_decide_eq_true h); ⟨e.1, Nat.zero_le _, Nat.le_trans e.2 (ln_70 _)⟩
  | 0, .str x, h => ⟨rfl, Nat.le_refl _, Nat.le_trans (of_decide_eq_true h : (reprText x).length ≤ 60) (by decide)⟩
  | k + 1, .str x, h => ⟨rfl, Nat.zero_le _, Nat.le_trans (of_decide_eq_true h : (reprText x).length ≤ 60) (Nat.le_trans (by decide) (ln_70 _))⟩
  | k + 1, .lst l, h => by
    have h : (decide (l.length ≤ 12) && l.all (sm k)) = true := h
    rw [Bool.and_eq_true, decide_eq_true_eq] at h
    obtain ⟨a1, a2, a3⟩ := sh_all (sm_show k) l h.2
    refine ⟨a1, Nat.succ_le_succ a2, ?_⟩
    have e := listText_le (PyData.shownAll (Dt.pyL l))
    have e2 : l.length * (ln k + 2) ≤ 12 * (ln k + 2) := Nat.mul_le_mul_right _ h.1
    show (listText (PyData.shownAll (Dt.pyL l))).length ≤ 10 + 12 * (ln k + 80)
    omega
  | k + 1, .tup l, h => by
    have h : (decide (l.length ≤ 12) && l.all (sm k)) = true := h
    rw [Bool.and_eq_true, decide_eq_true_eq] at h
    obtain ⟨a1, a2, a3⟩ := sh_all (sm_show k) l h.2
    refine ⟨a1, Nat.succ_le_succ a2, ?_⟩
    have e := tupleText_le (PyData.shownAll (Dt.pyL l))
    have e2 : l.length * (ln k + 2) ≤ 12 * (ln k + 2) := Nat.mul_le_mul_right _ h.1
    show (tupleText (PyData.shownAll (Dt.pyL l))).length ≤ 10 + 12 * (ln k + 80)
    omega
  | k + 1, .dct l, h => by
    have h : (decide (l.length ≤ 12) && l.all fun p => (match p.1 with | .inl i => decide (i.natAbs < 10 ^ 60) | .inr _ => false) && sm k p.2) = true := h
    rw [Bool.and_eq_true, decide_eq_true_eq] at h
    obtain ⟨a1, a2, a3⟩ := sh_kv (sm_show k) l h.2
    refine ⟨a1, Nat.succ_le_succ a2, ?_⟩
    have e := dictText_le (PyData.shownKv (Dt.pyD l))
    have e2 : l.length * (ln k + 80) ≤ 12 * (ln k + 80) := Nat.mul_le_mul_right _ h.1
    show (dictText (PyData.shownKv (Dt.pyD l))).length ≤ 10 + 12 * (ln k + 80)
    omega
/-! ### data off the tape -/
def Off (K : PySem.W.Frag) (t : Addr) (H : Hp) (v : V) (d : Dt) : Prop := ∀ H', Kp t H H' → Rp K H' v d
def OffL (K : PySem.W.Frag) (t : Addr) (H : Hp) (v : List V) (d : List Dt) : Prop := ∀ H', Kp t H H' → RpL K H' v d
section
variable {K : PySem.W.Frag} {t : Addr} {H H1 : Hp}
theorem Off.kp {v : V} {d : Dt} (o : Off K t H v d) (k : Kp t H H1) : Off K t H1 v d := fun H' k' => o H' (k.trans k')
theorem Off.rp {v : V} {d : Dt} (o : Off K t H v d) (tp : Tp H t) : Rp K H v d := o H (Kp.refl tp)
theorem off_non : Off K t H .non .non := fun _ _ => .non
theorem off_bl {b : Bool} : Off K t H (.bl b) (.bl b) := fun _ _ => .bl b
theorem off_int {i : Int} : Off K t H (.int i) (.int i) := fun _ _ => .int i
theorem off_str {x : Str} : Off K t H (.str x) (.str x) := fun _ _ => .str x
theorem off_lst {p : Addr} {xs : List V} {ds : List Dt} (h : H p = some (.lst xs)) (n : p ≠ t) (r : OffL K t H xs ds) : Off K t H (.ref p) (.lst ds) := fun H' k => .lst (SqL.of (k.1 _ _ h n)) (r H' k)
theorem off_tup {p : Addr} {xs : List V} {ds : List Dt} (h : H p = some (.tup xs)) (n : p ≠ t) (r : OffL K t H xs ds) : Off K t H (.ref p) (.tup ds) := fun H' k => .tup (SqT.of (k.1 _ _ h n)) (r H' k)
theorem off_dct0 {p : Addr} (h : H p = some (.dK [])) (n : p ≠ t) : Off K t H (.ref p) (.dct []) := fun H' k => .dct (k.1 _ _ h n) .nil
theorem off_dct1 {p : Addr} {k0 : Key} {v : V} {d : Dt} (h : H p = some (.dK [(k0, v)])) (n : p ≠ t) (r : Off K t H v d) : Off K t H (.ref p) (.dct [(k0, d)]) := fun H' k => .dct (k.1 _ _ h n) (.cons (r H' k) .nil)
theorem offl_nil : OffL K t H [] [] := fun _ _ => .nil
theorem offl_cons {v : V} {vs : List V} {d : Dt} {ds : List Dt} (h : Off K t H v d) (r : OffL K t H vs ds) : OffL K t H (v :: vs) (d :: ds) := fun H' k => .cons (h H' k) (r H' k)
theorem rpl_append : ∀ {a b : List V} {c d : List Dt}, RpL K H a c → RpL K H b d → RpL K H (a ++ b) (c ++ d)
  | _, _, _, _, .nil, r => r
  | _, _, _, _, .cons h q, r => .cons h (rpl_append q r)
theorem offl_append {v vs : List V} {d ds : List Dt} (h : OffL K t H v d) (r : OffL K t H vs ds) : OffL K t H (v ++ vs) (d ++ ds) := fun H' k => rpl_append (h H' k) (r H' k)
theorem offl_ints : ∀ ns : List Int, OffL K t H (ns.map V.int) (ns.map Dt.int)
  | [] => offl_nil
  | _ :: ns => offl_cons off_int (offl_ints ns)
theorem offl_rep {v : V} {d : Dt} (h : Off K t H v d) : ∀ n : Nat, OffL K t H (List.replicate n v) (List.replicate n d)
  | 0 => offl_nil
  | n + 1 => by rw [List.replicate_succ, List.replicate_succ]; exact offl_cons h (offl_rep h n)
theorem ne_tape {p : Addr} (tp : Tp H t) (n : H p = none) : p ≠ t := fun z => by obtain ⟨m, e⟩ := tp; rw [z, e] at n; cases n
end
end Kp15
set_option Elab.async false
set_option linter.all false
set_option maxRecDepth 100000
set_option maxHeartbeats 1000000
namespace Kp15
open PySem PySem.Spec PyProof.Rows L2 Vf
/-! ### the law's draws of numbers, caps and shapes -/
/-- rows at bs, each a list or a tuple, none of them tracked in H -/
inductive RowsV (H H' : Hp) : List Addr → List (List V) → Prop
  | nil : RowsV H H' [] []
  | cons {b : Addr} {bs : List Addr} {m : List V} {ms : List (List V)} : H b = none → (H' b = some (.lst m) ∨ H' b = some (.tup m)) → RowsV H H' bs ms → RowsV H H' (b :: bs) (m :: ms)
theorem RowsV.keep {H H1 H2 : Hp} : ∀ {ks : List Addr} {ms : List (List V)}, RowsV H H1 ks ms → (∀ b o, H b = none → H1 b = some o → b ∈ ks → H2 b = some o) → RowsV H H2 ks ms
  | _, _, .nil, _ => .nil
  | _, _, .cons h1 h2 r, f => .cons h1 (h2.elim (fun z => .inl (f _ _ h1 z List.mem_cons_self)) fun z => .inr (f _ _ h1 z List.mem_cons_self)) (r.keep fun b o e1 e2 hb => f b o e1 e2 (List.mem_cons_of_mem _ hb))
theorem RowsV.length {H H' : Hp} : ∀ {ks : List Addr} {ms : List (List V)}, RowsV H H' ks ms → ks.length = ms.length
  | _, _, .nil => rfl
  | _, _, .cons _ _ r => congrArg (· + 1) (RowsV.length r)
theorem RowsV.append {H H' : Hp} {ks ks' : List Addr} {ms ms' : List (List V)} : RowsV H H' ks ms → RowsV H H' ks' ms' → RowsV H H' (ks ++ ks') (ms ++ ms')
  | .nil, r => r
  | .cons h1 h2 q, r => .cons h1 h2 (RowsV.append q r)
theorem RowsV.get {H H' : Hp} : ∀ {ks : List Addr} {ms : List (List V)} {i : Nat} {k : Addr}, RowsV H H' ks ms → ks[i]? = some k → ∃ m, ms[i]? = some m ∧ H k = none ∧ (H' k = some (.lst m) ∨ H' k = some (.tup m))
  | _, _, _, _, .nil, e => by simp at e
  | _, _, 0, _, .cons h1 h2 _, e => by
    obtain rfl := Option.some.inj e
    exact ⟨_, rfl, h1, h2⟩
  | _, _, i + 1, k, .cons _ _ r, e => RowsV.get (i := i) (k := k) r e
theorem RowsV.set {H H' : Hp} {b : Addr} {m : List V} (h1 : H b = none) (h2 : H' b = some (.lst m) ∨ H' b = some (.tup m)) : ∀ {ks : List Addr} {ms : List (List V)} {i : Nat}, RowsV H H' ks ms → ms[i]? = some m → RowsV H H' (ks.set i b) ms
  | _, _, _, .nil, e => by simp at e
  | _, _, 0, .cons _ _ r, e => by
    obtain rfl := Option.some.inj e
    exact .cons h1 h2 r
  | _, _, i + 1, .cons g1 g2 r, e => .cons g1 g2 (RowsV.set (i := i) h1 h2 r e)
/-- lists at ls that hold the rows -/
inductive RowsQ (K : PySem.W.Frag) (H : Hp) : List Addr → List (List V) → Prop
  | nil : RowsQ K H [] []
  | cons {b : Addr} {bs : List Addr} {m : List V} {ms : List (List V)} : SqL K H b m → RowsQ K H bs ms → RowsQ K H (b :: bs) (m :: ms)
theorem RowsQ.get {K : PySem.W.Frag} {H : Hp} : ∀ {ks : List Addr} {ms : List (List V)} {i : Nat} {k : Addr}, RowsQ K H ks ms → ks[i]? = some k → ∃ m, ms[i]? = some m ∧ SqL K H k m
  | _, _, _, _, .nil, e => by simp at e
  | _, _, 0, _, .cons h1 _, e => by
    obtain rfl := Option.some.inj e
    exact ⟨_, rfl, h1⟩
  | _, _, i + 1, k, .cons _ r, e => RowsQ.get (i := i) (k := k) r e
theorem RowsQ.length {K : PySem.W.Frag} {H : Hp} : ∀ {ks : List Addr} {ms : List (List V)}, RowsQ K H ks ms → ks.length = ms.length
  | _, _, .nil => rfl
  | _, _, .cons _ r => congrArg (· + 1) (RowsQ.length r)
def sp_as (K : PySem.W.Frag) : Sp := fun vs H Q _ => ∃ (t R : Addr) (ls : List Addr) (ms : List (List V)), vs = [.ref t, .ref R] ∧ Tp H t ∧ SqL K H R (ls.map V.ref) ∧ RowsQ K H ls ms ∧ ls.length ≤ 7 ∧ R ≠ t ∧ (∀ l ∈ ls, l ≠ t) ∧
  ∀ (H' : Hp) (p : Addr) (bs : List Addr), Kp t H H' → H p = none → (H' p = some (.lst (bs.map V.ref)) ∨ H' p = some (.tup (bs.map V.ref))) → RowsV H H' bs ms → (∀ b ∈ bs, b ≠ p) → Q (.ref p) H'
theorem pow12 : (10 : Int) ^ (Int.toNat 12) = 1000000000000 := by decide +kernel
theorem cpow12 : CPow 10 12 := ⟨by decide, by decide, by decide⟩
/-! ### shapes of what is handed in -/
theorem ixN_nat {n j : Nat} (h : j < n) : ixN n (j : Int) = some j := by
  unfold ixN
  rw [if_pos (by omega), if_pos (by omega), Int.toNat_natCast]
theorem set_map_ref (bs : List Addr) (i : Nat) (b : Addr) : (bs.map V.ref).set i (.ref b) = (bs.set i b).map V.ref := by rw [List.map_set]
section
variable {P : Program} {w : World} {K : PySem.W.Frag} {mg : Str → Option Value} {base : Heap} {C : Nat → Addr} {tG tL : Tok}
theorem sc_l_as : FnScope ["_law_tape_here", "_law_rows", "_law_found", "_law_row", "_law_i"] ["_law_tape_here", "_law_rows"] (defScope s_l_as) :=
  ⟨rfl, rfl, rfl, by decide +kernel, rfl, by decide +kernel, by decide +kernel⟩
theorem ok_as {f : Addr} {fd : FuncData} (F : Fun K "_law_as" "_law_as" s_l_as f fd) (T : Txt K mg C tG tL) (c_l_digit : Cal P w K mg base CX0 1 "_law_digit" ["_law_tape_here", "_law_size"] sp_digit) : FnOk P w K mg base CX0 2 f fd ["_law_tape_here", "_law_rows"] (sp_as K) := by
  refine F.ok sc_l_as (fun vs H Q E ⟨t, R, ls, ms, e, _⟩ => by rw [e]; rfl) (fun cdv A outer s H vs Q E hr h => ?_)
  obtain ⟨t, R, ls, ms, rfl, tp, hR, hQ, h6, hRt, hlt, q⟩ := h
  have hlen := hQ.length
  refine ⟨_, (pss_cons (ps_setLc (i := 2) (own := [("_law_row", 3)]) (by rfl) sc_l_as.nd rfl rfl (sw_true rfl rfl rfl (by decide +kernel)) (pi_list (pv 1)) (blkOk_by (own := [("_law_row", 3)]) (N := ["_law_tape_here", "_law_rows", "_law_found", "_law_row", "_law_i"]) (sc := defScope s_l_as) (by decide +kernel)) (fun _ _ _ _ _ => (pg_name (i := 3) sc_l_as.nd rfl (by first | exact Or.inl rfl | exact Or.inr rfl))) (fun _ _ _ _ _ => pts_nil) (fun _ _ _ _ _ => (pe_callTy (list_ofK (K := K) rfl) (by rfl) T.n_list (by decide +kernel) (pa_cons (pv 3) pa_nil))))
  (pss_cons (ps_for PassesOwn.never rfl (pi_range1 (by rfl) T.n_range (pa_cons (pe_callB (len_ofK (K := K) rfl) (by rfl) T.n_len (by decide +kernel) (pa_cons (pv 2) pa_nil)) pa_nil))
  (pg_name (i := 4) sc_l_as.nd rfl (by first | exact Or.inl rfl | exact Or.inr rfl))
  (pss_one (ps_if (pt_cmpR op_eq (pe_cal c_l_digit (hr.mono (by decide)) (by rfl) pass0 (pa_cons (pv 0) (pa_cons pe_int pa_nil))) pe_int (nomark _))
  (pss_one (ps_asg (pe_callTy (tuple_ofK (K := K) rfl) (by rfl) T.n_tuple (by decide +kernel) (pa_cons (pe_ix (ix_listK (K := K) rfl) (pv 2) (pv 4) (fun _ _ => rfl)) pa_nil)) (pg_sub (pv 2) (pv 4) set_list)))
  pss_nil)))
  (pss_cons (ps_if (pt_cmpR op_eq (pe_cal c_l_digit (hr.mono (by decide)) (by rfl) pass0 (pa_cons (pv 0) (pa_cons pe_int pa_nil))) pe_int (nomark _))
  (pss_one (ps_ret (pe_callTy (tuple_ofK (K := K) rfl) (by rfl) T.n_tuple (by decide +kernel) (pa_cons (pv 2) pa_nil))))
  pss_nil)
  (pss_one (ps_ret (pv 2)))))), ?_⟩
  refine ⟨.ref R, rfl, R, rfl, ⟨_, hR⟩, fun D nD => ?_⟩
  have hDt : D ≠ t := fun z => by obtain ⟨m, e⟩ := tp; rw [z, e] at nD; cases nD
  refine lc_list (K := K) (xs := ls.map V.ref) (fun i H' => Same H H' ∧ ∃ bs : List Addr, H' D = some (.lst (bs.map V.ref)) ∧ RowsV H H' bs (ms.take i) ∧ ∀ b ∈ bs, b ≠ D) ⟨same_upd nD, [], upd_same, .nil, fun _ z => nomatch z⟩ (fun i H' _ p => p.1.seq hR) (fun i x H' hx p => ?_) (fun H' p => ?_)
  · obtain ⟨sm, bs, hbs, hrows, hne⟩ := p
    obtain ⟨k, hk, rfl⟩ : ∃ k, ls[i]? = some k ∧ x = V.ref k := by
      rw [List.getElem?_map] at hx
      cases e : ls[i]? with
      | none => rw [e] at hx; cases hx
      | some b => rw [e] at hx; exact ⟨b, rfl, (Option.some.inj hx).symm⟩
    obtain ⟨m, hm, hT⟩ := hQ.get hk
    refine ⟨rfl, .ref k, rfl, k, _, rfl, .inl (sm.seq hT), fun l nl => ?_⟩
    have nlD : l ≠ D := fun z => by rw [z, hbs] at nl; cases nl
    have k1 := same_upd (o := .lst m) nl
    have hl2 := hrows.length
    refine ⟨_, k1 _ _ hbs, ?_, fun b o e => ?_, bs ++ [l], by rw [upd_same, List.map_append]; rfl, ?_, fun y hy => ?_⟩
    · rw [List.length_map, hl2, List.length_take]
      exact Nat.lt_of_le_of_lt (Nat.le_trans (Nat.min_le_right _ _) (by omega : ms.length ≤ 7)) (by decide)
    · rw [upd_ne (ne_of_none e nD)]
      exact k1 _ _ (sm b o e)
    · rw [List.take_add_one, hm]
      refine (hrows.keep fun b o e1 e2 hb => ?_).append (.cons (sm.free nl) (.inl ?_) .nil)
      · rw [upd_ne (hne b hb)]
        exact k1 _ _ e2
      · rw [upd_ne nlD, upd_same]
    · rcases List.mem_append.mp hy with z | z
      · exact hne y z
      · obtain rfl : y = l := by simpa using z
        exact nlD
  obtain ⟨sm, bs0, hbs0, hrows0, hne0⟩ := p
  rw [List.length_map, hlen, List.take_length] at hrows0
  have hl0 := hrows0.length
  have back : ∀ b, H b = none → b ≠ t := fun b e z => by obtain ⟨m, e'⟩ := tp; rw [z, e'] at e; cases e
  refine ⟨.ref D, rfl, D, _, rfl, .inl (SqL.of hbs0), _, rfl, by rw [List.length_map]; omega, by rw [List.length_map]; omega, ?_⟩
  rw [List.length_map, Int.toNat_natCast]
  refine for_range (n := bs0.length) (fun i σ H2 => ∃ v4, σ = [some (.ref t), some (.ref R), some (.ref D), none, v4] ∧ Kp t H H2 ∧ ∃ bs : List Addr, H2 D = some (.lst (bs.map V.ref)) ∧ RowsV H H2 bs ms ∧ ∀ b ∈ bs, b ≠ D)
    ⟨none, rfl, Kp.ofSame tp sm, bs0, hbs0, hrows0, hne0⟩ (fun i σ H2 hi p => ?_) (fun σ H2 p => ?_)
  · obtain ⟨v4, rfl, kp, bs, hbs, hrows, hne⟩ := p
    have hlb := hrows.length
    have hib : i < bs.length := by omega
    obtain ⟨n, ht⟩ := kp.2
    refine ⟨.ref t, rfl, t, n, 2, rfl, ht, by decide, by decide, fun d n' d0 d1 => ⟨rfl, _, rfl, ite2 (fun e => ?_) (fun e => ?_)⟩⟩
    · have hD3 : (upd H2 t (.lst [.int n'])) D = some (.lst (bs.map V.ref)) := (upd_ne hDt).trans hbs
      have hix : (bs.map V.ref)[i]? = some (.ref bs[i]) := by rw [List.getElem?_map, List.getElem?_eq_getElem hib]; rfl
      obtain ⟨m, hm, hb0, hbv⟩ := hrows.get (List.getElem?_eq_getElem hib)
      have hbt : bs[i] ≠ t := back _ hb0
      have zi : (0 : Int) + (i : Nat) = (i : Nat) := Int.zero_add _
      refine ⟨.ref D, rfl, .int (0 + (i : Nat)), rfl, D, _, _, .ref bs[i], rfl, rfl, SqL.of hD3, by rw [zi]; exact atI_nat hix, bs[i], m, rfl, ?_⟩
      have hset : ∀ y : Addr, ixN (bs.map V.ref).length (0 + (i : Nat)) = some i := fun y => by rw [zi]; exact ixN_nat (by rw [List.length_map]; exact hib)
      rcases hbv with hL | hT
      · refine .inl ⟨SqL.of ((upd_ne hbt).trans hL), fun l nl => ?_⟩
        have nl2 : H2 l = none := by
          by_cases z : l = t
          · rw [z, upd_same] at nl; cases nl
          · rw [upd_ne z] at nl; exact nl
        have nlt : l ≠ t := fun z => by rw [z, upd_same] at nl; cases nl
        have nlD : l ≠ D := fun z => by rw [z, hD3] at nl; cases nl
        refine ⟨.ref D, rfl, .int (0 + (i : Nat)), rfl, D, _, _, i, rfl, rfl, (upd_ne nlD.symm).trans hD3, hset l, some (.int (0 + (i : Nat))), rfl, ⟨fun b o e' h' => ?_, ⟨n', ?_⟩⟩, bs.set i l, by rw [upd_same, set_map_ref], ?_, fun b hb => ?_⟩
        · have h3 := kp.1 b o e' h'
          rw [upd_ne (ne_of_none e' nD), upd_ne (ne_of_none h3 nl2), upd_ne h']
          exact h3
        · rw [upd_ne hDt.symm, upd_ne nlt.symm, upd_same]
        · refine RowsV.set (kp.free tp nl2) (.inr (by rw [upd_ne nlD, upd_same])) (hrows.keep fun b o e1 e2 hb => ?_) hm
          rw [upd_ne (hne b hb), upd_ne (ne_of_none e2 nl2), upd_ne (back b e1)]
          exact e2
        · rcases List.mem_or_eq_of_mem_set hb with z | z
          · exact hne b z
          · rw [z]; exact nlD
      · refine .inr ⟨SqT.of ((upd_ne hbt).trans hT), .ref D, rfl, .int (0 + (i : Nat)), rfl, D, _, _, i, rfl, rfl, hD3, hset D, some (.int (0 + (i : Nat))), rfl, ⟨fun b o e' h' => ?_, ⟨n', ?_⟩⟩, bs.set i bs[i], by rw [upd_same, set_map_ref], ?_, fun b hb => ?_⟩
        · rw [upd_ne (ne_of_none e' nD), upd_ne h']
          exact kp.1 b o e' h'
        · rw [upd_ne hDt.symm, upd_same]
        · refine RowsV.set hb0 (.inr ?_) (hrows.keep fun b o e1 e2 hb => ?_) hm
          · rw [upd_ne (hne _ (List.getElem_mem hib)), upd_ne hbt]
            exact hT
          · rw [upd_ne (hne b hb), upd_ne (back b e1)]
            exact e2
        · rcases List.mem_or_eq_of_mem_set hb with z | z
          · exact hne b z
          · rw [z]; exact hne _ (List.getElem_mem hib)
    · refine ⟨some (.int (0 + (i : Nat))), rfl, kp.tape, bs, (upd_ne hDt).trans hbs, hrows.keep fun b o e1 e2 hb => ?_, hne⟩
      rw [upd_ne (back b e1)]
      exact e2
  · obtain ⟨v4, rfl, kp, bs, hbs, hrows, hne⟩ := p
    obtain ⟨n, ht⟩ := kp.2
    refine ⟨.ref t, rfl, t, n, 2, rfl, ht, by decide, by decide, fun d n' d0 d1 => ⟨rfl, _, rfl, ite2 (fun e => ?_) (fun e => ?_)⟩⟩
    · have hD3 : (upd H2 t (.lst [.int n'])) D = some (.lst (bs.map V.ref)) := (upd_ne hDt).trans hbs
      refine ⟨.ref D, rfl, D, _, rfl, .inl ⟨SqL.of hD3, fun l nl => ?_⟩⟩
      have kp3 := (kp.tape (n := n')).lay (o := .tup (bs.map V.ref)) nl
      have nl2 : H2 l = none := by
        by_cases z : l = t
        · rw [z, upd_same] at nl; cases nl
        · rw [upd_ne z] at nl; exact nl
      refine q _ l bs kp3 (kp.free tp nl2) (.inr upd_same) (hrows.keep fun b o e1 e2 hb => ?_) fun b hb z => ?_
      · rw [upd_ne (ne_of_none e2 nl2), upd_ne (back b e1)]
        exact e2
      · obtain ⟨j, hj⟩ := List.mem_iff_getElem?.mp hb
        obtain ⟨m, _, _, hv⟩ := hrows.get hj
        rw [z, nl2] at hv
        rcases hv with hv | hv <;> cases hv
    · refine ⟨.ref D, rfl, q _ D bs kp.tape nD (.inl ((upd_ne hDt).trans hbs)) (hrows.keep fun b o e1 e2 hb => ?_) hne⟩
      rw [upd_ne (back b e1)]
      exact e2
end
/-- a table at p: a list of lists of ints, none of them the tape -/
structure TbL (t : Addr) (H : Hp) (p : Addr) (ls : List Addr) (tb : List (List Int)) : Prop where
  at_ : H p = some (.lst (ls.map V.ref))
  rows : RowsN H ls tb
  np : p ≠ t
  nl : ∀ l ∈ ls, l ≠ t
theorem TbL.same {t : Addr} {H H' : Hp} {p : Addr} {ls : List Addr} {tb : List (List Int)} (T : TbL t H p ls tb) (s : Same H H') : TbL t H' p ls tb := ⟨s _ _ T.at_, T.rows.same s, T.np, T.nl⟩
theorem TbL.kp {t : Addr} {H H' : Hp} {p : Addr} {ls : List Addr} {tb : List (List Int)} (T : TbL t H p ls tb) (k : Kp t H H') : TbL t H' p ls tb := ⟨k.1 _ _ T.at_ T.np, T.rows.keep fun l hl o e => k.1 l o e (T.nl l hl), T.np, T.nl⟩
def sp_count : Sp := fun vs H Q _ => ∃ t : Addr, vs = [.ref t] ∧ Tp H t ∧ ∀ (n : Int) (H' : Hp), 0 ≤ n → n ≤ 1000000000000 → Kp t H H' → Q (.int n) H'
def sp_ltable : Sp := fun vs H Q _ => ∃ t : Addr, vs = [.ref t] ∧ Tp H t ∧ ∀ (H' : Hp) (p : Addr) (ls : List Addr) (tb : List (List Int)) (n w : Nat), Kp t H H' → H p = none → TbL t H' p ls tb → TabG tb n w → Q (.ref p) H'
section
variable {P : Program} {w : World} {K : PySem.W.Frag} {mg : Str → Option Value} {base : Heap} {C : Nat → Addr} {tG tL : Tok}
theorem sc_l_count : FnScope ["_law_tape_here", "_law_way", "_law_tens", "_law_k"] ["_law_tape_here"] (defScope s_l_count) :=
  ⟨rfl, rfl, rfl, by decide +kernel, rfl, by decide +kernel, by decide +kernel⟩
theorem ok_count {f : Addr} {fd : FuncData} (F : Fun K "_law_count" "_law_count" s_l_count f fd) (T : Txt K mg C tG tL) (c_l_digit : Cal P w K mg base CX0 1 "_law_digit" ["_law_tape_here", "_law_size"] sp_digit) : FnOk P w K mg base CX0 2 f fd ["_law_tape_here"] sp_count := by
  refine F.ok sc_l_count (fun vs H Q E ⟨t, e, _⟩ => by rw [e]; rfl) (fun cdv A outer s H vs Q E hr h => ?_)
  obtain ⟨t, rfl, tp, q⟩ := h
  obtain ⟨m, ht⟩ := id tp
  refine ⟨_, (pss_cons (ps_set (i := 1) sc_l_count.nd rfl (by first | exact Or.inl rfl | exact Or.inr rfl) (pe_cal c_l_digit (hr.mono (by decide)) (by rfl) pass0 (pa_cons (pv 0) (pa_cons pe_int pa_nil))))
  (pss_cons (ps_set (i := 2) sc_l_count.nd rfl (by first | exact Or.inl rfl | exact Or.inr rfl) pe_int)
  (pss_cons (ps_for PassesOwn.never rfl (pi_range1 (by rfl) T.n_range (pa_cons (pe_cal c_l_digit (hr.mono (by decide)) (by rfl) pass0 (pa_cons (pv 0) (pa_cons pe_int pa_nil))) pa_nil))
  (pg_name (i := 3) sc_l_count.nd rfl (by first | exact Or.inl rfl | exact Or.inr rfl))
  (pss_one (ps_set (i := 2) sc_l_count.nd rfl (by first | exact Or.inl rfl | exact Or.inr rfl) (pe_op op_mul pe_int (pv 2)))))
  (pss_one (ps_ret (pe_ix (ix_listK (K := K) rfl) (pe_lst (pa_cons pe_int (pa_cons (pe_op op_pow pe_int pe_int) (pa_cons (pe_cal c_l_digit (hr.mono (by decide)) (by rfl) pass0 (pa_cons (pv 0) (pa_cons pe_int pa_nil))) (pa_cons (pe_cal c_l_digit (hr.mono (by decide)) (by rfl) pass0 (pa_cons (pv 0) (pa_cons (pe_op op_pow pe_int pe_int) pa_nil))) (pa_cons (pv 2) pa_nil)))))) (pv 1) (fun _ _ => rfl))))))), ?_⟩
  refine ⟨.ref t, rfl, t, m, 5, rfl, ht, by decide, by decide, fun wy m1 y0 y1 => ?_⟩
  have k1 := (Kp.refl tp).tape (n := m1)
  refine ⟨.ref t, rfl, t, m1, 13, rfl, upd_same, by decide, by decide, fun d m2 d0 d1 => ⟨d, rfl, by omega, by omega, ?_⟩⟩
  have k2 := k1.tape (n := m2)
  generalize upd (upd H t (.lst [.int m1])) t (.lst [.int m2]) = H2 at k2 ⊢
  refine for_range (n := d.toNat) (fun i σ H' => H' = H2 ∧ ∃ v3, σ = [some (.ref t), some (.int wy), some (.int ((10 : Int) ^ i)), v3]) ⟨rfl, _, rfl⟩ (fun i σ H' hi pv => ?_) (fun σ H' pv => ?_)
  · obtain ⟨rfl, v3, rfl⟩ := pv
    refine ⟨.int ((10 : Int) ^ i), rfl, 10, (10 : Int) ^ i, rfl, rfl, .inl ⟨by decide, by decide⟩, rfl, some (.int (0 + (i : Int))), ?_⟩
    rw [show (10 : Int) ^ (i + 1) = 10 * 10 ^ i from by rw [Int.pow_succ, Int.mul_comm]]
    rfl
  obtain ⟨rfl, v3, rfl⟩ := pv
  have hp : (10 : Int) ^ d.toNat ≤ 1000000000000 ∧ 0 ≤ (10 : Int) ^ d.toNat := by
    have h13 : d.toNat < 13 := by omega
    generalize d.toNat = k at h13
    have : ∀ k : Nat, k < 13 → (10 : Int) ^ k ≤ 1000000000000 ∧ 0 ≤ (10 : Int) ^ k := by decide +kernel
    exact this k h13
  obtain ⟨m2', ht2⟩ := id k2.2
  refine ⟨10, 12, rfl, rfl, cpow12, .ref t, rfl, t, m2', 10, rfl, ht2, by decide, by decide, fun e1 m3 e10 e11 => ⟨.ref t, rfl, 10, 12, rfl, rfl, cpow12, t, m3, _, rfl, upd_same, (by rw [pow12]; decide), (by rw [pow12]; decide), fun e2 m4 e20 e21 => ⟨_, rfl, (by show 5 ≤ sizeLine; decide), fun p np => ?_⟩⟩⟩
  rw [pow12] at e21
  have k4 := (k2.tape (n := m3)).tape (n := m4)
  have npt : p ≠ t := ne_tape k4.2 np
  obtain ⟨c, hc, c0, c1⟩ : ∃ c : Int, ([V.int 0, .int ((10 : Int) ^ Int.toNat 12), .int e1, .int e2, .int ((10 : Int) ^ d.toNat)] : List V)[wy.toNat]? = some (.int c) ∧ 0 ≤ c ∧ c ≤ 1000000000000 := by
    have : wy.toNat = 0 ∨ wy.toNat = 1 ∨ wy.toNat = 2 ∨ wy.toNat = 3 ∨ wy.toNat = 4 := by omega
    rcases this with h | h | h | h | h
    · rw [h]; exact ⟨0, rfl, by omega, by omega⟩
    · rw [h]; exact ⟨(10 : Int) ^ Int.toNat 12, rfl, by rw [pow12]; decide, by rw [pow12]; decide⟩
    · rw [h]; exact ⟨e1, rfl, by omega, by omega⟩
    · rw [h]; exact ⟨e2, rfl, by omega, by omega⟩
    · rw [h]; exact ⟨_, rfl, hp.2, hp.1⟩
  exact ⟨.int wy, rfl, p, _, wy, .int c, rfl, rfl, SqL.of upd_same, at_of (j := wy.toNat) (by omega) hc, q c _ c0 c1 (k4.lay np)⟩
theorem sc_l_table : FnScope ["_law_tape_here", "_law_wide", "_law_j", "_law_i"] ["_law_tape_here"] (defScope s_l_table) :=
  ⟨rfl, rfl, rfl, by decide +kernel, rfl, by decide +kernel, by decide +kernel⟩
theorem ok_ltable {f : Addr} {fd : FuncData} (F : Fun K "_law_table" "_law_table" s_l_table f fd) (T : Txt K mg C tG tL) (c_l_digit : Cal P w K mg base CX0 1 "_law_digit" ["_law_tape_here", "_law_size"] sp_digit) (c_l_count : Cal P w K mg base CX0 2 "_law_count" ["_law_tape_here"] sp_count) : FnOk P w K mg base CX0 3 f fd ["_law_tape_here"] sp_ltable := by
  refine F.ok sc_l_table (fun vs H Q E ⟨t, e, _⟩ => by rw [e]; rfl) (fun cdv A outer s H vs Q E hr h => ?_)
  obtain ⟨t, rfl, tp, q⟩ := h
  obtain ⟨n, ht⟩ := id tp
  refine ⟨_, (pss_cons (ps_set (i := 1) sc_l_table.nd rfl (by first | exact Or.inl rfl | exact Or.inr rfl) (pe_op op_add pe_int (pe_cal c_l_digit (hr.mono (by decide)) (by rfl) pass0 (pa_cons (pv 0) (pa_cons pe_int pa_nil)))))
  (pss_one (ps_ret (pe_lc (own := [("_law_i", 3)]) (by rfl) sc_l_table.nd (pi_range1 (by rfl) T.n_range (pa_cons (pe_op op_add pe_int (pe_cal c_l_digit (hr.mono (by decide)) (by rfl) pass0 (pa_cons (pv 0) (pa_cons pe_int pa_nil)))) pa_nil)) (blkOk_by (own := [("_law_i", 3)]) (N := ["_law_tape_here", "_law_wide", "_law_j", "_law_i"]) (sc := defScope s_l_table) (by decide +kernel)) (fun _ _ _ _ _ => (pg_name (i := 3) sc_l_table.nd rfl (by first | exact Or.inl rfl | exact Or.inr rfl))) (fun _ _ _ _ _ => pts_nil) (fun _ _ _ _ _ => (pe_lc (own := [("_law_j", 2)]) (by rfl) sc_l_table.nd (pi_range1 (by rfl) T.n_range (pa_cons (pv 1) pa_nil)) (by refine blkOk_by ?_; kernel_rfl) (fun _ _ _ _ _ => (pg_name (i := 2) sc_l_table.nd rfl (by first | exact Or.inl rfl | exact Or.inr rfl))) (fun _ _ _ _ _ => pts_nil) (fun _ _ _ _ _ => (pe_cal c_l_count (hr.mono (by decide)) (by rfl) pass0 (pa_cons (pv 0) pa_nil))))))))), ?_⟩
  refine ⟨.ref t, rfl, t, n, 6, rfl, ht, by decide, by decide, fun d n1 d0 d1 => ⟨1, d, rfl, rfl, ?_⟩⟩
  have k1 : Kp t H (upd H t (.lst [.int n1])) := (Kp.refl tp).tape
  obtain ⟨wd, ew⟩ : ∃ wd : Nat, (1 + d).toNat = wd := ⟨_, rfl⟩
  have w1 : 1 ≤ wd := by omega
  have w6 : wd ≤ 6 := by omega
  refine ⟨.ref t, rfl, t, n1, 6, rfl, upd_same, by decide, by decide, fun d' n2 d0' d1' => ⟨1, d', rfl, rfl, 1 + d', rfl, by omega, by omega, fun D nD => ?_⟩⟩
  have k2 := k1.tape (n := n2)
  have tp2 := k2.2
  have hDt : D ≠ t := fun z => by obtain ⟨m, e⟩ := tp2; rw [z, e] at nD; cases nD
  generalize upd (upd H t (.lst [.int n1])) t (.lst [.int n2]) = H2 at k2 tp2 nD ⊢
  refine lc_range (n := (1 + d').toNat) (fun i H' => Kp t H2 H' ∧ ∃ (ls : List Addr) (tb : List (List Int)), H' D = some (.lst (ls.map V.ref)) ∧ RowsN H' ls tb ∧ tb.length = i ∧ (∀ l ∈ ls, H2 l = none ∧ l ≠ D ∧ l ≠ t) ∧ ∀ r ∈ tb, r.length = wd ∧ ∀ n ∈ r, 0 ≤ n ∧ n ≤ 1000000000000) ⟨(Kp.refl tp2).lay nD, [], [], upd_same, .nil, rfl, (fun _ z => (nomatch z)), fun _ z => (nomatch z)⟩ (fun i H' hi p => ?_) (fun H' p => ?_)
  · obtain ⟨kp, ls, tb, hls, rows, hl, hfr, hb⟩ := p
    refine ⟨rfl, .int (1 + d), rfl, 1 + d, rfl, by omega, by omega, fun B nB => ?_⟩
    have hBD : B ≠ D := fun z => by rw [z, hls] at nB; cases nB
    have hBt : B ≠ t := fun z => by obtain ⟨m, e⟩ := kp.2; rw [z, e] at nB; cases nB
    have hBl : ∀ l ∈ ls, l ≠ B := fun l hl' z => by
      obtain ⟨o, e⟩ := rows.there l hl'
      rw [z, nB] at e; cases e
    refine lc_range (n := (1 + d).toNat) (fun j H3 => Kp t H' H3 ∧ ∃ r : List Int, H3 B = some (.lst (r.map V.int)) ∧ r.length = j ∧ ∀ n ∈ r, 0 ≤ n ∧ n ≤ 1000000000000) ⟨(Kp.refl kp.2).lay nB, [], upd_same, rfl, fun _ z => (nomatch z)⟩ (fun j H3 hj p => ?_) (fun H3 p => ?_)
    · obtain ⟨kp3, r, hr', hrl, hrb⟩ := p
      refine ⟨rfl, .ref t, rfl, t, rfl, kp3.2, fun c H4 c0 c1 kp4 => ⟨_, kp4.1 _ _ hr' hBt, ?_, (kp3.trans kp4).put nB hBt, r ++ [c], by rw [upd_same, List.map_append]; rfl, by rw [List.length_append, hrl]; rfl, fun n hn => ?_⟩⟩
      · rw [List.length_map, hrl]
        exact Nat.lt_of_lt_of_le (show j < 7 by omega) (by decide)
      · rcases List.mem_append.mp hn with z | z
        · exact hrb n z
        · obtain rfl : n = c := by simpa using z
          exact ⟨c0, c1⟩
    · obtain ⟨kp3, r, hr', hrl, hrb⟩ := p
      rw [ew] at hrl
      refine ⟨_, kp3.1 _ _ hls hDt, ?_, (kp.trans kp3).put nD hDt, ls ++ [B], tb ++ [r], by rw [upd_same, List.map_append]; rfl, ?_, by rw [List.length_append, hl]; rfl, fun l hl' => ?_, fun x hx => ?_⟩
      · rw [List.length_map, rows.length, hl]
        exact Nat.lt_of_lt_of_le (show i < 7 by omega) (by decide)
      · refine (rows.keep fun l hl' o e => ?_).append (.cons ?_ .nil)
        · rw [upd_ne (hfr l hl').2.1]
          exact kp3.1 _ _ e (hfr l hl').2.2
        · rw [upd_ne hBD]; exact hr'
      · rcases List.mem_append.mp hl' with z | z
        · exact hfr l z
        · obtain rfl : l = B := by simpa using z
          exact ⟨kp.free tp2 nB, hBD, hBt⟩
      · rcases List.mem_append.mp hx with z | z
        · exact hb x z
        · obtain rfl : x = r := by simpa using z
          exact ⟨hrl, hrb⟩
  · obtain ⟨kp, ls, tb, hls, rows, hl, hfr, hb⟩ := p
    exact q H' D ls tb tb.length wd (k2.trans kp) (k2.free tp nD) ⟨hls, rows, hDt, fun l hl' => (hfr l hl').2.2⟩ ⟨by omega, by omega, w1, w6, rfl, hb⟩
end
end Kp15
set_option Elab.async false
set_option linter.all false
set_option maxRecDepth 100000
set_option maxHeartbeats 1000000
namespace Kp15
open PySem PySem.Spec PyProof.Rows L2 Vf
/-! ### texts that are none, sign by sign -/
open TL
theorem scan_fig {c : Nat} (h : isFig c = true) (q : Bool) : ∀ r : List Nat, scan q (c :: r) = scan true r
  | [] => by unfold scan; rw [if_pos h]
  | d :: r => by conv => lhs; unfold scan
                 rw [if_pos h]
theorem scan_figs {w : List Nat} (hf : w.all isFig = true) (hn : w ≠ []) (s : List Nat) : ∀ q, scan q (w ++ s) = scan true s := by
  induction w with
  | nil => exact absurd rfl hn
  | cons c w ih =>
    intro q
    rw [List.all_cons, Bool.and_eq_true] at hf
    rw [List.cons_append, scan_fig hf.1]
    cases w with
    | nil => rfl
    | cons d w => exact ih hf.2 (by simp) true
theorem scan_blank : ∀ r : List Nat, scan true (32 :: r) = scan false r
  | [] => rfl
  | d :: r => by
    conv => lhs; unfold scan
    rw [if_neg (by decide), if_pos rfl, Bool.true_and]
theorem scan_semi (r : List Nat) : scan true (59 :: 32 :: r) = scan false r := by
  conv => lhs; unfold scan
  rw [if_neg (by decide), if_neg (by decide), if_pos rfl, if_pos rfl, Bool.true_and]
theorem numN_fig (y : Int) : (numN y).all isFig = true ∧ numN y ≠ [] := ⟨digits_figs (numL_digits _), numL_ne _⟩
theorem scan_row : ∀ {r : List Int}, r ≠ [] → ∀ (q : Bool) (s : List Nat), scan q (rowN r ++ s) = scan true s
  | [], h, _, _ => absurd rfl h
  | [y], _, q, s => scan_figs (numN_fig y).1 (numN_fig y).2 s q
  | y :: z :: r, _, q, s => by
    show scan q ((numN y ++ ([32] ++ TL.joinL [32] ((z :: r).map numN))) ++ s) = _
    rw [List.append_assoc, scan_figs (numN_fig y).1 (numN_fig y).2]
    show scan true (32 :: (TL.joinL [32] ((z :: r).map numN) ++ s)) = _
    rw [scan_blank]
    exact scan_row (r := z :: r) (by simp) false s
theorem scan_tab : ∀ {tb : List (List Int)}, tb ≠ [] → (∀ r ∈ tb, r ≠ []) → ∀ (s : List Nat), scan false (tabN tb ++ s) = scan true s
  | [], h, _, _ => absurd rfl h
  | [r], _, hr, s => scan_row (hr r List.mem_cons_self) false s
  | r :: r2 :: tb, _, hr, s => by
    show scan false ((rowN r ++ ([59, 32] ++ TL.joinL [59, 32] ((r2 :: tb).map rowN))) ++ s) = _
    rw [List.append_assoc, scan_row (hr r List.mem_cons_self)]
    show scan true (59 :: 32 :: (TL.joinL [59, 32] ((r2 :: tb).map rowN) ++ s)) = _
    rw [scan_semi]
    exact scan_tab (tb := r2 :: tb) (by simp) (fun x hx => hr x (List.mem_cons_of_mem _ hx)) s
theorem TabG.scn {tb : List (List Int)} {n w : Nat} (G : TabG tb n w) (s : List Nat) : scan false (tabN tb ++ s) = scan true s := scan_tab G.ne (fun _ hr => G.rne hr) s
/-- the text, and something behind it -/
theorem TabG.behind {tb : List (List Int)} {n w : Nat} (G : TabG tb n w) {s : List Nat} (h : scan true s = false) : readOk (tabN tb ++ s) = false := scan_no (by rw [G.scn]; exact h)
theorem TabG.alone {tb : List (List Int)} {n w : Nat} (G : TabG tb n w) : ∃ c r, tabN tb = c :: r ∧ isFig c = true := by
  obtain ⟨r0, t, e, _⟩ := G.head
  have hr0 : r0 ∈ tb := by rw [e]; exact List.mem_cons_self
  have r0ne := G.rne hr0
  have h : ∃ c r, rowN r0 = c :: r ∧ isFig c = true := by
    cases r0 with
    | nil => exact absurd rfl r0ne
    | cons y ys =>
      obtain ⟨hf, hn⟩ := numN_fig y
      cases en : numN y with
      | nil => exact absurd en hn
      | cons c r =>
        rw [en, List.all_cons, Bool.and_eq_true] at hf
        cases ys with
        | nil => exact ⟨c, r, en, hf.1⟩
        | cons z zs => exact ⟨c, _, by show numN y ++ _ = _; rw [en]; rfl, hf.1⟩
  obtain ⟨c, r, ec, hf⟩ := h
  cases t with
  | nil => exact ⟨c, r, by rw [e]; exact ec, hf⟩
  | cons r2 t => exact ⟨c, _, by rw [e]; show rowN r0 ++ _ = _; rw [ec]; rfl, hf⟩
theorem TabG.last {tb : List (List Int)} {n w : Nat} (G : TabG tb n w) : ∃ ini l, tb = ini ++ [l] ∧ l.length = w ∧ (∀ y ∈ l, 0 ≤ y ∧ y ≤ 1000000000000) := by
  have e := List.dropLast_concat_getLast G.ne
  refine ⟨tb.dropLast, tb.getLast G.ne, e.symm, ?_, ?_⟩
  · exact (G.row _ (List.getLast_mem G.ne)).1
  · exact (G.row _ (List.getLast_mem G.ne)).2
/-- the last row alone -/
theorem TabG.lastG {tb : List (List Int)} {n w : Nat} (G : TabG tb n w) {l : List Int} (h1 : l.length = w) (h2 : ∀ y ∈ l, 0 ≤ y ∧ y ≤ 1000000000000) : TabG [l] 1 w :=
  ⟨by decide, by decide, G.w1, G.w6, rfl, fun r hr => by obtain rfl : r = l := by simpa using hr
                                                         exact ⟨h1, h2⟩⟩
theorem tabN_one (l : List Int) : tabN [l] = rowN l := rfl
/-- nought ahead -/
theorem TabG.nought {tb : List (List Int)} {n w : Nat} (G : TabG tb n w) : readOk (48 :: tabN tb) = false := by
  obtain ⟨c, r, e, hf⟩ := G.alone
  obtain ⟨r0, t, et, _⟩ := G.head
  have hr0 : r0 ∈ tb := by rw [et]; exact List.mem_cons_self
  obtain ⟨y, ys, ey⟩ : ∃ y ys, r0 = y :: ys := by
    cases r0 with
    | nil => exact absurd rfl (G.rne hr0)
    | cons y ys => exact ⟨y, ys, rfl⟩
  have e2 : tabW (c :: r) = (numN y :: ys.map numN) :: (t.map (·.map numN)) := by rw [← e, tabW_tabN G, et, ey]; rfl
  rw [e]
  have e3 := tabW_sign (c := 48) (fun z => by cases z.1) (by decide) e2
  refine bad_word (T := 48 :: c :: r) (r := (48 :: numN y) :: ys.map numN) (w := 48 :: numN y) (by rw [e3]; exact List.mem_cons_self) List.mem_cons_self ?_
  unfold goodW numOk
  have hne := (numN_fig y).2
  rw [decide_eq_false (p := 48 :: numN y = [48]) (fun z => hne (by injection z)), decide_eq_true (p := (48 :: numN y).head? = some 48) rfl]
  show ((_ && _) && (false || false) && _) = false
  rw [Bool.or_false, Bool.and_false, Bool.false_and]
/-- a row more that is longer -/
theorem TabG.longer {tb : List (List Int)} {n w : Nat} (G : TabG tb n w) {l : List Int} (h1 : l.length = w) : readOk (tabN tb ++ (59 :: 32 :: (rowN l ++ [32, 49]))) = false := by
  have lne : l ≠ [] := fun z => by rw [z] at h1; have := G.w1; simp at h1; omega
  have f : 59 ∉ rowN l ++ [32, 49] := fun h => by
    rcases List.mem_append.mp h with h | h
    · exact rowN_free l h
    · simp at h
  have e : tabW (tabN tb ++ 59 :: 32 :: (rowN l ++ [32, 49])) = tb.map (·.map numN) ++ [l.map numN ++ [[49]]] := by
    rw [tabW_app, tabW_tabN G, tabW_row f]
    congr 2
    show wds (rowN l ++ 32 :: [49]) = _
    rw [wds_app, wds_rowN lne]
    rfl
  obtain ⟨r0, t, et, l0⟩ := G.head
  unfold readOk
  have : ((tabW (tabN tb ++ 59 :: 32 :: (rowN l ++ [32, 49]))).all fun r => decide (r.length = ((tabW (tabN tb ++ 59 :: 32 :: (rowN l ++ [32, 49]))).headD []).length)) = false := by
    rw [e]
    refine List.all_eq_false.mpr ⟨l.map numN ++ [[49]], List.mem_append_right _ List.mem_cons_self, ?_⟩
    rw [et]
    show ¬ decide (_ = (r0.map numN).length) = true
    rw [List.length_append, List.length_map, List.length_map, l0, h1]
    exact fun z => by have := of_decide_eq_true z; simp at this
  rw [this, Bool.and_false, Bool.false_and]
/-- a number above 10 ** 12 -/
theorem TabG.above {tb : List (List Int)} {n w : Nat} (G : TabG tb n w) {N : List Nat} (h59 : 59 ∉ N) (h32 : 32 ∉ N) (hN : goodW N = false) (b : List Nat) : readOk (tabN tb ++ 32 :: (N ++ 59 :: 32 :: b)) = false := by
  obtain ⟨ini, l, e, h1, h2⟩ := G.last
  have lne : l ≠ [] := fun z => by rw [z] at h1; have := G.w1; simp at h1; omega
  have row : wds (rowN l ++ 32 :: N) = l.map numN ++ [N] := by rw [wds_app, wds_rowN lne, wds_free h32]
  have f : 59 ∉ rowN l ++ 32 :: N := fun h => by
    rcases List.mem_append.mp h with h | h
    · exact rowN_free l h
    · rcases List.mem_cons.mp h with h | h
      · cases h
      · exact h59 h
  have key : wds (rowN l ++ 32 :: N) ∈ tabW (tabN tb ++ 32 :: (N ++ 59 :: 32 :: b)) := by
    by_cases hi : ini = []
    · subst hi
      have e : tb = [l] := e
      rw [e, tabN_one]
      have : rowN l ++ 32 :: (N ++ 59 :: 32 :: b) = (rowN l ++ 32 :: N) ++ 59 :: 32 :: b := by simp
      rw [this, tabW_app, tabW_row f]
      exact List.mem_append_left _ List.mem_cons_self
    · have e2 : tabN tb = tabN ini ++ ([59, 32] ++ rowN l) := by
        unfold tabN
        rw [e, List.map_append]
        show TL.joinL [59, 32] (ini.map rowN ++ [rowN l]) = _
        rw [joinL_snoc, if_neg (fun z => hi (List.map_eq_nil_iff.mp z))]
      rw [e2]
      have : tabN ini ++ ([59, 32] ++ rowN l) ++ 32 :: (N ++ 59 :: 32 :: b) = tabN ini ++ 59 :: 32 :: ((rowN l ++ 32 :: N) ++ 59 :: 32 :: b) := by simp
      rw [this, tabW_app, tabW_app, tabW_row f]
      exact List.mem_append_right _ (List.mem_append_left _ List.mem_cons_self)
  exact bad_word key (by rw [row]; exact List.mem_append_right _ List.mem_cons_self) hN
/-! ### the text as it is built -/
theorem joinL_len (S : List Nat) {c : Nat} : ∀ {ps : List (List Nat)}, (∀ p ∈ ps, p.length ≤ c) → (TL.joinL S ps).length ≤ ps.length * (c + S.length)
  | [], _ => Nat.zero_le _
  | [p], h => by
    have := h p List.mem_cons_self
    show p.length ≤ 1 * (c + S.length)
    omega
  | p :: q :: r, h => by
    have h1 := h p List.mem_cons_self
    have ih := joinL_len S (ps := q :: r) fun x hx => h x (List.mem_cons_of_mem _ hx)
    show (p ++ (S ++ TL.joinL S (q :: r))).length ≤ _
    rw [List.length_append, List.length_append]
    simp only [List.length_cons, Nat.succ_mul] at ih ⊢
    omega
theorem numN_len {y : Int} (h : 0 ≤ y ∧ y ≤ 1000000000000) : (numN y).length ≤ 13 := numL_len (by decide) (Nat.lt_of_le_of_lt (show y.toNat ≤ 1000000000000 by omega) (by decide +kernel))
theorem rowN_len {r : List Int} (h : ∀ y ∈ r, 0 ≤ y ∧ y ≤ 1000000000000) (l6 : r.length ≤ 6) : (rowN r).length ≤ 84 := by
  have := joinL_len [32] (c := 13) (ps := r.map numN) fun p hp => by
    obtain ⟨y, hy, rfl⟩ := List.mem_map.mp hp
    exact numN_len (h y hy)
  rw [List.length_map] at this
  have e : ([32] : List Nat).length = 1 := rfl
  rw [e] at this
  show (TL.joinL [32] (r.map numN)).length ≤ 84
  omega
theorem tabN_len {tb : List (List Int)} (h : ∀ r ∈ tb, r.length ≤ 6 ∧ ∀ y ∈ r, 0 ≤ y ∧ y ≤ 1000000000000) (l7 : tb.length ≤ 7) : (tabN tb).length ≤ 602 := by
  have := joinL_len [59, 32] (c := 84) (ps := tb.map rowN) fun p hp => by
    obtain ⟨r, hr, rfl⟩ := List.mem_map.mp hp
    exact rowN_len (h r hr).2 (h r hr).1
  rw [List.length_map] at this
  have e : ([59, 32] : List Nat).length = 2 := rfl
  rw [e] at this
  show (TL.joinL [59, 32] (tb.map rowN)).length ≤ 602
  omega
def bldN (tb : List (List Int)) (i : Nat) (r : List Int) (j : Nat) : List Nat := tabN (tb.take i ++ (if j = 0 then [] else [r.take j]))
def sepN (i j : Nat) : List Nat := if 0 < j then [32] else if 0 < i then [59, 32] else []
theorem bldN_zero (tb : List (List Int)) (i : Nat) (r : List Int) : bldN tb i r 0 = tabN (tb.take i) := by unfold bldN; rw [if_pos rfl, List.append_nil]
theorem rowN_snoc {r : List Int} (h : r ≠ []) (y : Int) : rowN (r ++ [y]) = rowN r ++ ([32] ++ numN y) := by
  unfold rowN
  rw [List.map_append]
  show TL.joinL [32] (r.map numN ++ [numN y]) = _
  rw [joinL_snoc, if_neg (fun z => h (List.map_eq_nil_iff.mp z))]
theorem tabN_snoc (tb : List (List Int)) (r : List Int) : tabN (tb ++ [r]) = if tb = [] then rowN r else tabN tb ++ ([59, 32] ++ rowN r) := by
  unfold tabN
  rw [List.map_append]
  show TL.joinL [59, 32] (tb.map rowN ++ [rowN r]) = _
  rw [joinL_snoc]
  by_cases h : tb = []
  · rw [if_pos h, if_pos (by rw [h]; rfl)]
  · rw [if_neg h, if_neg (fun z => h (List.map_eq_nil_iff.mp z))]
theorem bldN_step {tb : List (List Int)} {i j : Nat} {r : List Int} {y : Int} (hi : i < tb.length) (hj : r[j]? = some y) : bldN tb i r j ++ sepN i j ++ numN y = bldN tb i r (j + 1) := by
  have e1 : r.take (j + 1) = r.take j ++ [y] := by rw [List.take_add_one, hj]; rfl
  have e2 : bldN tb i r (j + 1) = tabN (tb.take i ++ [r.take (j + 1)]) := by unfold bldN; rw [if_neg (by omega)]
  have ti : tb.take i = [] ↔ i = 0 := by
    rw [List.take_eq_nil_iff]
    constructor
    · rintro (h | h)
      · exact h
      · rw [h] at hi; simp at hi
    · exact .inl
  rw [e2, e1]
  cases j with
  | zero =>
    rw [bldN_zero]
    show tabN (tb.take i) ++ sepN i 0 ++ numN y = tabN (tb.take i ++ [[y]])
    rw [tabN_snoc]
    by_cases i0 : i = 0
    · rw [if_pos (ti.mpr i0), ti.mpr i0, i0]
      rfl
    · have es : sepN i 0 = [59, 32] := (if_neg (by decide)).trans (if_pos (by omega))
      rw [if_neg (fun z => i0 (ti.mp z)), es, List.append_assoc]
      rfl
  | succ j =>
    have rne : r.take (j + 1) ≠ [] := fun z => by
      have hl := (List.getElem?_eq_some_iff.mp hj).1
      rw [List.take_eq_nil_iff] at z
      rcases z with z | z
      · omega
      · rw [z] at hl; simp at hl
    have e3 : bldN tb i r (j + 1) = tabN (tb.take i ++ [r.take (j + 1)]) := by unfold bldN; rw [if_neg (by omega)]
    have es : sepN i (j + 1) = [32] := if_pos (by omega)
    rw [e3, tabN_snoc, tabN_snoc, rowN_snoc rne, es]
    by_cases h : tb.take i = []
    · rw [if_pos h, if_pos h, List.append_assoc]
    · rw [if_neg h, if_neg h]
      simp [List.append_assoc]
theorem bldN_end {tb : List (List Int)} {i : Nat} {r : List Int} (hi : tb[i]? = some r) (hr : r ≠ []) : bldN tb i r r.length = tabN (tb.take (i + 1)) := by
  unfold bldN
  rw [if_neg (fun z => hr (List.length_eq_zero_iff.mp z)), List.take_length, List.take_add_one, hi]
  rfl
end Kp15
set_option Elab.async false
set_option linter.all false
set_option maxRecDepth 100000
set_option maxHeartbeats 1000000
namespace Kp15
open PySem PySem.Spec PyProof.Rows L2 Vf
/-! ### a table's text as the law writes it -/
open _root_.TL
def sp_written (K : PySem.W.Frag) : Sp := fun vs H Q _ => ∃ (p : Addr) (ls : List Addr) (tb : List (List Int)) (n w : Nat), vs = [.ref p] ∧ SqL K H p (ls.map V.ref) ∧ RowsN H ls tb ∧ TabG tb n w ∧ ∀ (s : Str) (H' : Hp), Same H H' → tl s = tabN tb → s.length ≤ 602 → Q (.str s) H'
theorem tl_num0 {n : Int} (h : 0 ≤ n) : tl ((toString n : String) : Str) = numN n := by
  obtain ⟨m, rfl⟩ := Int.eq_ofNat_of_zero_le h
  exact tl_num m
theorem num_log {n : Int} (h : 0 ≤ n ∧ n ≤ 1000000000000) : n.natAbs.log2 < 1920 := numT_log h
section
variable {P : Program} {w : World} {K : PySem.W.Frag} {mg : Str → Option Value} {base : Heap} {C : Nat → Addr} {tG tL : Tok}
theorem sc_l_written : FnScope ["_law_table_here", "_law_text", "_law_i", "_law_row", "_law_j", "_law_number"] ["_law_table_here"] (defScope s_l_written) :=
  ⟨rfl, rfl, rfl, by decide +kernel, rfl, by decide +kernel, by decide +kernel⟩
theorem ok_written {f : Addr} {fd : FuncData} (F : Fun K "_law_written" "_law_written" s_l_written f fd) (T : Txt K mg C tG tL) : FnOk P w K mg base CX0 1 f fd ["_law_table_here"] (sp_written K) := by
  refine F.ok sc_l_written (fun vs H Q E ⟨p, ls, tb, n, w, e, _⟩ => by rw [e]; rfl) (fun cdv A outer s H vs Q E hr h => ?_)
  obtain ⟨p, ls, tb, n, wd, rfl, hp, rows, G, q⟩ := h
  have ll := rows.length
  have n6 := G.n6
  have tlen := G.len
  have w6 := G.w6
  have sz := sizeLine_eq
  refine ⟨_, (pss_cons (ps_set (i := 1) sc_l_written.nd rfl (by first | exact Or.inl rfl | exact Or.inr rfl) pe_str)
  (pss_cons (ps_for PassesOwn.never rfl (pi_enum (by rfl) T.n_enumerate (pa_cons (pv 0) pa_nil))
  (pg_tup rfl (pgs_cons (pg_name (i := 2) sc_l_written.nd rfl (by first | exact Or.inl rfl | exact Or.inr rfl)) (pgs_cons (pg_name (i := 3) sc_l_written.nd rfl (by first | exact Or.inl rfl | exact Or.inr rfl)) pgs_nil)))
  (pss_one (ps_for PassesOwn.never rfl (pi_enum (by rfl) T.n_enumerate (pa_cons (pv 3) pa_nil))
  (pg_tup rfl (pgs_cons (pg_name (i := 4) sc_l_written.nd rfl (by first | exact Or.inl rfl | exact Or.inr rfl)) (pgs_cons (pg_name (i := 5) sc_l_written.nd rfl (by first | exact Or.inl rfl | exact Or.inr rfl)) pgs_nil)))
  (C8.pss_cut (ps_if (pt_cmpR op_gt (pv 4) pe_int (nomark _))
  (pss_one (ps_set (i := 1) sc_l_written.nd rfl (by first | exact Or.inl rfl | exact Or.inr rfl) (pe_op op_add_str (pv 1) pe_str)))
  (pss_one (ps_if (pt_cmpR op_gt (pv 2) pe_int (nomark _))
  (pss_one (ps_set (i := 1) sc_l_written.nd rfl (by first | exact Or.inl rfl | exact Or.inr rfl) (pe_op op_add_str (pv 1) pe_str)))
  pss_nil)))
  (pss_one (ps_set (i := 1) sc_l_written.nd rfl (by first | exact Or.inl rfl | exact Or.inr rfl) (pe_op op_add_str (pv 1) (pe_callTy call_str_int (by rfl) T.n_str (by decide +kernel) (pa_cons (pv 5) pa_nil)))))))))
  (pss_one (ps_ret (pv 1))))), ?_⟩
  refine ⟨.ref p, rfl, p, ls.map V.ref, rfl, hp, for_enum (xs := ls.map V.ref) (fun i σ H' => Same H H' ∧ ∃ (u : Str) (v2 v3 v4 v5 : Option V), σ = [some (.ref p), some (.str u), v2, v3, v4, v5] ∧ tl u = tabN (tb.take i)) ⟨Same.refl _, "", none, none, none, none, rfl, by rw [List.take_zero]; decide +kernel⟩ (fun i σ H' _ p' => p'.1.seq hp) (fun i x U σ H' hx p' nU => ?_) (fun σ H' p' => ?_)⟩
  · obtain ⟨s5, u, v2, v3, v4, v5, rfl, hu⟩ := p'
    obtain ⟨k, hk, rfl⟩ := some_get hx
    obtain ⟨r, hr', hk2⟩ := rows.get hk
    have hi := (List.getElem?_eq_some_iff.mp hr').1
    have rm := List.mem_of_getElem? hr'
    obtain ⟨rl, rb⟩ := G.row r rm
    have kU := same_upd (o := .tup [V.int (i : Nat), V.ref k]) nU
    have s6 := s5.trans kU
    refine ⟨U, [.int (i : Nat), .ref k], rfl, SqT.of upd_same, rfl, .int (i : Nat), [.ref k], rfl, .ref k, [], rfl, rfl, ?_⟩
    generalize upd H' U (.tup [V.int (i : Nat), V.ref k]) = H6 at s6 kU ⊢
    refine ⟨.ref k, rfl, k, r.map V.int, rfl, SqL.of (s6 _ _ hk2), for_enum (xs := r.map V.int) (fun j σ H2 => Same H6 H2 ∧ ∃ (u : Str) (v4 v5 : Option V), σ = [some (.ref p), some (.str u), some (.int (i : Nat)), some (.ref k), v4, v5] ∧ tl u = bldN tb i r j) ⟨Same.refl _, u, _, _, rfl, by rw [bldN_zero]; exact hu⟩ (fun j σ H2 _ p2 => p2.1.seq (SqL.of (s6 _ _ hk2))) (fun j x U2 σ H2 hx p2 nU2 => ?_) (fun σ H2 p2 => ?_)⟩
    · obtain ⟨s7, u, v4, v5, rfl, hu⟩ := p2
      obtain ⟨y, hy, rfl⟩ := some_get hx
      have yb := rb y (List.mem_of_getElem? hy)
      have s8 := s7.trans (same_upd (o := .tup [V.int (j : Nat), V.int y]) nU2)
      refine ⟨U2, [.int (j : Nat), .int y], rfl, SqT.of upd_same, rfl, .int (j : Nat), [.int y], rfl, .int y, [], rfl, rfl, ?_⟩
      generalize upd H2 U2 (.tup [V.int (j : Nat), V.int y]) = H8 at s8 ⊢
      have bl : u.length ≤ 602 := by
        rw [len_tl, hu]
        refine tabN_len (fun x hx => ?_) ?_
        · rcases List.mem_append.mp hx with z | z
          · obtain ⟨a, b⟩ := G.row x (List.mem_of_mem_take z)
            exact ⟨by omega, b⟩
          · split at z
            · cases z
            · obtain rfl : x = r.take j := by simpa using z
              exact ⟨by rw [List.length_take]; omega, fun y hy => rb y (List.mem_of_mem_take hy)⟩
        · rw [List.length_append, List.length_take]
          split
          · show _ + 0 ≤ 7; omega
          · show _ + 1 ≤ 7; omega
      refine ⟨fun σ H9 => H9 = H8 ∧ ∃ u2 : Str, σ = [some (.ref p), some (.str u2), some (.int (i : Nat)), some (.ref k), some (.int (j : Nat)), some (.int y)] ∧ tl u2 = bldN tb i r j ++ sepN i j ∧ u2.length ≤ 604, ?_, ?_⟩
      · have l1 : ((" " : String) : Str).length = 1 := rfl
        have l2 : (("; " : String) : Str).length = 2 := rfl
        refine ⟨.int (j : Nat), rfl, j, 0, rfl, rfl, _, rfl, ite2 (fun z => ?_) (fun z => ?_)⟩
        · have z := of_decide_eq_true z
          refine ⟨.str u, rfl, u, " ", rfl, rfl, by rw [l1]; omega, rfl, u ++ " ", rfl, ?_, by rw [len_tl, tl_append, List.length_append, ← len_tl, ← len_tl, l1]; omega⟩
          rw [tl_append, hu, tl_blank, show sepN i j = [32] from if_pos (by omega)]
        · have z : ¬ 0 < j := fun q => z (decide_eq_true (by omega))
          refine ⟨.int (i : Nat), rfl, i, 0, rfl, rfl, _, rfl, ite2 (fun z2 => ?_) (fun z2 => ?_)⟩
          · have z2 := of_decide_eq_true z2
            refine ⟨.str u, rfl, u, "; ", rfl, rfl, by rw [l2]; omega, rfl, u ++ "; ", rfl, ?_, by rw [len_tl, tl_append, List.length_append, ← len_tl, ← len_tl, l2]; omega⟩
            rw [tl_append, hu, tl_semi, show sepN i j = [59, 32] from (if_neg z).trans (if_pos (by omega))]
          · have z2 : ¬ 0 < i := fun q => z2 (decide_eq_true (by omega))
            refine ⟨rfl, u, rfl, ?_, by omega⟩
            rw [hu, show sepN i j = [] from (if_neg z).trans (if_neg z2), List.append_nil]
      rintro σ H9 ⟨rfl, u2, rfl, hu2, l2⟩
      have ny : ((toString y : String) : Str).length ≤ 13 := by rw [len_tl, tl_num0 yb.1]; exact numN_len yb
      refine ⟨.str u2, rfl, .int y, rfl, y, rfl, num_log yb, u2, _, rfl, rfl, by omega, s8, u2 ++ ((toString y : String) : Str), _, _, rfl, ?_⟩
      rw [tl_append, hu2, tl_num0 yb.1]
      exact bldN_step hi hy
    · obtain ⟨s7, u, v4, v5, rfl, hu⟩ := p2
      rw [List.length_map] at hu
      exact ⟨s6.trans s7, u, _, _, _, _, rfl, by rw [hu]; exact bldN_end hr' (G.rne rm)⟩
  · obtain ⟨s5, u, v2, v3, v4, v5, rfl, hu⟩ := p'
    rw [List.length_map, ll, List.take_length] at hu
    refine ⟨_, rfl, q u H' s5 hu ?_⟩
    rw [len_tl, hu]
    exact tabN_len (fun x hx => ⟨by have := (G.row x hx).1; omega, (G.row x hx).2⟩) (by omega)
end
end Kp15
set_option Elab.async false
set_option linter.all false
set_option maxRecDepth 100000
set_option maxHeartbeats 1000000
namespace Kp15
open PySem PySem.Spec PyProof.Rows L2 Vf
/-! ### data off more than the tape -/
def Mv (S : Addr → Prop) (H H' : Hp) : Prop := ∀ b o, H b = some o → ¬ S b → H' b = some o
theorem Mv.trans {S : Addr → Prop} {H H1 H2 : Hp} (a : Mv S H H1) (b : Mv S H1 H2) : Mv S H H2 := fun c o e n => b c o (a c o e n) n
theorem Mv.same {S : Addr → Prop} {H H1 : Hp} (a : Same H H1) : Mv S H H1 := fun c o e _ => a c o e
def OffP (K : PySem.W.Frag) (S : Addr → Prop) (H : Hp) (v : V) (d : Dt) : Prop := ∀ H', Mv S H H' → Rp K H' v d
def OffPL (K : PySem.W.Frag) (S : Addr → Prop) (H : Hp) (v : List V) (d : List Dt) : Prop := ∀ H', Mv S H H' → RpL K H' v d
section
variable {K : PySem.W.Frag} {S : Addr → Prop} {H H1 : Hp}
theorem OffP.mv {v : V} {d : Dt} (o : OffP K S H v d) (k : Mv S H H1) : OffP K S H1 v d := fun H' k' => o H' (k.trans k')
theorem OffP.off {t : Addr} {v : V} {d : Dt} (o : OffP K S H v d) (h : S t) : Off K t H v d := fun H' k => o H' fun b u e n => k.1 b u e fun z => n (z ▸ h)
theorem offp_non : OffP K S H .non .non := fun _ _ => .non
theorem offp_bl {b : Bool} : OffP K S H (.bl b) (.bl b) := fun _ _ => .bl b
theorem offp_int {i : Int} : OffP K S H (.int i) (.int i) := fun _ _ => .int i
theorem offp_str {x : Str} : OffP K S H (.str x) (.str x) := fun _ _ => .str x
theorem offp_lst {p : Addr} {xs : List V} {ds : List Dt} (h : H p = some (.lst xs)) (n : ¬ S p) (r : OffPL K S H xs ds) : OffP K S H (.ref p) (.lst ds) := fun H' k => .lst (SqL.of (k _ _ h n)) (r H' k)
theorem offp_tup {p : Addr} {xs : List V} {ds : List Dt} (h : H p = some (.tup xs)) (n : ¬ S p) (r : OffPL K S H xs ds) : OffP K S H (.ref p) (.tup ds) := fun H' k => .tup (SqT.of (k _ _ h n)) (r H' k)
theorem offp_dct0 {p : Addr} (h : H p = some (.dK [])) (n : ¬ S p) : OffP K S H (.ref p) (.dct []) := fun H' k => .dct (k _ _ h n) .nil
theorem offp_dct1 {p : Addr} {k0 : Key} {v : V} {d : Dt} (h : H p = some (.dK [(k0, v)])) (n : ¬ S p) (r : OffP K S H v d) : OffP K S H (.ref p) (.dct [(k0, d)]) := fun H' k => .dct (k _ _ h n) (.cons (r H' k) .nil)
theorem offpl_nil : OffPL K S H [] [] := fun _ _ => .nil
theorem offpl_cons {v : V} {vs : List V} {d : Dt} {ds : List Dt} (h : OffP K S H v d) (r : OffPL K S H vs ds) : OffPL K S H (v :: vs) (d :: ds) := fun H' k => .cons (h H' k) (r H' k)
theorem offpl_rep {v : V} {d : Dt} (h : OffP K S H v d) : ∀ n : Nat, OffPL K S H (List.replicate n v) (List.replicate n d)
  | 0 => offpl_nil
  | n + 1 => by rw [List.replicate_succ, List.replicate_succ]; exact offpl_cons h (offpl_rep h n)
end
/-! ### a text some times over -/
theorem size_fold (x : Array Nat) : ∀ (n : Nat) (a : Array Nat), ((List.replicate n x).foldl (· ++ ·) a).size = a.size + n * x.size
  | 0, a => by simp
  | n + 1, a => by
    rw [List.replicate_succ, List.foldl_cons, size_fold x n, Array.size_append, Nat.add_mul]
    omega
def strTimes (x : Str) (n : Nat) : Str := if ((n : Int) == 1 || x.length == 0) = true then x else ⟨(List.replicate n x.cps).foldl (· ++ ·) #[]⟩
theorem op_repS {X : Cx} : OpR X (binaryOp .Mult) (fun a b H Q => ∃ (x : Str) (n : Nat), a = .str x ∧ b = .int n ∧ 1 ≤ n ∧ n ≤ 1000 ∧ x.length ≤ 1000 ∧ Q (.str (strTimes x n)) H) := by
  intro pins s σ H x y v u Q I rx ry h
  obtain ⟨x, n, rfl, rfl, h1, h2, h3, q⟩ := h
  obtain ⟨t, rfl⟩ := rx
  obtain ⟨t2, rfl⟩ := ry
  have hm : x.length * n ≤ 1000 * 1000 := Nat.mul_le_mul h3 h2
  refine PySem.P.mul_str ?_ (fun _ _ => ?_) (fun _ _ => ?_) ?_
  · rw [decide_eq_false (by omega), decide_eq_false (by omega)]; rfl
  · have : (1000 : Int) ≤ (2 ^ 63 - 1) / (n : Int) := Int.le_ediv_of_mul_le (by omega) (by omega)
    omega
  · refine decide_eq_false ?_
    rw [Int.toNat_natCast, sizeLine_eq]
    omega
  · rw [if_neg (by omega)]
    unfold strTimes at q
    by_cases c : ((n : Int) == 1 || x.length == 0) = true
    · rw [if_pos c] at q ⊢
      exact ⟨.str x, H, I, ⟨t, rfl⟩, q⟩
    · rw [if_neg c] at q ⊢
      rw [Int.toNat_natCast]
      refine ⟨?_, .str _, H, I.tok _, ⟨_, rfl⟩, q⟩
      show ((List.replicate n x.cps).foldl (· ++ ·) #[]).size ≤ sizeLine
      rw [size_fold, sizeLine_eq]
      have : n * x.cps.size ≤ 1000 * 1000 := Nat.mul_le_mul h2 h3
      show 0 + n * x.cps.size ≤ _
      omega
theorem sm_rowL {l : List Dt} {k : Nat} (h : l.length ≤ 12) (f : ∀ x ∈ l, sm k x = true) : sm (k + 1) (.lst l) = true := by
  show (decide (l.length ≤ 12) && l.all (sm k)) = true
  rw [decide_eq_true h, Bool.true_and, List.all_eq_true]
  exact f
theorem sm_all {k : Nat} {ns : List Int} (h : ∀ x ∈ ns, 0 ≤ x ∧ x ≤ 1000000000000) : (ns.map Dt.int).all (sm k) = true := by
  rw [List.all_eq_true]
  intro d hd
  obtain ⟨x, hx, rfl⟩ := List.mem_map.mp hd
  have := h x hx
  have b : (1000000000000 : Nat) < 10 ^ 60 := by decide +kernel
  cases k <;> exact decide_eq_true (Nat.lt_of_le_of_lt (show x.natAbs ≤ 1000000000000 by omega) b)
end Kp15
set_option Elab.async false
set_option linter.all false
set_option maxRecDepth 100000
set_option maxHeartbeats 1000000
namespace Kp15
open PySem PySem.Spec PyProof.Rows L2 Vf
/-! ### a sign put otherwise; numbers looked at -/
open _root_.TL
def sp_sign : Sp := fun vs H Q _ => ∃ t : Addr, vs = [.ref t] ∧ Tp H t ∧ ∀ (c : Nat) (H' : Hp), Kp t H H' → Q (.str ⟨#[c]⟩) H'
def sp_otherwise : Sp := fun vs H Q _ => ∃ (t : Addr) (s : Str), vs = [.ref t, .str s] ∧ Tp H t ∧ s.length ≤ 602 ∧ ∀ (u : Str) (H' : Hp), fitS u → Kp t H H' → Q (.str u) H'
def sp_isn : Sp := fun vs H Q _ => ∃ (s : Str), vs = [.str s] ∧ fitS s ∧ ∀ H', Same H H' → Q (.bl (goodW (tl s))) H'
theorem sign_at {z : Str} {i : Int} (h0 : 0 ≤ i) (h1 : i < (z.length : Nat)) : ∃ c, atI z.cps.toList i = some c := by
  obtain ⟨j, rfl⟩ := Int.eq_ofNat_of_zero_le h0
  have hj : j < z.cps.toList.length := by rw [Array.length_toList]; exact Int.ofNat_lt.mp h1
  exact ⟨z.cps.toList[j], atI_nat (List.getElem?_eq_getElem hj)⟩
theorem fold_lt : ∀ (w : List Nat) (a : Nat), w.all isFig = true → w.foldl (fun acc c => acc * 10 + (c - 48)) a < (a + 1) * 10 ^ w.length
  | [], a, _ => by show a < (a + 1) * 1; omega
  | c :: w, a, h => by
    rw [List.all_cons, Bool.and_eq_true] at h
    have hc : (decide (48 ≤ c) && decide (c ≤ 57)) = true := h.1
    rw [Bool.and_eq_true, decide_eq_true_eq, decide_eq_true_eq] at hc
    have ih := fold_lt w (a * 10 + (c - 48)) h.2
    rw [List.foldl_cons, List.length_cons, Nat.pow_succ]
    have : (a * 10 + (c - 48) + 1) * 10 ^ w.length ≤ ((a + 1) * 10) * 10 ^ w.length := Nat.mul_le_mul_right _ (by omega)
    rw [show (a + 1) * (10 ^ w.length * 10) = ((a + 1) * 10) * 10 ^ w.length by rw [Nat.mul_comm (10 ^ w.length) 10, Nat.mul_assoc]]
    omega
theorem wval_lt {w : List Nat} (h : w.all isFig = true) : wval w < 10 ^ w.length := by
  have := fold_lt w 0 h
  rw [Nat.zero_add, Nat.one_mul] at this
  exact this
section
variable {P : Program} {w : World} {K : PySem.W.Frag} {mg : Str → Option Value} {base : Heap} {C : Nat → Addr} {tG tL : Tok}
theorem sc_l_sign : FnScope ["_law_tape_here", "_law_some"] ["_law_tape_here"] (defScope s_l_sign) :=
  ⟨rfl, rfl, rfl, by decide +kernel, rfl, by decide +kernel, by decide +kernel⟩
theorem ok_sign {f : Addr} {fd : FuncData} (F : Fun K "_law_sign" "_law_sign" s_l_sign f fd) (T : Txt K mg C tG tL) (c_l_digit : Cal P w K mg base CX0 1 "_law_digit" ["_law_tape_here", "_law_size"] sp_digit) : FnOk P w K mg base CX0 2 f fd ["_law_tape_here"] sp_sign := by
  refine F.ok sc_l_sign (fun vs H Q E ⟨t, e, _⟩ => by rw [e]; rfl) (fun cdv A outer s H vs Q E hr h => ?_)
  obtain ⟨t, rfl, tp, q⟩ := h
  obtain ⟨m, ht⟩ := id tp
  refine ⟨_, (pss_cons (ps_set (i := 1) sc_l_sign.nd rfl (by first | exact Or.inl rfl | exact Or.inr rfl) pe_str)
  (pss_cons (ps_set (i := 1) sc_l_sign.nd rfl (by first | exact Or.inl rfl | exact Or.inr rfl) (pe_op op_add_str (pv 1) pe_str))
  (C8.pss_cut (ps_if (pt_cmpR op_eq (pe_cal c_l_digit (hr.mono (by decide)) (by rfl) pass0 (pa_cons (pv 0) (pa_cons pe_int pa_nil))) pe_int (nomark _))
  (pss_one (ps_set (i := 1) sc_l_sign.nd rfl (by first | exact Or.inl rfl | exact Or.inr rfl) pe_str))
  pss_nil)
  (pss_one (ps_ret (pe_ix ix_str (pv 1) (pe_cal c_l_digit (hr.mono (by decide)) (by rfl) pass0 (pa_cons (pv 0) (pa_cons (pe_callB call_len (by rfl) T.n_len (by decide +kernel) (pa_cons (pv 1) pa_nil)) pa_nil))) (fun _ _ => rfl))))))), ?_⟩
  refine ⟨_, rfl, _, _, rfl, rfl, by decide +kernel, ?_⟩
  refine ⟨fun σ H2 => Kp t H H2 ∧ ∃ z : Str, σ = [some (.ref t), some (.str z)] ∧ 1 ≤ z.length ∧ z.length ≤ 200, ?_, ?_⟩
  · refine ⟨.ref t, rfl, t, m, 2, rfl, ht, by decide, by decide, fun d m1 d0 d1 => ?_⟩
    have k1 := (Kp.refl tp).tape (n := m1)
    refine ⟨rfl, _, rfl, ite2 (fun _ => ?_) (fun _ => ?_)⟩
    · exact ⟨k1, _, rfl, by decide +kernel, by decide +kernel⟩
    · exact ⟨k1, _, rfl, by decide +kernel, by decide +kernel⟩
  rintro σ H2 ⟨k2, z, rfl, z1, z2⟩
  obtain ⟨m2, hm2⟩ := id k2.2
  refine ⟨.str z, rfl, .ref t, rfl, .str z, rfl, .str z, z.length, rfl, ⟨Nat.le_trans z2 (by decide), rfl⟩, t, m2, z.length, rfl, hm2, by omega, by omega, fun d m3 d0 d1 => ?_⟩
  obtain ⟨c, hc⟩ := sign_at d0 d1
  exact ⟨z, d, c, rfl, rfl, Nat.le_trans z2 (by decide), hc, q c _ k2.tape⟩
theorem sc_l_otherwise : FnScope ["_law_tape_here", "_law_text", "_law_sign_here", "_law_at", "_law_some"] ["_law_tape_here", "_law_text"] (defScope s_l_otherwise) :=
  ⟨rfl, rfl, rfl, by decide +kernel, rfl, by decide +kernel, by decide +kernel⟩
theorem ok_otherwise {f : Addr} {fd : FuncData} (F : Fun K "_law_otherwise" "_law_otherwise" s_l_otherwise f fd) (T : Txt K mg C tG tL) (c_l_digit : Cal P w K mg base CX0 1 "_law_digit" ["_law_tape_here", "_law_size"] sp_digit) (c_l_sign : Cal P w K mg base CX0 2 "_law_sign" ["_law_tape_here"] sp_sign) : FnOk P w K mg base CX0 3 f fd ["_law_tape_here", "_law_text"] sp_otherwise := by
  refine F.ok sc_l_otherwise (fun vs H Q E ⟨t, s, e, _⟩ => by rw [e]; rfl) (fun cdv A outer s0 H vs Q E hr h => ?_)
  obtain ⟨t, s, rfl, tp, ls, q⟩ := h
  have sz := sizeLine_eq
  have cut : ∀ lo hi, (cutS s lo hi).length ≤ 602 := fun lo hi => Nat.le_trans (cutS_length s lo hi) ls
  have app : ∀ a b : Str, (a ++ b).length = a.length + b.length := fun a b => by rw [len_tl, tl_append, List.length_append, ← len_tl, ← len_tl]
  refine ⟨_, (pss_cons (ps_set (i := 2) sc_l_otherwise.nd rfl (by first | exact Or.inl rfl | exact Or.inr rfl) (pe_cal c_l_sign (hr.mono (by decide)) (by rfl) pass0 (pa_cons (pv 0) pa_nil)))
  (pss_cons (ps_set (i := 3) sc_l_otherwise.nd rfl (by first | exact Or.inl rfl | exact Or.inr rfl) (pe_cal c_l_digit (hr.mono (by decide)) (by rfl) pass0 (pa_cons (pv 0) (pa_cons (pe_op op_add (pe_callB call_len (by rfl) T.n_len (by decide +kernel) (pa_cons (pv 1) pa_nil)) pe_int) pa_nil))))
  (pss_cons (ps_set (i := 4) sc_l_otherwise.nd rfl (by first | exact Or.inl rfl | exact Or.inr rfl) (pe_lst (pa_cons (pe_op op_add_str (pe_op op_add_str (pe_slice sl_str (pv 1) po_none (po_some (pv 3))) (pv 2)) (pe_slice sl_str (pv 1) (po_some (pv 3)) po_none)) (pa_cons (pe_op op_add_str (pe_op op_add_str (pe_slice sl_str (pv 1) po_none (po_some (pv 3))) (pv 2)) (pe_slice sl_str (pv 1) (po_some (pe_op op_add (pv 3) pe_int)) po_none)) (pa_cons (pe_op op_add_str (pe_slice sl_str (pv 1) po_none (po_some (pv 3))) (pe_slice sl_str (pv 1) (po_some (pe_op op_add (pv 3) pe_int)) po_none)) pa_nil)))))
  (pss_one (ps_ret (pe_ix (ix_listK (K := K) rfl) (pv 4) (pe_cal c_l_digit (hr.mono (by decide)) (by rfl) pass0 (pa_cons (pv 0) (pa_cons pe_int pa_nil))) (fun _ _ => rfl))))))), ?_⟩
  refine ⟨.ref t, rfl, t, rfl, tp, fun c H1 k1 => ?_⟩
  obtain ⟨m1, hm1⟩ := id k1.2
  have lc : (⟨#[c]⟩ : Str).length = 1 := rfl
  generalize (⟨#[c]⟩ : Str) = g at lc ⊢
  refine ⟨.ref t, rfl, .str s, rfl, .str s, s.length, rfl, ⟨by omega, rfl⟩, _, _, rfl, rfl, t, m1, _, rfl, hm1, by omega, by omega, fun a m2 a0 a1 => ?_⟩
  have k2 := k1.tape (n := m2)
  generalize upd H1 t (.lst [.int m2]) = H2 at k2 ⊢
  have l1 := cut none (some a)
  have l2 := cut (some a) none
  have l3 := cut (some (a + 1)) none
  refine ⟨.str s, rfl, .int a, rfl, a, rfl, s, rfl, by omega, .str g, rfl, _, _, rfl, rfl, by omega, .str s, rfl, .int a, rfl, a, rfl, s, rfl, by omega, _, _, rfl, rfl, by rw [app]; omega, ?_⟩
  refine ⟨.str s, rfl, .int a, rfl, a, rfl, s, rfl, by omega, .str g, rfl, _, _, rfl, rfl, by omega, .str s, rfl, .int a, rfl, a, 1, rfl, rfl, _, rfl, s, rfl, by omega, _, _, rfl, rfl, by rw [app]; omega, ?_⟩
  refine ⟨.str s, rfl, .int a, rfl, a, rfl, s, rfl, by omega, .str s, rfl, .int a, rfl, a, 1, rfl, rfl, _, rfl, s, rfl, by omega, _, _, rfl, rfl, by omega, (by show 3 ≤ sizeLine; decide), fun p np => ?_⟩
  have tpp : p ≠ t := ne_tape k2.2 np
  have k3 := k2.lay (o := .lst [V.str (cutS s none (some a) ++ g ++ cutS s (some a) none), .str (cutS s none (some a) ++ g ++ cutS s (some (a + 1)) none), .str (cutS s none (some a) ++ cutS s (some (a + 1)) none)]) np
  obtain ⟨m3, hm3⟩ := id k3.2
  refine ⟨.ref p, rfl, .ref t, rfl, t, m3, 3, rfl, hm3, by decide, by decide, fun d m4 d0 d1 => ?_⟩
  obtain ⟨u, hu, lu⟩ : ∃ u : Str, ([V.str (cutS s none (some a) ++ g ++ cutS s (some a) none), .str (cutS s none (some a) ++ g ++ cutS s (some (a + 1)) none), .str (cutS s none (some a) ++ cutS s (some (a + 1)) none)] : List V)[d.toNat]? = some (.str u) ∧ u.length ≤ 1300 := by
    have : d.toNat = 0 ∨ d.toNat = 1 ∨ d.toNat = 2 := by omega
    rcases this with h | h | h
    · rw [h]; exact ⟨_, rfl, by rw [app, app]; omega⟩
    · rw [h]; exact ⟨_, rfl, by rw [app, app]; omega⟩
    · rw [h]; exact ⟨_, rfl, by rw [app]; omega⟩
  exact ⟨p, _, d, .str u, rfl, rfl, SqL.of (by rw [upd_ne tpp, upd_same]), at_of (j := d.toNat) (by omega) hu, q u _ (show u.length ≤ 2000 by omega) k3.tape⟩
theorem sc_l_is_number : FnScope ["_law_word", "_law_sign_here"] ["_law_word"] (defScope s_l_is_number) :=
  ⟨rfl, rfl, rfl, by decide +kernel, rfl, by decide +kernel, by decide +kernel⟩
theorem ok_isn {f : Addr} {fd : FuncData} (F : Fun K "_law_is_number" "_law_is_number" s_l_is_number f fd) (T : Txt K mg C tG tL) : FnOk P w K mg base CX0 1 f fd ["_law_word"] sp_isn := by
  refine F.ok sc_l_is_number (fun vs H Q E ⟨s, e, _⟩ => by rw [e]; rfl) (fun cdv A outer s0 H vs Q E hr h => ?_)
  obtain ⟨s, rfl, fs, q⟩ := h
  have ls : (tl s).length = s.length := (len_tl s).symm
  refine ⟨_, (pss_cons (ps_if (PW.pt (pw_or (pt_cmpR op_eq (pv 0) pe_str (nomark _)) (pw_or (pt_cmpR op_gt (pe_callB call_len (by rfl) T.n_len (by decide +kernel) (pa_cons (pv 0) pa_nil)) pe_int (nomark _)) (pw_or1 (pt_not (pt_val (pe_callB (allK (K := K) rfl rfl) (by rfl) T.n_all (by decide +kernel) (pa_cons (pe_lc (own := [("_law_sign_here", 1)]) (by rfl) sc_l_is_number.nd (pi_str (pv 0)) (blkOk_by (own := [("_law_sign_here", 1)]) (N := ["_law_word", "_law_sign_here"]) (sc := defScope s_l_is_number) (by decide +kernel)) (fun _ _ _ _ _ => (pg_name (i := 1) sc_l_is_number.nd rfl (by first | exact Or.inl rfl | exact Or.inr rfl))) (fun _ _ _ _ _ => pts_nil) (fun _ _ _ _ _ => (pe_cmpR op_in_sign (pv 1) pe_str (by rfl)))) pa_nil))))))))
  (pss_one (ps_ret pe_bl))
  pss_nil)
  (pss_one (ps_ret (pe_and (pe_cmpR op_eq (pe_callTy call_str_int (by rfl) T.n_str (by decide +kernel) (pa_cons (pe_callTy call_int_str (by rfl) T.n_int (by decide +kernel) (pa_cons (pv 0) pa_nil)) pa_nil)) (pv 0) (nomark _)) (pe_one (pe_cmpR op_le (pe_callTy call_int_str (by rfl) T.n_int (by decide +kernel) (pa_cons (pv 0) pa_nil)) (pe_op op_pow pe_int pe_int) (nomark _))))))), ?_⟩
  have no : goodW (tl s) = false → ∀ H', Same H H' → Q (.bl false) H' := fun e H' g => by have := q H' g; rw [e] at this; exact this
  have sz := sizeLine_eq
  have eE : decide (V.str s = V.str "") = decide (tl s = []) := decide_eq_decide.mpr ⟨fun z => by rw [V.str.inj z]; decide +kernel, fun z => by rw [show s = "" from ext_tl (by rw [z]; decide +kernel)]⟩
  refine ⟨.str s, rfl, rfl, _, rfl, ?_⟩
  rw [eE]
  by_cases se : tl s = []
  · rw [decide_eq_true se]
    exact no (by rw [se]; decide +kernel) H (Same.refl _)
  rw [decide_eq_false se]
  have l1 : 1 ≤ (tl s).length := List.length_pos_iff.mpr se
  refine ⟨.str s, rfl, .str s, s.length, rfl, ⟨fitS_len fs, rfl⟩, _, _, rfl, rfl, _, rfl, ?_⟩
  by_cases l13 : s.length ≤ 13
  rotate_left
  · rw [decide_eq_true (p := (13 : Int) < ((s.length : Nat) : Int)) (by omega)]
    refine no ?_ H (Same.refl _)
    unfold goodW numOk
    rw [decide_eq_false (p := (tl s).length ≤ 13) (by omega), Bool.and_false, Bool.false_and, Bool.false_and, Bool.false_and]
  rw [decide_eq_false (p := (13 : Int) < ((s.length : Nat) : Int)) (by omega)]
  refine ⟨.str s, rfl, s, rfl, fun X nX => ?_⟩
  refine lc_it walk_str (fun i H' => Same H H' ∧ H' X = some (.lst ((((tl s).take i).map isFig).map V.bl))) ⟨same_upd nX, upd_same⟩ (fun _ _ _ _ => trivial) (fun i x H' H'' hi p y => ?_) (fun H' p => ?_)
  · obtain ⟨sm, hX⟩ := p
    obtain ⟨rfl, c, hc, rfl⟩ := y
    have hc' : (tl s)[i]? = some c := by rw [tl_cps]; exact hc
    refine ⟨rfl, .str ⟨#[c]⟩, rfl, c, "0123456789", rfl, rfl, _, hX, ?_, fun b o eb => by rw [upd_ne (ne_of_none eb nX)]; exact sm b o eb, ?_⟩
    · rw [List.length_map, List.length_map, List.length_take]
      exact Nat.lt_of_le_of_lt (show _ ≤ 13 by omega) (by decide)
    · rw [upd_same, fig_in, List.take_add_one, hc', List.map_append, List.map_append]; rfl
  obtain ⟨sm, hX⟩ := p
  have et : (tl s).take s.cps.size = tl s := List.take_of_length_le (by rw [ls]; exact Nat.le_refl _)
  rw [et] at hX
  refine ⟨X, (tl s).map isFig, rfl, .inl (.inl hX), _, rfl, ?_⟩
  rw [List.all_map]
  cases ef : (tl s).all (id ∘ isFig) with
  | false =>
    have ef : (tl s).all isFig = false := ef
    refine no ?_ H' sm
    unfold goodW numOk
    rw [ef, Bool.and_false, Bool.false_and, Bool.false_and]
  | true =>
    have ef : (tl s).all isFig = true := ef
    have it : intText? s = some ((wval (tl s) : Nat) : Int) := PySem.intText_digits (x := s) (figs_digits ef) se (by omega)
    have l640 : s.length ≤ 640 := by omega
    have hv : ((wval (tl s) : Nat) : Int).natAbs.log2 < 1920 := by
      have hw := wval_lt ef
      have h13 : (10 : Nat) ^ (tl s).length ≤ 10 ^ 13 := Nat.pow_le_pow_right (by decide) (by omega)
      by_cases z : wval (tl s) = 0
      · rw [z]; decide
      · rw [Int.natAbs_natCast]
        exact (Nat.log2_lt z).mpr (Nat.lt_of_lt_of_le hw (Nat.le_trans h13 (by decide +kernel)))
    have eq : goodW (tl s) = (decide (numL (wval (tl s)) = tl s) && decide (wval (tl s) ≤ 1000000000000)) := by
      unfold goodW numOk
      rw [ef, decide_eq_true l1, decide_eq_true (p := (tl s).length ≤ 13) (by omega), num_canon ef l1]; rfl
    have eS : decide (V.str ((toString ((wval (tl s) : Nat) : Int) : String) : Str) = V.str s) = decide (numL (wval (tl s)) = tl s) := decide_eq_decide.mpr ⟨fun z => (tl_num _).symm.trans (congrArg tl (V.str.inj z)), fun z => by rw [show ((toString ((wval (tl s) : Nat) : Int) : String) : Str) = s from ext_tl (by rw [tl_num]; exact z)]⟩
    have q2 := q H' sm
    rw [eq] at q2
    refine ⟨.str s, rfl, s, _, rfl, it, l640, _, rfl, hv, .str s, rfl, rfl, _, rfl, ?_⟩
    rw [eS]
    cases ec : decide (numL (wval (tl s)) = tl s) with
    | false => rw [ec] at q2; exact q2
    | true =>
      rw [ec, Bool.true_and] at q2
      refine ⟨.str s, rfl, s, _, rfl, it, l640, 10, 12, rfl, rfl, cpow12, _, _, rfl, rfl, ?_⟩
      have e2 : decide (((wval (tl s) : Nat) : Int) ≤ (10 : Int) ^ Int.toNat 12) = decide (wval (tl s) ≤ 1000000000000) := by rw [pow12]; exact decide_eq_decide.mpr (by omega)
      rw [← e2] at q2
      exact q2
end
end Kp15
set_option Elab.async false
set_option linter.all false
set_option maxRecDepth 100000
set_option maxHeartbeats 1000000
namespace Kp15
open PySem PySem.Spec PyProof.Rows L2 Vf
/-! ### the law's names of exceptions -/
def flags (m : Nat) : List V := (List.range 12).map fun j => V.bl (decide (j = m))
def kinds : List Str := ["sums", "caps", "table", "order", "columns", "text", "cell", "many", "number", "step", "line", "other"]
def kind (m : Nat) : Str := kinds.getD m "other"
def sp_sorts (C : Nat → Addr) : Sp := fun vs H Q _ => ∃ (a : Addr) (m : Nat), vs = [.ref a] ∧ m < 11 ∧ ExAt H a (C m) ∧ ∀ (H' : Hp) (p : Addr), Same H H' → H p = none → H' p = some (.lst (flags m)) → Q (.ref p) H'
def sp_lname (C : Nat → Addr) : Sp := fun vs H Q _ => ∃ (a : Addr) (m : Nat), vs = [.ref a] ∧ m < 11 ∧ ExAt H a (C m) ∧ ∀ H' : Hp, Same H H' → Q (.str (kind m)) H'
section
variable {P : Program} {w : World} {K : PySem.W.Frag} {mg : Str → Option Value} {base : Heap} {C : Nat → Addr} {tG tL : Tok}
theorem sc_l_sorts : FnScope ["_law_e", "_law_found"] ["_law_e"] (defScope s_l_sorts) :=
  ⟨rfl, rfl, rfl, by decide +kernel, rfl, by decide +kernel, by decide +kernel⟩
theorem ok_sorts {f : Addr} {fd : FuncData} (F : Fun K "_law_sorts" "_law_sorts" s_l_sorts f fd) (T : Txt K mg C tG tL) : FnA P w K mg base 1 f fd ["_law_e"] (sp_sorts C) := by
  refine funOkA F sc_l_sorts (fun vs H Q E ⟨a, m, e, _⟩ => by rw [e]; rfl) (fun cdv A outer s H vs Q E hr h => ?_)
  obtain ⟨a, m, rfl, hm, hE, q⟩ := h
  refine ⟨_, (pss_cons (ps_set (i := 1) sc_l_sorts.nd rfl (by first | exact Or.inl rfl | exact Or.inr rfl) (pe_lst (pa_cons (pe_isN T T.NoSums (by decide) (pv 0) (pe_glob (by rfl) T.NoSums.g rfl) (by rfl) T.n_isinstance) (pa_cons (pe_isN T T.NoCaps (by decide) (pv 0) (pe_glob (by rfl) T.NoCaps.g rfl) (by rfl) T.n_isinstance) (pa_cons (pe_isN T T.NoTable (by decide) (pv 0) (pe_glob (by rfl) T.NoTable.g rfl) (by rfl) T.n_isinstance) (pa_cons (pe_isN T T.NoOrder (by decide) (pv 0) (pe_glob (by rfl) T.NoOrder.g rfl) (by rfl) T.n_isinstance) pa_nil))))))
  (pss_cons (ps_set (i := 1) sc_l_sorts.nd rfl (by first | exact Or.inl rfl | exact Or.inr rfl) (pe_op op_cat (pv 1) (pe_lst (pa_cons (pe_isN T T.NoColumns (by decide) (pv 0) (pe_glob (by rfl) T.NoColumns.g rfl) (by rfl) T.n_isinstance) (pa_cons (pe_isN T T.NoText (by decide) (pv 0) (pe_glob (by rfl) T.NoText.g rfl) (by rfl) T.n_isinstance) (pa_cons (pe_isN T T.NoCell (by decide) (pv 0) (pe_glob (by rfl) T.NoCell.g rfl) (by rfl) T.n_isinstance) (pa_cons (pe_isN T T.TooMany (by decide) (pv 0) (pe_glob (by rfl) T.TooMany.g rfl) (by rfl) T.n_isinstance) pa_nil)))))))
  (pss_cons (ps_set (i := 1) sc_l_sorts.nd rfl (by first | exact Or.inl rfl | exact Or.inr rfl) (pe_op op_cat (pv 1) (pe_lst (pa_cons (pe_isN T T.NoNumber (by decide) (pv 0) (pe_glob (by rfl) T.NoNumber.g rfl) (by rfl) T.n_isinstance) (pa_cons (pe_isN T T.NoStep (by decide) (pv 0) (pe_glob (by rfl) T.NoStep.g rfl) (by rfl) T.n_isinstance) (pa_cons (pe_isN T T.NoLine (by decide) (pv 0) (pe_glob (by rfl) T.NoLine.g rfl) (by rfl) T.n_isinstance) pa_nil))))))
  (pss_one (ps_ret (pe_op op_cat (pv 1) (pe_lst (pa_cons (pe_not (pe_callB (call_isXK (K := K) rfl) (by rfl) T.n_isinstance (by decide +kernel) (pa_cons (pv 0) (pa_cons (pe_bltn (v := .ty "ValueError") (by rfl) T.n_ValueError (by decide +kernel) rfl) pa_nil)))) pa_nil)))))))), ?_⟩
  refine ⟨a, m, rfl, hm, hE, a, m, rfl, hm, hE, a, m, rfl, hm, hE, a, m, rfl, hm, hE, (by show 4 ≤ sizeLine; decide), fun p np => ?_⟩
  have s1 := same_upd (o := .lst [V.bl (decide (0 = m)), V.bl (decide (1 = m)), V.bl (decide (2 = m)), V.bl (decide (3 = m))]) np
  have hE1 := hE.same s1
  refine ⟨_, rfl, a, m, rfl, hm, hE1, a, m, rfl, hm, hE1, a, m, rfl, hm, hE1, a, m, rfl, hm, hE1, (by show 4 ≤ sizeLine; decide), fun r nr => ?_⟩
  have s2 := same_upd (o := .lst [V.bl (decide (4 = m)), V.bl (decide (5 = m)), V.bl (decide (6 = m)), V.bl (decide (7 = m))]) nr
  refine ⟨p, r, _, _, rfl, rfl, s2 _ _ upd_same, upd_same, (by show 8 ≤ sizeLine; decide), fun u nu => ?_⟩
  have s3 := same_upd (o := .lst [V.bl (decide (0 = m)), V.bl (decide (1 = m)), V.bl (decide (2 = m)), V.bl (decide (3 = m)), V.bl (decide (4 = m)), V.bl (decide (5 = m)), V.bl (decide (6 = m)), V.bl (decide (7 = m))]) nu
  have hE3 := (hE1.same s2).same s3
  refine ⟨_, rfl, a, m, rfl, hm, hE3, a, m, rfl, hm, hE3, a, m, rfl, hm, hE3, (by show 3 ≤ sizeLine; decide), fun x nx => ?_⟩
  have s4 := same_upd (o := .lst [V.bl (decide (8 = m)), V.bl (decide (9 = m)), V.bl (decide (10 = m))]) nx
  refine ⟨u, x, _, _, rfl, rfl, s4 _ _ upd_same, upd_same, (by show 11 ≤ sizeLine; decide), fun y ny => ?_⟩
  have s5 := same_upd (o := .lst [V.bl (decide (0 = m)), V.bl (decide (1 = m)), V.bl (decide (2 = m)), V.bl (decide (3 = m)), V.bl (decide (4 = m)), V.bl (decide (5 = m)), V.bl (decide (6 = m)), V.bl (decide (7 = m)), V.bl (decide (8 = m)), V.bl (decide (9 = m)), V.bl (decide (10 = m))]) ny
  have hE5 := (hE3.same s4).same s5
  obtain ⟨nm, Fm⟩ := T.fs m hm
  refine ⟨_, rfl, .ref a, rfl, a, C m, _, _, true, rfl, .ty _, hE5, Fm.c, kit_VE Fm, _, rfl, (by show 1 ≤ sizeLine; decide), fun z nz => ?_⟩
  have s6 := same_upd (o := .lst [V.bl false]) nz
  refine ⟨y, z, _, _, rfl, rfl, s6 _ _ upd_same, upd_same, (by show 12 ≤ sizeLine; decide), fun v nv => ?_⟩
  have sA : Same H _ := ((((s1.trans s2).trans s3).trans s4).trans s5).trans s6
  have e11 : flags m = [V.bl (decide (0 = m)), V.bl (decide (1 = m)), V.bl (decide (2 = m)), V.bl (decide (3 = m)), V.bl (decide (4 = m)), V.bl (decide (5 = m)), V.bl (decide (6 = m)), V.bl (decide (7 = m)), V.bl (decide (8 = m)), V.bl (decide (9 = m)), V.bl (decide (10 = m))] ++ [V.bl false] := by
    have : decide (11 = m) = false := decide_eq_false (by omega)
    show [_, _, _, _, _, _, _, _, _, _, _, V.bl (decide (11 = m))] = _
    rw [this]
    rfl
  exact q _ v (sA.trans (same_upd nv)) (sA.free nv) (by rw [upd_same, e11]; rfl)
def foundBy (m i : Nat) : List V := if m < i then [.str (kind m)] else []
theorem flags_at {m i : Nat} (h : i < 12) : (flags m)[i]? = some (.bl (decide (i = m))) := by
  unfold flags
  rw [List.getElem?_map, List.getElem?_range h]
  rfl
theorem names_at {i : Nat} (h : i < 12) : (kinds.map V.str)[i]? = some (.str (kind i)) := by
  unfold kind
  have h2 : i < kinds.length := h
  rw [List.getElem?_map, List.getD_eq_getElem?_getD, List.getElem?_eq_getElem h2]
  rfl
theorem sc_l_name : FnScope ["_law_e", "_law_names", "_law_found", "_law_name_here", "_law_so"] ["_law_e"] (defScope s_l_name) :=
  ⟨rfl, rfl, rfl, by decide +kernel, rfl, by decide +kernel, by decide +kernel⟩
theorem ok_lname {f : Addr} {fd : FuncData} (F : Fun K "_law_name" "_law_name" s_l_name f fd) (T : Txt K mg C tG tL) (c_l_sorts : CalA P w K mg base 1 "_law_sorts" ["_law_e"] (sp_sorts C)) : FnT P w K mg base 2 f fd ["_law_e"] (sp_lname C) := by
  refine funOkT F sc_l_name (fun vs H Q E ⟨a, m, e, _⟩ => by rw [e]; rfl) (fun cdv A outer s H vs Q E a0 hr hh hot h => ?_)
  obtain ⟨a, m, rfl, hm, hE, q⟩ := h
  refine ⟨_, (pss_cons (ps_set (i := 1) sc_l_name.nd rfl (by first | exact Or.inl rfl | exact Or.inr rfl) (pe_lst (pa_cons pe_str (pa_cons pe_str (pa_cons pe_str (pa_cons pe_str (pa_cons pe_str (pa_cons pe_str (pa_cons pe_str (pa_cons pe_str (pa_cons pe_str (pa_cons pe_str (pa_cons pe_str (pa_cons pe_str pa_nil))))))))))))))
  (pss_cons (ps_setLcQ (a := a0) (i := 2) (own := [("_law_name_here", 3), ("_law_so", 4)]) (by exact hh) sc_l_name.nd rfl rfl (sw_true rfl rfl rfl (by decide +kernel)) (pi_zipQ (by rfl) T.n_zip (pa_cons (pv 1) (pa_cons (pe_calA c_l_sorts (by first | exact roomH_mark (hr.mono (by decide)) | exact hr.mono (by decide)) (by rfl) (pa_cons (pv 0) pa_nil)) pa_nil))) (blkOk_by (own := [("_law_name_here", 3), ("_law_so", 4)]) (N := ["_law_e", "_law_names", "_law_found", "_law_name_here", "_law_so"]) (sc := defScope s_l_name) (by decide +kernel)) (fun _ _ _ _ _ => (pg_tupQ (K := K) (n := 2) (a := a0) rfl (by exact hh) (pgs_cons (pg_name (i := 3) sc_l_name.nd rfl (by first | exact Or.inl rfl | exact Or.inr rfl)) (pgs_cons (pg_name (i := 4) sc_l_name.nd rfl (by first | exact Or.inl rfl | exact Or.inr rfl)) pgs_nil)))) (fun _ _ _ _ _ => pts_one (pt_val (pv 4))) (fun _ _ _ _ _ => (pv 3)))
  (pss_one (ps_ret (pe_ifExp (pt_cmpR op_eq (pe_callB (len_ofK (K := K) rfl) (by rfl) T.n_len (by decide +kernel) (pa_cons (pv 2) pa_nil)) pe_int (nomark _)) (pe_ix (ix_listK (K := K) rfl) (pv 2) pe_int (fun _ _ => rfl)) pe_str))))), ?_⟩
  refine ⟨(by show 12 ≤ sizeLine; decide), fun p np => ?_⟩
  have s1 := same_upd (o := .lst (kinds.map V.str)) np
  refine ⟨_, rfl, .ref a, rfl, a, m, rfl, hm, hE.same s1, fun H2 p2 s2 np2 hp2 => ?_⟩
  have hp : H2 p = some (.lst (kinds.map V.str)) := s2 _ _ upd_same
  refine ⟨[p, p2], rfl, by simp, (by show 2 ≤ 6; decide), fun z hz => ?_, fun D nD => ?_⟩
  · rcases List.mem_cons.mp hz with rfl | hz
    · exact ⟨_, SqL.of hp⟩
    · obtain rfl : z = p2 := by simpa using hz
      exact ⟨_, SqL.of hp2⟩
  refine lc_zipQ (n := 12) (xss := [kinds.map V.str, flags m]) (fun xs hx => ?_) (by simp) (fun i H' => Same H2 H' ∧ H' D = some (.lst (foundBy m i))) ⟨same_upd nD, upd_same⟩ (fun i H' hi pv => ?_) (fun i Tq ys H' hi hy pv nT => ?_) (fun H' pv => ?_)
  · rcases List.mem_cons.mp hx with rfl | hx
    · rfl
    · obtain rfl : xs = flags m := by simpa using hx
      rfl
  · exact .cons (SqL.of (pv.1 _ _ hp)) (.cons (SqL.of (pv.1 _ _ hp2)) .nil)
  · cases hy with
    | cons y1 hy =>
      cases hy with
      | cons y2 hy =>
        cases hy
        rw [names_at hi] at y1
        rw [flags_at hi] at y2
        obtain rfl := Option.some.inj y1
        obtain rfl := Option.some.inj y2
        have s3 := same_upd (H := H') (p := Tq) (o := .tup [V.str (kind i), V.bl (decide (i = m))]) nT
        refine ⟨Tq, _, rfl, ((hot.same s1).same s2).same (pv.1.trans s3), SqT.of upd_same, rfl, _, _, rfl, _, _, rfl, rfl, rfl, _, rfl, _, rfl, ite2 (fun e => ?_) (fun e => ?_)⟩
        · have ei : i = m := of_decide_eq_true e
          refine ⟨_, rfl, _, s3 _ _ pv.2, ?_, ?_, ?_⟩
          · unfold foundBy
            rw [if_neg (by omega)]
            decide
          · exact fun b o z => by rw [upd_ne (ne_of_none z nD)]; exact s3 _ _ (pv.1 b o z)
          · rw [upd_same]
            unfold foundBy
            rw [if_neg (by omega), if_pos (by omega), ei]
            rfl
        · have ei : ¬ i = m := fun z => e (decide_eq_true z)
          refine ⟨pv.1.trans s3, ?_⟩
          rw [s3 _ _ pv.2]
          unfold foundBy
          by_cases z : m < i
          · rw [if_pos z, if_pos (by omega)]
          · rw [if_neg z, if_neg (by omega)]
  · refine ⟨((hot.same s1).same s2).same pv.1, ?_⟩
    have hD := pv.2
    unfold foundBy at hD
    rw [if_pos (by omega)] at hD
    refine ⟨.ref D, rfl, D, _, rfl, .inl (SqL.of hD), rfl, _, rfl, ite2 (fun _ => ?_) (fun e => absurd (decide_eq_true rfl) e)⟩
    exact ⟨.ref D, rfl, D, _, 0, _, rfl, rfl, SqL.of hD, atI_nat (j := 0) rfl, q H' ((s1.trans s2).trans pv.1)⟩
end
end Kp15
set_option Elab.async false
set_option linter.all false
set_option maxRecDepth 100000
set_option maxHeartbeats 1000000
namespace Kp15
open PySem PySem.Spec PyProof.Rows L2 Vf
/-! ### a text read by the law -/
open _root_.TL
def sp_lread : Sp := fun vs H Q _ => ∃ (s : Str), vs = [.str s] ∧ fitS s ∧ (readOk (tl s) = false → ∀ H', Same H H' → Q .non H') ∧
  (readOk (tl s) = true → ∀ (H' : Hp) (D : Addr) (ls : List Addr), Same H H' → H D = none → H' D = some (.lst (ls.map V.ref)) → RowsF H H' ls (rowsV (readT (tl s))) → (∀ l ∈ ls, l ≠ D) → Q (.ref D) H')
theorem rowsF_get {H H' : Hp} {gs : List Addr} {W : List (List Str)} (r : RowsF H H' gs (W.map (·.map V.str))) {i : Nat} {g : Addr} (hg : gs[i]? = some g) : ∃ ws : List Str, W[i]? = some ws ∧ H' g = some (.lst (ws.map V.str)) := by
  obtain ⟨m, hm, _, h2⟩ := r.get hg
  rw [List.getElem?_map] at hm
  cases e : W[i]? with
  | none => rw [e] at hm; cases hm
  | some ws => rw [e] at hm; obtain rfl := Option.some.inj hm; exact ⟨ws, rfl, h2⟩
section
variable {P : Program} {w : World} {K : PySem.W.Frag} {mg : Str → Option Value} {base : Heap} {C : Nat → Addr} {tG tL : Tok}
theorem sc_l_read : FnScope ["_law_text", "_law_rows", "_law_part", "_law_row", "_law_word"] ["_law_text"] (defScope s_l_read) :=
  ⟨rfl, rfl, rfl, by decide +kernel, rfl, by decide +kernel, by decide +kernel⟩
theorem ok_lread {f : Addr} {fd : FuncData} (F : Fun K "_law_read" "_law_read" s_l_read f fd) (T : Txt K mg C tG tL) (c_l_is_number : Cal P w K mg base CX0 1 "_law_is_number" ["_law_word"] sp_isn) : FnOk P w K mg base CX0 2 f fd ["_law_text"] sp_lread := by
  refine F.ok sc_l_read (fun vs H Q E ⟨s, e, _⟩ => by rw [e]; rfl) (fun cdv A outer s0 H vs Q E hr h => ?_)
  obtain ⟨s, rfl, fs, qN, qQ⟩ := h
  have sz := sizeLine_eq
  have ls := len_tl s
  have fs' : s.length ≤ 2000 := fs
  obtain ⟨wl, wm⟩ := rws_len (tl s)
  have el : (Txt.split s "; ").length = (rws (tl s)).length := by rw [← split_rows, List.length_map]
  refine ⟨_, (pss_cons (ps_set (i := 1) sc_l_read.nd rfl (by first | exact Or.inl rfl | exact Or.inr rfl) (pe_lc (own := [("_law_part", 2)]) (by rfl) sc_l_read.nd (pi_list (pe_split (pv 0) pe_str)) (blkOk_by (own := [("_law_part", 2)]) (N := ["_law_text", "_law_rows", "_law_part", "_law_row", "_law_word"]) (sc := defScope s_l_read) (by decide +kernel)) (fun _ _ _ _ _ => (pg_name (i := 2) sc_l_read.nd rfl (by first | exact Or.inl rfl | exact Or.inr rfl))) (fun _ _ _ _ _ => pts_nil) (fun _ _ _ _ _ => (pe_split (pv 2) pe_str))))
  (pss_cons (ps_if (PW.pt (pw_or (pt_cmpR op_gt (pe_callB (len_ofK (K := K) rfl) (by rfl) T.n_len (by decide +kernel) (pa_cons (pv 1) pa_nil)) pe_int (nomark _)) (pw_or (pt_cmpR op_gt (pe_callB (len_ofK (K := K) rfl) (by rfl) T.n_len (by decide +kernel) (pa_cons (pe_ix (ix_listK (K := K) rfl) (pv 1) pe_int (fun _ _ => rfl)) pa_nil)) pe_int (nomark _)) (pw_or1 (pt_not (pt_val (pe_callB (allK (K := K) rfl rfl) (by rfl) T.n_all (by decide +kernel) (pa_cons (pe_lc (own := [("_law_row", 3)]) (by rfl) sc_l_read.nd (pi_list (pv 1)) (blkOk_by (own := [("_law_row", 3)]) (N := ["_law_text", "_law_rows", "_law_part", "_law_row", "_law_word"]) (sc := defScope s_l_read) (by decide +kernel)) (fun _ _ _ _ _ => (pg_name (i := 3) sc_l_read.nd rfl (by first | exact Or.inl rfl | exact Or.inr rfl))) (fun _ _ _ _ _ => pts_nil) (fun _ _ _ _ _ => (pe_cmpR op_eq (pe_callB (len_ofK (K := K) rfl) (by rfl) T.n_len (by decide +kernel) (pa_cons (pv 3) pa_nil)) (pe_callB (len_ofK (K := K) rfl) (by rfl) T.n_len (by decide +kernel) (pa_cons (pe_ix (ix_listK (K := K) rfl) (pv 1) pe_int (fun _ _ => rfl)) pa_nil)) (nomark _)))) pa_nil))))))))
  (pss_one (ps_ret pe_non))
  pss_nil)
  (pss_cons (ps_if (pt_not (pt_val (pe_callB (allK (K := K) rfl rfl) (by rfl) T.n_all (by decide +kernel) (pa_cons (pe_lc (own := [("_law_row", 3)]) (by rfl) sc_l_read.nd (pi_list (pv 1)) (blkOk_by (own := [("_law_row", 3)]) (N := ["_law_text", "_law_rows", "_law_part", "_law_row", "_law_word"]) (sc := defScope s_l_read) (by decide +kernel)) (fun _ _ _ _ _ => (pg_name (i := 3) sc_l_read.nd rfl (by first | exact Or.inl rfl | exact Or.inr rfl))) (fun _ _ _ _ _ => pts_nil) (fun _ _ _ _ _ => (pe_callB (allK (K := K) rfl rfl) (by rfl) T.n_all (by decide +kernel) (pa_cons (pe_lc (own := [("_law_word", 4)]) (by rfl) sc_l_read.nd (pi_listK (K := K) rfl (pv 3)) (by refine blkOk_by ?_; kernel_rfl) (fun _ _ _ _ _ => (pg_name (i := 4) sc_l_read.nd rfl (by first | exact Or.inl rfl | exact Or.inr rfl))) (fun _ _ _ _ _ => pts_nil) (fun _ _ _ _ _ => (pe_cal c_l_is_number (hr.mono (by decide)) (by rfl) pass0 (pa_cons (pv 4) pa_nil)))) pa_nil)))) pa_nil))))
  (pss_one (ps_ret pe_non))
  pss_nil)
  (pss_one (ps_ret (pe_lc (own := [("_law_row", 3)]) (by rfl) sc_l_read.nd (pi_list (pv 1)) (blkOk_by (own := [("_law_row", 3)]) (N := ["_law_text", "_law_rows", "_law_part", "_law_row", "_law_word"]) (sc := defScope s_l_read) (by decide +kernel)) (fun _ _ _ _ _ => (pg_name (i := 3) sc_l_read.nd rfl (by first | exact Or.inl rfl | exact Or.inr rfl))) (fun _ _ _ _ _ => pts_nil) (fun _ _ _ _ _ => (pe_lc (own := [("_law_word", 4)]) (by rfl) sc_l_read.nd (pi_listK (K := K) rfl (pv 3)) (by refine blkOk_by ?_; kernel_rfl) (fun _ _ _ _ _ => (pg_name (i := 4) sc_l_read.nd rfl (by first | exact Or.inl rfl | exact Or.inr rfl))) (fun _ _ _ _ _ => pts_nil) (fun _ _ _ _ _ => (pe_callTy call_int_str (by rfl) T.n_int (by decide +kernel) (pa_cons (pv 4) pa_nil))))))))))), ?_⟩
  refine ⟨.str s, rfl, ⟨_, rfl⟩, s, "; ", rfl, rfl, by decide +kernel, by omega, fun p np => ?_⟩
  have k1 := same_upd (o := .lst ((Txt.split s "; ").map V.str)) np
  have hp : upd H p (.lst ((Txt.split s "; ").map V.str)) p = some (.lst ((Txt.split s "; ").map V.str)) := upd_same
  generalize upd H p (.lst ((Txt.split s "; ").map V.str)) = H1 at k1 hp ⊢
  refine ⟨p, rfl, ⟨_, SqL.of hp⟩, fun X nX => ?_⟩
  refine lc_list (K := K) (xs := (Txt.split s "; ").map V.str) (fun i H' => Same H1 H' ∧ ∃ gs : List Addr, H' X = some (.lst (gs.map V.ref)) ∧ RowsF H1 H' gs ((((Txt.split s "; ").take i).map fun q => Txt.split q " ").map (·.map V.str)) ∧ (∀ k ∈ gs, k ≠ X)) ⟨same_upd nX, [], upd_same, .nil, fun _ z => nomatch z⟩ (fun i H' _ p' => p'.1.seq (SqL.of hp)) (fun i x H' hx p' => ?_) (fun H2 p' => ?_)
  · obtain ⟨sm, gs, hgs, hrows, hneg⟩ := p'
    obtain ⟨q, hq0, eq⟩ := some_get hx
    obtain ⟨q', rfl, hq, hm⟩ := part_at (split_rows s) hx
    obtain rfl : q' = q := V.str.inj eq
    have lq : q'.length ≤ 2000 := by rw [len_tl]; have := wm _ hm; omega
    refine ⟨rfl, .str q', rfl, ⟨_, rfl⟩, q', " ", rfl, rfl, by decide +kernel, by omega, fun D2 nD2 => ?_⟩
    have k2 := same_upd (o := .lst ((Txt.split q' " ").map V.str)) nD2
    have nqX : D2 ≠ X := fun z => by rw [z, hgs] at nD2; cases nD2
    refine ⟨_, k2 _ _ hgs, ?_, fun b o eb => by rw [upd_ne (ne_of_none eb nX)]; exact k2 _ _ (sm b o eb), gs ++ [D2], by rw [upd_same, List.map_append]; rfl, ?_, fun y hy => ?_⟩
    · rw [List.length_map, hrows.length, List.length_map, List.length_map, List.length_take]
      exact Nat.lt_of_le_of_lt (Nat.min_le_right _ _) (by omega)
    · rw [List.take_add_one, hq0, List.map_append, List.map_append]
      refine (hrows.keep fun c o e1 e2 hc => ?_).append (.cons (sm.free nD2) ?_ .nil)
      · rw [upd_ne (hneg c hc)]
        exact k2 _ _ e2
      · rw [upd_ne nqX]; exact upd_same
    · rcases List.mem_append.mp hy with z | z
      · exact hneg y z
      · obtain rfl : y = D2 := by simpa using z
        exact nqX
  obtain ⟨sm, gs, hgs, hrows, hneg⟩ := p'
  rw [List.length_map, List.take_length] at hrows
  have hW : ((Txt.split s "; ").map fun q => Txt.split q " ").map (·.map tl) = tabW (tl s) := by
    unfold tabW
    rw [← split_rows, List.map_map, List.map_map]
    exact List.map_congr_left fun q _ => split_words q
  have fw : ∀ ws ∈ ((Txt.split s "; ").map fun q => Txt.split q " "), ∀ u ∈ ws, fitS u := fun ws hws u hu => by
    obtain ⟨q, hq, rfl⟩ := List.mem_map.mp hws
    have h1 : tl q ∈ rws (tl s) := by rw [← split_rows]; exact List.mem_map_of_mem hq
    have h2 : tl u ∈ wds (tl q) := by rw [← split_words]; exact List.mem_map_of_mem hu
    have a := wm _ h1
    have b := (wds_len (tl q)).2 _ h2
    show u.length ≤ 2000
    rw [len_tl]
    omega
  have wz : ∀ ws ∈ ((Txt.split s "; ").map fun q => Txt.split q " "), ws.length ≤ 2001 := fun ws hws => by
    obtain ⟨q, hq, rfl⟩ := List.mem_map.mp hws
    have h1 : tl q ∈ rws (tl s) := by rw [← split_rows]; exact List.mem_map_of_mem hq
    have a := wm _ h1
    have b := (wds_len (tl q)).1
    have c : (Txt.split q " ").length = (wds (tl q)).length := by rw [← split_words, List.length_map]
    omega
  have Wn : ((Txt.split s "; ").map fun q => Txt.split q " ").length ≤ 2001 := by rw [List.length_map, el]; omega
  generalize ((Txt.split s "; ").map fun q => Txt.split q " ") = W at hrows hW fw wz Wn
  have gl : gs.length = W.length := by rw [hrows.length, List.length_map]
  have s2 := k1.trans sm
  have hrows : RowsF H H2 gs (W.map (·.map V.str)) := by
    have up : ∀ {ks ms}, RowsF H1 H2 ks ms → RowsF H H2 ks ms := fun {ks ms} r => by
      induction r with
      | nil => exact .nil
      | cons h1 h2 _ ih => exact .cons (k1.free h1) h2 ih
    exact up hrows
  clear k1 sm hp
  have tW : (tabW (tl s)).length = W.length := by rw [← hW, List.length_map]
  obtain ⟨w0, Wt, eW⟩ : ∃ w0 Wt, W = w0 :: Wt := by
    cases e : W with
    | nil =>
      obtain ⟨a, b, c, e2, _⟩ := tabW_ne (tl s)
      rw [← hW, e] at e2; cases e2
    | cons a b => exact ⟨a, b, rfl⟩
  have t0 : ((tabW (tl s)).headD []).length = w0.length := by rw [← hW, eW]; show (w0.map tl).length = _; rw [List.length_map]
  obtain ⟨g0, hg0⟩ : ∃ g0, gs[0]? = some g0 := ⟨gs[0]'(by rw [gl, eW]; show 0 < _ + 1; omega), List.getElem?_eq_getElem _⟩
  obtain ⟨w0', hw0', hg0h⟩ := rowsF_get hrows hg0
  obtain rfl : w0 = w0' := by rw [eW] at hw0'; exact Option.some.inj hw0'
  have e0 : (gs.map V.ref)[0]? = some (.ref g0) := by rw [List.getElem?_map, hg0]; rfl
  have no : ∀ H', Same H2 H' → readOk (tl s) = false → Q .non H' := fun H' g e => qN e H' (s2.trans g)
  -- how many
  refine ⟨.ref X, rfl, X, _, rfl, .inl (SqL.of hgs), _, _, rfl, rfl, _, rfl, ?_⟩
  by_cases n6 : W.length ≤ 6
  rotate_left
  · rw [decide_eq_true (p := (6 : Int) < (((gs.map V.ref).length : Nat) : Int)) (by rw [List.length_map, gl]; omega)]
    refine no _ (Same.refl _) ?_
    unfold readOk
    rw [tW, decide_eq_false n6, Bool.false_and, Bool.false_and, Bool.false_and]
  rw [decide_eq_false (p := (6 : Int) < (((gs.map V.ref).length : Nat) : Int)) (by rw [List.length_map, gl]; omega)]
  refine ⟨.ref X, rfl, X, _, 0, .ref g0, rfl, rfl, SqL.of hgs, atI_nat (j := 0) e0, g0, _, rfl, .inl (SqL.of hg0h), _, _, rfl, rfl, _, rfl, ?_⟩
  by_cases w6 : w0.length ≤ 6
  rotate_left
  · rw [decide_eq_true (p := (6 : Int) < (((w0.map V.str).length : Nat) : Int)) (by rw [List.length_map]; omega)]
    refine no _ (Same.refl _) ?_
    unfold readOk
    rw [t0, decide_eq_false w6, Bool.and_false, Bool.false_and, Bool.false_and]
  rw [decide_eq_false (p := (6 : Int) < (((w0.map V.str).length : Nat) : Int)) (by rw [List.length_map]; omega)]
  -- alike in length
  refine ⟨.ref X, rfl, X, rfl, ⟨_, SqL.of hgs⟩, fun Y nY => ?_⟩
  refine lc_list (K := K) (xs := gs.map V.ref) (fun i H' => Same H2 H' ∧ H' Y = some (.lst (((W.take i).map fun ws => decide (ws.length = w0.length)).map V.bl))) ⟨same_upd nY, upd_same⟩ (fun i H' _ p' => p'.1.seq (SqL.of hgs)) (fun i x H' hx p' => ?_) (fun H3 p' => ?_)
  · obtain ⟨sm, hY⟩ := p'
    obtain ⟨g, hg, rfl⟩ := some_get hx
    obtain ⟨ws, hws, hgw⟩ := rowsF_get hrows hg
    refine ⟨rfl, .ref g, rfl, g, _, rfl, .inl (SqL.of (sm _ _ hgw)), .ref X, rfl, X, _, 0, .ref g0, rfl, rfl, SqL.of (sm _ _ hgs), atI_nat (j := 0) e0, g0, _, rfl, .inl (SqL.of (sm _ _ hg0h)), rfl, _, hY, ?_, fun b o eb => by rw [upd_ne (ne_of_none eb nY)]; exact sm b o eb, ?_⟩
    · rw [List.length_map, List.length_map, List.length_take]
      exact Nat.lt_of_le_of_lt (Nat.min_le_right _ _) (by omega)
    · have ed : decide (V.int ((((ws.map V.str).length : Nat)) : Int) = V.int ((((w0.map V.str).length : Nat)) : Int)) = decide (ws.length = w0.length) := by
        rw [List.length_map, List.length_map]
        exact decide_eq_decide.mpr ⟨fun z => by have := V.int.inj z; omega, fun z => by rw [z]⟩
      rw [upd_same, ed, List.take_add_one, hws, List.map_append, List.map_append]; rfl
  obtain ⟨s3, hY⟩ := p'
  rw [List.length_map, gl, List.take_length] at hY
  refine ⟨Y, W.map fun ws => decide (ws.length = w0.length), rfl, .inl (.inl hY), _, rfl, ?_⟩
  have eqs : ((tabW (tl s)).all fun r => decide (r.length = ((tabW (tl s)).headD []).length)) = W.all fun ws => decide (ws.length = w0.length) := by
    rw [t0, ← hW, List.all_map]
    congr 1
    funext ws
    show decide ((ws.map tl).length = _) = _
    rw [List.length_map]
  rw [List.all_map]
  cases ea : W.all (id ∘ fun ws => decide (ws.length = w0.length)) with
  | false =>
    have ea : (W.all fun ws => decide (ws.length = w0.length)) = false := ea
    refine no _ s3 ?_
    unfold readOk
    rw [eqs, ea, Bool.and_false, Bool.false_and]
  | true =>
    have ea : (W.all fun ws => decide (ws.length = w0.length)) = true := ea
    have lens : ∀ ws ∈ W, ws.length = w0.length := fun ws hws => of_decide_eq_true (List.all_eq_true.mp ea ws hws)
    -- all numbers
    have hgs3 := s3 _ _ hgs
    have fin : ∀ (B : Bool) (H4 : Hp), Same H2 H4 → B = W.all (fun ws => ws.all fun u => goodW (tl u)) → readOk (tl s) = B := fun B H4 g e => by
      rw [e]
      unfold readOk
      rw [eqs, ea, tW, t0, decide_eq_true n6, decide_eq_true w6, ← hW, List.all_map]
      show (true && _) = _
      rw [Bool.true_and]
      congr 1
      funext ws
      show (ws.map tl).all goodW = _
      rw [List.all_map]; rfl
    refine ⟨.ref X, rfl, X, rfl, ⟨_, SqL.of hgs3⟩, fun Z nZ => ?_⟩
    refine lc_list (K := K) (xs := gs.map V.ref) (fun i H' => Same H3 H' ∧ H' Z = some (.lst (((W.take i).map fun ws => ws.all fun u => goodW (tl u)).map V.bl))) ⟨same_upd nZ, upd_same⟩ (fun i H' _ p' => p'.1.seq (SqL.of hgs3)) (fun i x H' hx p' => ?_) (fun H4 p' => ?_)
    · obtain ⟨sm, hZ⟩ := p'
      obtain ⟨g, hg, rfl⟩ := some_get hx
      obtain ⟨ws, hws, hgw⟩ := rowsF_get hrows hg
      have wsm := List.mem_of_getElem? hws
      have wsl := lens ws wsm
      have hgw' := sm _ _ (s3 _ _ hgw)
      refine ⟨rfl, .ref g, rfl, g, rfl, ⟨_, SqL.of hgw'⟩, fun Y2 nY2 => ?_⟩
      refine lc_list (K := K) (xs := ws.map V.str) (fun j H5 => Same H' H5 ∧ H5 Y2 = some (.lst (((ws.take j).map fun u => goodW (tl u)).map V.bl))) ⟨same_upd nY2, upd_same⟩ (fun j H5 _ p2 => p2.1.seq (SqL.of hgw')) (fun j x H5 hx p2 => ?_) (fun H5 p2 => ?_)
      · obtain ⟨sm5, hY2⟩ := p2
        obtain ⟨u, hu, rfl⟩ := some_get hx
        refine ⟨rfl, .str u, rfl, u, rfl, fw ws wsm u (List.mem_of_getElem? hu), fun H6 s6 => ⟨_, s6 _ _ hY2, ?_, fun b o eb => by rw [upd_ne (ne_of_none eb nY2)]; exact s6 _ _ (sm5 b o eb), ?_⟩⟩
        · rw [List.length_map, List.length_map, List.length_take]
          exact Nat.lt_of_le_of_lt (Nat.min_le_right _ _) (by omega)
        · rw [upd_same, List.take_add_one, hu, List.map_append, List.map_append]; rfl
      · obtain ⟨sm5, hY2⟩ := p2
        rw [List.length_map, List.take_length] at hY2
        refine ⟨Y2, ws.map fun u => goodW (tl u), rfl, .inl (.inl hY2), _, sm5 _ _ hZ, ?_, fun b o eb => by rw [upd_ne (ne_of_none eb nZ)]; exact sm5 _ _ (sm b o eb), ?_⟩
        · rw [List.length_map, List.length_map, List.length_take]
          exact Nat.lt_of_le_of_lt (Nat.min_le_right _ _) (by omega)
        · rw [upd_same, List.all_map, List.take_add_one, hws, List.map_append, List.map_append]; rfl
    obtain ⟨s4, hZ⟩ := p'
    rw [List.length_map, gl, List.take_length] at hZ
    refine ⟨Z, W.map fun ws => ws.all fun u => goodW (tl u), rfl, .inl (.inl hZ), _, rfl, ?_⟩
    rw [List.all_map]
    have s24 := s3.trans s4
    cases eg : W.all (id ∘ fun ws => ws.all fun u => goodW (tl u)) with
    | false =>
      have eg : (W.all fun ws => ws.all fun u => goodW (tl u)) = false := eg
      exact no _ s24 (fin false _ s24 eg.symm)
    | true =>
      have eg : (W.all fun ws => ws.all fun u => goodW (tl u)) = true := eg
      have ok := fin true _ s24 eg.symm
      have hgs4 := s24 _ _ hgs
      have good : ∀ ws ∈ W, ∀ u ∈ ws, goodW (tl u) = true := fun ws hws u hu => List.all_eq_true.mp (List.all_eq_true.mp eg ws hws) u hu
      refine ⟨.ref X, rfl, X, rfl, ⟨_, SqL.of hgs4⟩, fun D nD => ?_⟩
      refine lc_list (K := K) (xs := gs.map V.ref) (fun i H' => Same H4 H' ∧ ∃ ks : List Addr, H' D = some (.lst (ks.map V.ref)) ∧ RowsF H4 H' ks (rowsV ((W.take i).map fun ws => ws.map fun u => (wval (tl u) : Int))) ∧ (∀ k ∈ ks, k ≠ D)) ⟨same_upd nD, [], upd_same, .nil, fun _ z => nomatch z⟩ (fun i H' _ p' => p'.1.seq (SqL.of hgs4)) (fun i x H' hx p' => ?_) (fun H5 p' => ?_)
      · obtain ⟨sm, ks, hks, krows, kneg⟩ := p'
        obtain ⟨g, hg, rfl⟩ := some_get hx
        obtain ⟨ws, hws, hgw⟩ := rowsF_get hrows hg
        have wsm := List.mem_of_getElem? hws
        have wsl := lens ws wsm
        have hgw' := sm _ _ (s24 _ _ hgw)
        refine ⟨rfl, .ref g, rfl, g, rfl, ⟨_, SqL.of hgw'⟩, fun D2 nD2 => ?_⟩
        have nqD : D2 ≠ D := fun z => by rw [z, hks] at nD2; cases nD2
        refine lc_list (K := K) (xs := ws.map V.str) (fun j H6 => Same H' H6 ∧ H6 D2 = some (.lst (((ws.take j).map fun u => (wval (tl u) : Int)).map V.int))) ⟨same_upd nD2, upd_same⟩ (fun j H6 _ p2 => p2.1.seq (SqL.of hgw')) (fun j x H6 hx p2 => ?_) (fun H6 p2 => ?_)
        · obtain ⟨sm6, hD2⟩ := p2
          obtain ⟨u, hu, rfl⟩ := some_get hx
          have gu := good ws wsm u (List.mem_of_getElem? hu)
          unfold goodW at gu
          rw [Bool.and_eq_true] at gu
          obtain ⟨l1, l13, fg⟩ := numOk_len gu.1
          refine ⟨rfl, .str u, rfl, u, _, rfl, PySem.intText_digits (x := u) (figs_digits fg) (fun z => by rw [show tl u = [] from z] at l1; exact absurd l1 (by decide)) (by rw [len_tl]; omega), by rw [len_tl]; omega, _, hD2, ?_, fun b o eb => by rw [upd_ne (ne_of_none eb nD2)]; exact sm6 b o eb, ?_⟩
          · rw [List.length_map, List.length_map, List.length_take]
            exact Nat.lt_of_le_of_lt (Nat.min_le_right _ _) (by omega)
          · rw [upd_same, List.take_add_one, hu, List.map_append, List.map_append]; rfl
        · obtain ⟨sm6, hD2⟩ := p2
          rw [List.length_map, List.take_length] at hD2
          refine ⟨_, sm6 _ _ hks, ?_, fun b o eb => by rw [upd_ne (ne_of_none eb nD)]; exact sm6 _ _ (sm b o eb), ks ++ [D2], by rw [upd_same, List.map_append]; rfl, ?_, fun y hy => ?_⟩
          · rw [List.length_map, krows.length]
            unfold rowsV
            rw [List.length_map, List.length_map, List.length_take]
            exact Nat.lt_of_le_of_lt (Nat.min_le_right _ _) (by omega)
          · rw [List.take_add_one, hws]
            unfold rowsV
            rw [List.map_append, List.map_append]
            refine (krows.keep fun c o e1 e2 hc => ?_).append (.cons (sm.free nD2) ?_ .nil)
            · rw [upd_ne (kneg c hc)]
              exact sm6 _ _ e2
            · rw [upd_ne nqD]; exact hD2
          · rcases List.mem_append.mp hy with z | z
            · exact kneg y z
            · obtain rfl : y = D2 := by simpa using z
              exact nqD
      obtain ⟨sm, ks, hks, krows, kneg⟩ := p'
      rw [List.length_map, gl, List.take_length] at krows
      have eT : (W.map fun ws => ws.map fun u => (wval (tl u) : Int)) = readT (tl s) := by
        unfold readT
        rw [← hW, List.map_map]
        refine List.map_congr_left fun ws _ => ?_
        show _ = (ws.map tl).map _
        rw [List.map_map]; rfl
      rw [eT] at krows
      have g4 := s2.trans s24
      have up : ∀ {ks ms}, RowsF H4 H5 ks ms → RowsF H H5 ks ms := fun {ks ms} r => by
        induction r with
        | nil => exact .nil
        | cons h1 h2 _ ih => exact .cons (g4.free h1) h2 ih
      exact qQ ok H5 D ks (g4.trans sm) (g4.free nD) hks (up krows) kneg
def sp_refused (K : PySem.W.Frag) : Sp := fun vs H Q _ => ∃ (x : V) (d : Dt), vs = [x] ∧ Rp K H x d ∧ (∀ z, d = .str z → fitS z) ∧ ∀ H', Same H H' → Q (.bl (!txtOk d)) H'
theorem sc_l_refused : FnScope ["_law_thing", "_law_word", "_law_e"] ["_law_thing"] (defScope s_l_refused) :=
  ⟨rfl, rfl, rfl, by decide +kernel, rfl, by decide +kernel, by decide +kernel⟩
theorem ok_refused {f : Addr} {fd : FuncData} (F : Fun K "_law_refused" "_law_refused" s_l_refused f fd) (T : Txt K mg C tG tL) (c_l_name : CalT P w K mg base 2 "_law_name" ["_law_e"] (sp_lname C)) (c_read_table : Cal P w K mg base (L2N.CX P w) 5 "read_table" ["text"] (sp_read_table K (C 5))) : FnOk P w K mg base CX0 6 f fd ["_law_thing"] (sp_refused K) := by
  refine F.ok sc_l_refused (fun vs H Q E ⟨x, d, e, _⟩ => by rw [e]; rfl) (fun cdv A outer s0 H vs Q E hr h => ?_)
  obtain ⟨x, d, rfl, R, fS, q⟩ := h
  refine ⟨_, (pss_cons (ps_set (i := 1) sc_l_refused.nd rfl (by first | exact Or.inl rfl | exact Or.inr rfl) pe_str)
  (pss_cons (ps_tryN rfl rfl rfl sc_l_refused.nd takes0N (fun W pn xe tk _ => (pss_one (ps_expr (pe_calS c_read_table (hr.mono (by decide)) (by rfl) (fun σ => L2N.passAt tk σ) (pa_cons (pv 0) pa_nil)))))
  (HdT.named (i := 2) ⟨rfl, by decide, .inl T.TableError.g⟩ rfl rfl (fun a cls pn => (pss_one (ps_set (i := 1) sc_l_refused.nd rfl (by first | exact Or.inl rfl | exact Or.inr rfl) (pe_calT (a := a) c_l_name (roomH_mark (hr.mono (by decide))) rfl (by rfl) (pa_cons (pv 2) pa_nil)))))
  HdT.nil))
  (pss_one (ps_ret (pe_cmpR op_eq (pv 1) pe_str (nomark _)))))), ?_⟩
  refine ⟨x, rfl, x, d, rfl, R, fS, fun nf H1 s1 => ⟨true, T.exmT 5 (by decide), fun _ => ⟨rfl, fun a na => ⟨.ref a, rfl, ExHot.ofN upd_same, a, 5, rfl, by decide, ExAt.ofN upd_same, fun H2 s3 => ?_⟩⟩, fun z => (nomatch z)⟩, fun s es yf H1 D ls s1 _ _ _ _ => ?_⟩
  · refine ⟨_, rfl, rfl, ?_⟩
    have q2 := q H2 ((s1.trans (same_upd (o := ExTN (.ref (C 5)) a) na)).trans s3)
    rw [nf] at q2
    exact q2
  · refine ⟨_, rfl, rfl, ?_⟩
    have q2 := q H1 s1
    have e : txtOk d = true := by rw [es]; exact yf
    rw [e] at q2
    exact q2
end
end Kp15
set_option Elab.async false
set_option linter.all false
set_option maxRecDepth 100000
set_option maxHeartbeats 1000000
namespace Kp15
open PySem PySem.Spec PyProof.Rows L2 Vf
/-! ### read right -/
open _root_.TL
theorem readOk_G {T : List Nat} (e : readOk T = true) : ∃ n w, TabG (readT T) n w := by
  have rne : ∀ r ∈ tabW T, r ≠ [] := fun r hr => by
    obtain ⟨a, _, rfl⟩ := List.mem_map.mp hr
    exact wds_ne a
  obtain ⟨w, ws, t, e0, _⟩ := tabW_ne T
  unfold readOk at e
  rw [Bool.and_eq_true, Bool.and_eq_true, Bool.and_eq_true, decide_eq_true_eq, decide_eq_true_eq] at e
  obtain ⟨⟨⟨n6, w6⟩, eqs⟩, goods⟩ := e
  have h0 : (tabW T).headD [] = w :: ws := by rw [e0]; rfl
  rw [h0] at w6 eqs
  refine ⟨(tabW T).length, (w :: ws).length, List.length_pos_iff.mpr (by rw [e0]; simp), n6, by simp, w6, List.length_map .., fun r hr => ?_⟩
  obtain ⟨us, hus, rfl⟩ := List.mem_map.mp hr
  refine ⟨by rw [List.length_map]; exact of_decide_eq_true (List.all_eq_true.mp eqs us hus), fun y hy => ?_⟩
  obtain ⟨u, hu, rfl⟩ := List.mem_map.mp hy
  have g := List.all_eq_true.mp (List.all_eq_true.mp goods us hus) u hu
  unfold goodW at g
  rw [Bool.and_eq_true, decide_eq_true_eq] at g
  omega
theorem sm_rowD {r : List Int} {k : Nat} (h : r.length ≤ 12) (f : ∀ y ∈ r, 0 ≤ y ∧ y ≤ 1000000000000) : sm (k + 1) (rowD r) = true := by
  refine sm_rowL (by rw [List.length_map]; exact h) fun x hx => ?_
  exact List.all_eq_true.mp (sm_all (k := k) (ns := r) f) x hx
theorem TabG.sm {tb : List (List Int)} {n w : Nat} (G : TabG tb n w) : sm 2 (gridD tb) = true := by
  have n6 := G.n6
  have w6 := G.w6
  have l := G.len
  refine sm_rowL (by rw [List.length_map]; omega) fun x hx => ?_
  obtain ⟨r, hr, rfl⟩ := List.mem_map.mp hx
  obtain ⟨a, b⟩ := G.row r hr
  exact sm_rowD (by omega) b
theorem ln2 : ln 2 ≤ sizeLine := by decide
theorem rowsN_rp {K : PySem.W.Frag} {H : Hp} : ∀ {ls : List Addr} {tb : List (List Int)}, RowsN H ls tb → RpL K H (ls.map V.ref) (tb.map rowD)
  | _, _, .nil => .nil
  | _, _, .cons h r => .cons (.lst (SqL.of h) (rp_ints2 _)) (rowsN_rp r)
def sp_right : Sp := fun vs H Q _ => ∃ (s : Str), vs = [.str s] ∧ fitS s ∧ ∀ H', Same H H' → Q (.bl true) H'
section
variable {P : Program} {w : World} {K : PySem.W.Frag} {mg : Str → Option Value} {base : Heap} {C : Nat → Addr} {tG tL : Tok}
theorem sc_l_read_right : FnScope ["_law_text", "_law_due"] ["_law_text"] (defScope s_l_read_right) :=
  ⟨rfl, rfl, rfl, by decide +kernel, rfl, by decide +kernel, by decide +kernel⟩
theorem ok_right {f : Addr} {fd : FuncData} (F : Fun K "_law_read_right" "_law_read_right" s_l_read_right f fd) (T : Txt K mg C tG tL) (SM : SysD base) (c_l_read : Cal P w K mg base CX0 2 "_law_read" ["_law_text"] sp_lread) (c_l_refused : Cal P w K mg base CX0 6 "_law_refused" ["_law_thing"] (sp_refused K))
    (c_read_table : Cal P w K mg base (L2N.CX P w) 5 "read_table" ["text"] (sp_read_table K (C 5))) : FnG P w K mg base 7 f fd ["_law_text"] sp_right := by
  refine funOkG F sc_l_read_right (fun vs H Q E ⟨s, e, _⟩ => by rw [e]; rfl) (fun cdv A outer s0 H vs Q E hr h => ?_)
  obtain ⟨s, rfl, fs, q⟩ := h
  refine ⟨_, (pss_cons (ps_set (i := 1) sc_l_read_right.nd rfl (by first | exact Or.inl rfl | exact Or.inr rfl) (pe_cal c_l_read (hr.r.mono (by decide)) (by rfl) pass0 (pa_cons (pv 0) pa_nil)))
  (pss_cons (ps_if (pt_cmpR op_isN (pv 1) pe_non (nomark _))
  (pss_one (ps_ret (pe_cal c_l_refused (hr.r.mono (by decide)) (by rfl) pass0 (pa_cons (pv 0) pa_nil))))
  pss_nil)
  (pss_one (ps_ret (pe_cmpR op_eq (pe_callB (reprAK (K := K) rfl SM hr.g hr.r.units) (by rfl) T.n_repr (by decide +kernel) (pa_cons (pe_cal c_read_table (hr.r.mono (by decide)) (by rfl) passN (pa_cons (pv 0) pa_nil)) pa_nil)) (pe_callB (reprAK (K := K) rfl SM hr.g hr.r.units) (by rfl) T.n_repr (by decide +kernel) (pa_cons (pv 1) pa_nil)) (nomark _)))))), ?_⟩
  refine ⟨.str s, rfl, s, rfl, fs, fun nf H1 s1 => ?_, fun ok H1 D ls s1 nD hD hrows hne => ?_⟩
  · refine ⟨.non, rfl, rfl, _, rfl, ?_⟩
    refine ⟨.str s, rfl, .str s, .str s, rfl, .str s, fun z hz => by injection hz with hz; rw [← hz]; exact fs, fun H2 s2 => ?_⟩
    have e : txtOk (.str s) = false := nf
    rw [e]
    exact q H2 (s1.trans s2)
  · obtain ⟨n, wd, G⟩ := readOk_G ok
    obtain ⟨z1, z2, z3⟩ := sm_show 2 _ G.sm
    refine ⟨.ref D, rfl, rfl, _, rfl, ?_⟩
    have R1 : Rp K H1 (.ref D) (gridD (readT (tl s))) := .lst (SqL.of hD) (rowsF_rp hrows)
    refine ⟨.str s, rfl, .str s, .str s, rfl, .str s, (fun z hz => by injection hz with hz; rw [← hz]; exact fs), (fun z => by have e : txtOk (.str s) = true := ok; rw [e] at z; cases z), fun s' es ok' H2 D2 ls2 s2 nD2 hD2 hrows2 hne2 => ?_⟩
    obtain rfl : s = s' := by injection es
    have R2 : Rp K H2 (.ref D2) (gridD (readT (tl s))) := .lst (SqL.of hD2) (rowsF_rp hrows2)
    refine ⟨D2, gridD (readT (tl s)), rfl, R2, z1, Nat.le_trans z2 (by decide), Nat.le_trans z3 ln2, ?_⟩
    refine ⟨.ref D, rfl, D, gridD (readT (tl s)), rfl, R1.same s2, z1, Nat.le_trans z2 (by decide), Nat.le_trans z3 ln2, rfl, ?_⟩
    rw [decide_eq_true rfl]
    exact q H2 (s1.trans s2)
end
end Kp15
set_option Elab.async false
set_option linter.all false
set_option maxRecDepth 100000
set_option maxHeartbeats 1000000
namespace Kp15
open PySem PySem.Spec PyProof.Rows L2 Vf
/-! ### texts that are none, drawn -/
open _root_.TL
def S1 (t : Addr) : Addr → Prop := fun b => b = t
def Nt (K : PySem.W.Frag) (t : Addr) (H : Hp) (x : V) : Prop := ∃ d : Dt, OffP K (S1 t) H x d ∧ txtOk d = false ∧ ∀ s, d = .str s → fitS s
theorem Nt.mv {K : PySem.W.Frag} {t : Addr} {H H1 : Hp} {x : V} (T : Nt K t H x) (s : Mv (S1 t) H H1) : Nt K t H1 x := let ⟨d, o, r⟩ := T; ⟨d, o.mv s, r⟩
theorem str_fit {a b : Str} (h1 : a.length ≤ 3000) (h2 : b.length ≤ 3000) : a.length + b.length ≤ sizeLine := by rw [sizeLine_eq]; omega
theorem app_fit {a b : Str} {m n : Nat} (h1 : a.length ≤ m) (h2 : b.length ≤ n) : (a ++ b).length ≤ m + n := by rw [len_tl, tl_append, List.length_append, ← len_tl, ← len_tl]; omega
theorem scan_start {c : Nat} (h : isFig c = false) : ∀ r : List Nat, scan false (c :: r) = false
  | [] => by unfold scan; rw [if_neg (by rw [h]; decide)]
  | d :: r => by
    unfold scan
    rw [if_neg (by rw [h]; decide)]
    split
    · rfl
    · split
      · split <;> rfl
      · rfl
/-- what the first sign spoils -/
theorem start_bad {x : Str} (h : (match tl x with | [] => false | c :: _ => !isFig c) = true) (r : List Nat) : readOk (tl x ++ r) = false := by
  cases e : tl x with
  | nil => rw [e] at h; cases h
  | cons c r2 =>
    rw [e] at h
    have h : (!isFig c) = true := h
    refine scan_no ?_
    show scan false (c :: (r2 ++ r)) = false
    refine scan_start ?_ _
    cases z : isFig c
    · rfl
    · rw [z] at h; cases h
theorem semi_bad {r : List Nat} (h : ∃ c r2, r = c :: r2 ∧ isFig c = true) : scan true (tl ";" ++ r) = false := by
  obtain ⟨c, r2, rfl, hc⟩ := h
  rw [show tl (";" : Str) = [59] from by decide +kernel]
  show scan true (59 :: c :: r2) = false
  unfold scan
  rw [if_neg (by decide), if_neg (by decide), if_pos rfl, if_neg (isFig_no hc).1]
/-- what the signs between spoil -/
def midOk : List Nat → Bool
  | c :: d :: _ => (decide (c = 32) && !isFig d) || (decide (c ≠ 32) && decide (c ≠ 59) && !isFig c)
  | [c] => decide (c ≠ 32) && decide (c ≠ 59) && !isFig c
  | [] => false
theorem scan_mid {c : Nat} (h1 : c ≠ 32) (h2 : c ≠ 59) (h : isFig c = false) (q : Bool) : ∀ r : List Nat, scan q (c :: r) = false
  | [] => by unfold scan; rw [if_neg (by rw [h]; decide)]
  | d :: r => by unfold scan; rw [if_neg (by rw [h]; decide), if_neg h1, if_neg h2]
theorem mid_bad {x : Str} (h : (midOk (tl x) || (match tl x with | 59 :: 32 :: c :: _ => !isFig c | _ => false)) = true) (r : List Nat) : scan true (tl x ++ r) = false := by
  generalize tl x = T at h
  have nf : ∀ {c : Nat}, (!isFig c) = true → isFig c = false := fun {c} h => by cases z : isFig c; rfl; rw [z] at h; cases h
  rw [Bool.or_eq_true] at h
  rcases h with h | h
  · match T, h with
    | [c], h =>
      have h : (decide (c ≠ 32) && decide (c ≠ 59) && !isFig c) = true := h
      simp only [Bool.and_eq_true, decide_eq_true_eq] at h
      exact scan_mid h.1.1 h.1.2 (nf h.2) true r
    | c :: d :: T, h =>
      have h : ((decide (c = 32) && !isFig d) || (decide (c ≠ 32) && decide (c ≠ 59) && !isFig c)) = true := h
      rw [Bool.or_eq_true] at h
      rcases h with h | h
      · simp only [Bool.and_eq_true, decide_eq_true_eq] at h
        obtain ⟨rfl, hd⟩ := h
        show scan true (32 :: d :: (T ++ r)) = false
        rw [scan_blank]
        exact scan_start (nf hd) _
      · simp only [Bool.and_eq_true, decide_eq_true_eq] at h
        exact scan_mid h.1.1 h.1.2 (nf h.2) true _
  · split at h
    · rename_i c T
      show scan true (59 :: 32 :: (c :: (T ++ r))) = false
      rw [scan_semi]
      exact scan_start (nf h) _
    · cases h
theorem longer_bad {tb : List (List Int)} {n w : Nat} (G : TabG tb n w) {l : List Int} (h : l.length = w) : readOk (tabN tb ++ tl "; " ++ rowN l ++ tl " 1") = false := by
  rw [tl_semi, show tl (" 1" : Str) = [32, 49] from by decide +kernel, List.append_assoc, List.append_assoc]
  exact G.longer h
theorem above_bad {tb : List (List Int)} {n w : Nat} (G : TabG tb n w) : readOk (tabN tb ++ tl " 1000000000001; 0") = false := by
  rw [show tl (" 1000000000001; 0" : Str) = 32 :: ([49, 48, 48, 48, 48, 48, 48, 48, 48, 48, 48, 48, 49] ++ 59 :: 32 :: [48]) from by decide +kernel]
  exact G.above (by decide) (by decide) (by decide +kernel) _
def sp_bad (K : PySem.W.Frag) : Sp := fun vs H Q _ => ∃ (t p : Addr) (ls : List Addr) (tb : List (List Int)) (n w : Nat), vs = [.ref t, .ref p] ∧ Tp H t ∧ TbL t H p ls tb ∧ TabG tb n w ∧ ∀ (H' : Hp) (x : V), Kp t H H' → Nt K t H' x → Q x H'
section
variable {P : Program} {w : World} {K : PySem.W.Frag} {mg : Str → Option Value} {base : Heap} {C : Nat → Addr} {tG tL : Tok}
theorem sc_l_bad : FnScope ["_law_tape_here", "_law_table_here", "_law_text", "_law_last", "_law_found"] ["_law_tape_here", "_law_table_here"] (defScope s_l_bad) :=
  ⟨rfl, rfl, rfl, by decide +kernel, rfl, by decide +kernel, by decide +kernel⟩
theorem ok_bad {f : Addr} {fd : FuncData} (F : Fun K "_law_bad" "_law_bad" s_l_bad f fd) (T : Txt K mg C tG tL) (c_l_digit : Cal P w K mg base CX0 1 "_law_digit" ["_law_tape_here", "_law_size"] sp_digit) (c_l_written : Cal P w K mg base CX0 1 "_law_written" ["_law_table_here"] (sp_written K)) : FnOk P w K mg base CX0 2 f fd ["_law_tape_here", "_law_table_here"] (sp_bad K) := by
  refine F.ok sc_l_bad (fun vs H Q E ⟨t, p, ls, tb, n, w, e, _⟩ => by rw [e]; rfl) (fun cdv A outer s0 H vs Q E hr h => ?_)
  obtain ⟨t, p, lsl, tb, n, wd, rfl, tp, TL0, G, q⟩ := h
  have ll := TL0.rows.length
  have n1 := G.n1
  have tlen := G.len
  refine ⟨_, (pss_cons (ps_set (i := 2) sc_l_bad.nd rfl (by first | exact Or.inl rfl | exact Or.inr rfl) (pe_cal c_l_written (hr.mono (by decide)) (by rfl) pass0 (pa_cons (pv 1) pa_nil)))
  (pss_cons (ps_set (i := 3) sc_l_bad.nd rfl (by first | exact Or.inl rfl | exact Or.inr rfl) (pe_cal c_l_written (hr.mono (by decide)) (by rfl) pass0 (pa_cons (pe_lst (pa_cons (pe_ix (ix_listK (K := K) rfl) (pv 1) (pe_un un_neg pe_int) (fun _ _ => rfl)) pa_nil)) pa_nil)))
  (pss_cons (ps_set (i := 4) sc_l_bad.nd rfl (by first | exact Or.inl rfl | exact Or.inr rfl) (pe_lst (pa_cons pe_str (pa_cons pe_str (pa_cons pe_str (pa_cons pe_str (pa_cons (pe_op op_add_str (pv 2) pe_str) (pa_cons (pe_op op_add_str pe_str (pv 2)) (pa_cons (pe_op op_add_str (pv 2) pe_str) (pa_cons (pe_op op_add_str (pv 2) pe_str) (pa_cons (pe_op op_add_str pe_str (pv 2)) (pa_cons (pe_op op_add_str (pe_op op_add_str (pv 2) pe_str) (pv 3)) pa_nil))))))))))))
  (pss_cons (ps_set (i := 4) sc_l_bad.nd rfl (by first | exact Or.inl rfl | exact Or.inr rfl) (pe_op op_cat (pv 4) (pe_lst (pa_cons (pe_op op_add_str (pe_op op_add_str (pv 2) pe_str) (pv 3)) (pa_cons (pe_op op_add_str (pe_op op_add_str (pv 2) pe_str) (pv 3)) (pa_cons (pe_op op_add_str (pe_op op_add_str (pv 2) pe_str) (pv 3)) (pa_cons (pe_op op_add_str (pv 2) pe_str) pa_nil)))))))
  (pss_cons (ps_set (i := 4) sc_l_bad.nd rfl (by first | exact Or.inl rfl | exact Or.inr rfl) (pe_op op_cat (pv 4) (pe_lst (pa_cons (pe_op op_add_str (pe_op op_add_str (pe_op op_add_str (pv 2) pe_str) (pv 3)) pe_str) (pa_cons (pe_op op_add_str pe_str (pv 2)) (pa_cons (pe_op op_add_str pe_str (pv 2)) (pa_cons (pe_op op_add_str pe_str (pv 2)) (pa_cons (pe_op op_add_str (pv 2) pe_str) pa_nil))))))))
  (pss_cons (ps_set (i := 4) sc_l_bad.nd rfl (by first | exact Or.inl rfl | exact Or.inr rfl) (pe_op op_cat (pv 4) (pe_lst (pa_cons pe_str (pa_cons pe_str (pa_cons pe_str (pa_cons pe_str (pa_cons pe_str (pa_cons pe_str (pa_cons pe_str (pa_cons (pe_op op_repS pe_str pe_int) (pa_cons pe_str (pa_cons pe_str pa_nil)))))))))))))
  (pss_cons (ps_set (i := 4) sc_l_bad.nd rfl (by first | exact Or.inl rfl | exact Or.inr rfl) (pe_op op_cat (pv 4) (pe_lst (pa_cons pe_str (pa_cons pe_str (pa_cons pe_str (pa_cons pe_str (pa_cons pe_str (pa_cons pe_str (pa_cons (pe_op op_add_str (pv 2) pe_str) (pa_cons (pe_op op_add_str (pe_op op_add_str (pv 2) pe_str) (pv 2)) pa_nil)))))))))))
  (pss_cons (ps_set (i := 4) sc_l_bad.nd rfl (by first | exact Or.inl rfl | exact Or.inr rfl) (pe_op op_cat (pv 4) (pe_lst (pa_cons (pe_op op_add_str (pe_op op_add_str pe_str (pv 2)) pe_str) (pa_cons pe_str (pa_cons pe_str (pa_cons pe_str (pa_cons pe_str (pa_cons (pe_op op_add_str (pv 2) pe_str) (pa_cons pe_str pa_nil))))))))))
  (pss_cons (ps_set (i := 4) sc_l_bad.nd rfl (by first | exact Or.inl rfl | exact Or.inr rfl) (pe_op op_cat (pv 4) (pe_lst (pa_cons pe_non (pa_cons pe_int (pa_cons (pe_lst (pa_cons (pv 2) pa_nil)) (pa_cons (pe_tup (pa_cons (pv 2) pa_nil)) (pa_cons pe_dnewK (pa_cons pe_bl (pa_cons (pe_lst (pa_cons (pe_lst (pa_cons pe_int pa_nil)) pa_nil)) (pa_cons (pe_lst pa_nil) (pa_cons (pe_disp (pps_cons (pv 2) pe_int pps_nil) (by rfl) rfl (by simp) (by decide)) (pa_cons pe_int pa_nil)))))))))))))
  (pss_one (ps_ret (pe_ix (ix_listK (K := K) rfl) (pv 4) (pe_cal c_l_digit (hr.mono (by decide)) (by rfl) pass0 (pa_cons (pv 0) (pa_cons (pe_callB (len_ofK (K := K) rfl) (by rfl) T.n_len (by decide +kernel) (pa_cons (pv 4) pa_nil)) pa_nil))) (fun _ _ => rfl))))))))))))), ?_⟩
  refine ⟨.ref p, rfl, p, lsl, tb, n, wd, rfl, SqL.of TL0.at_, TL0.rows, G, fun s H1 g1 hs ls' => ?_⟩
  have ls := ls'
  have kp : Kp t H H1 := (Kp.refl tp).same g1
  have T1 := TL0.kp kp
  obtain ⟨ini, l, et, hl, hlb⟩ := G.last
  have lt : tb[tb.length - 1]? = some l := by rw [et]; simp
  obtain ⟨k, hk⟩ : ∃ k, lsl[tb.length - 1]? = some k := ⟨lsl[tb.length - 1]'(by omega), List.getElem?_eq_getElem (by omega)⟩
  obtain ⟨l', hl', hkl⟩ := T1.rows.get hk
  obtain rfl : l = l' := Option.some.inj (lt.symm.trans hl')
  have eat : atI (lsl.map V.ref) (-1) = some (.ref k) := by
    unfold atI ixN
    rw [List.length_map, if_neg (by decide), if_pos (by omega)]
    show (lsl.map V.ref)[((-1 : Int) + (lsl.length : Int)).toNat]? = _
    rw [show ((-1 : Int) + (lsl.length : Int)).toNat = tb.length - 1 by omega, List.getElem?_map, hk]
    rfl
  refine ⟨.ref p, rfl, 1, rfl, p, _, -1, .ref k, rfl, rfl, SqL.of T1.at_, eat, (by show 1 ≤ sizeLine; decide), fun m1 nm1 => ?_⟩
  have km := same_upd (o := .lst [V.ref k]) nm1
  refine ⟨m1, [k], [l], 1, wd, rfl, SqL.of upd_same, .cons (km _ _ hkl) .nil, G.lastG hl hlb, fun e G0 g2 he le => ?_⟩
  have he : tl e = rowN l := he
  replace kp := (kp.same km).same g2
  obtain ⟨cf, rf, ef, hf⟩ := (G.lastG hl hlb).alone
  have hfe : ∃ c r2, tl e = c :: r2 ∧ isFig c = true := ⟨cf, rf, by rw [he]; exact ef, hf⟩
  clear ef hf T1 hkl eat km g2
  let Tx : V → Prop := fun x => ∃ d : Dt, OffP K (S1 t) (fun _ => none) x d ∧ txtOk d = false ∧ ∀ z, d = .str z → fitS z
  refine ⟨.str s, rfl, s, " ", rfl, rfl, str_fit (Nat.le_trans ls (by decide)) (Nat.le_trans (show ((" " : String) : Str).length ≤ 60 by decide +kernel) (by decide)), .str s, rfl, " ", s, rfl, rfl, str_fit (Nat.le_trans (show ((" " : String) : Str).length ≤ 60 by decide +kernel) (by decide)) (Nat.le_trans ls (by decide)), .str s, rfl, s, ";", rfl, rfl, str_fit (Nat.le_trans ls (by decide)) (Nat.le_trans (show ((";" : String) : Str).length ≤ 60 by decide +kernel) (by decide)), .str s, rfl, s, "; ", rfl, rfl, str_fit (Nat.le_trans ls (by decide)) (Nat.le_trans (show (("; " : String) : Str).length ≤ 60 by decide +kernel) (by decide)), .str s, rfl, "; ", s, rfl, rfl, str_fit (Nat.le_trans (show (("; " : String) : Str).length ≤ 60 by decide +kernel) (by decide)) (Nat.le_trans ls (by decide)), .str s, rfl, s, ";", rfl, rfl, str_fit (Nat.le_trans ls (by decide)) (Nat.le_trans (show ((";" : String) : Str).length ≤ 60 by decide +kernel) (by decide)), .str e, rfl, (s ++ ";"), e, rfl, rfl, str_fit (Nat.le_trans (app_fit ls (show ((";" : String) : Str).length ≤ 60 by decide +kernel)) (by decide)) (Nat.le_trans le (by decide)), (by show 10 ≤ sizeLine; decide), fun A0 n_A0 => ?_⟩
  have k_A0 := same_upd (o := .lst [V.str "", V.str " ", V.str ";", V.str "; ", V.str (s ++ " "), V.str (" " ++ s), V.str (s ++ ";"), V.str (s ++ "; "), V.str ("; " ++ s), V.str ((s ++ ";") ++ e)]) n_A0
  have f_A0 : (upd G0 A0 (.lst [V.str "", V.str " ", V.str ";", V.str "; ", V.str (s ++ " "), V.str (" " ++ s), V.str (s ++ ";"), V.str (s ++ "; "), V.str ("; " ++ s), V.str ((s ++ ";") ++ e)])) A0 = some (.lst [V.str "", V.str " ", V.str ";", V.str "; ", V.str (s ++ " "), V.str (" " ++ s), V.str (s ++ ";"), V.str (s ++ "; "), V.str ("; " ++ s), V.str ((s ++ ";") ++ e)]) := upd_same
  replace kp := kp.same k_A0
  generalize upd G0 A0 (.lst [V.str "", V.str " ", V.str ";", V.str "; ", V.str (s ++ " "), V.str (" " ++ s), V.str (s ++ ";"), V.str (s ++ "; "), V.str ("; " ++ s), V.str ((s ++ ";") ++ e)]) = G1 at k_A0 f_A0  kp ⊢
  have lX0 : ([V.str "", V.str " ", V.str ";", V.str "; ", V.str (s ++ " "), V.str (" " ++ s), V.str (s ++ ";"), V.str (s ++ "; "), V.str ("; " ++ s), V.str ((s ++ ";") ++ e)] : List V).length = 10 := rfl
  have pX0 : ∀ x ∈ ([V.str "", V.str " ", V.str ";", V.str "; ", V.str (s ++ " "), V.str (" " ++ s), V.str (s ++ ";"), V.str (s ++ "; "), V.str ("; " ++ s), V.str ((s ++ ";") ++ e)] : List V), Tx x := by
    refine List.forall_mem_cons.mpr ⟨⟨.str "", offp_str, (by decide +kernel), fun z hz => by injection hz with hz; rw [← hz]; exact (Nat.le_trans (show (("" : String) : Str).length ≤ 60 by decide +kernel) (by decide))⟩, ?_⟩
    refine List.forall_mem_cons.mpr ⟨⟨.str " ", offp_str, (by decide +kernel), fun z hz => by injection hz with hz; rw [← hz]; exact (Nat.le_trans (show ((" " : String) : Str).length ≤ 60 by decide +kernel) (by decide))⟩, ?_⟩
    refine List.forall_mem_cons.mpr ⟨⟨.str ";", offp_str, (by decide +kernel), fun z hz => by injection hz with hz; rw [← hz]; exact (Nat.le_trans (show ((";" : String) : Str).length ≤ 60 by decide +kernel) (by decide))⟩, ?_⟩
    refine List.forall_mem_cons.mpr ⟨⟨.str "; ", offp_str, (by decide +kernel), fun z hz => by injection hz with hz; rw [← hz]; exact (Nat.le_trans (show (("; " : String) : Str).length ≤ 60 by decide +kernel) (by decide))⟩, ?_⟩
    refine List.forall_mem_cons.mpr ⟨⟨.str (s ++ " "), offp_str, (show readOk (tl (s ++ " ")) = false by rw [tl_append, hs]; exact G.behind (by decide +kernel)), fun z hz => by injection hz with hz; rw [← hz]; exact (Nat.le_trans (app_fit ls (show ((" " : String) : Str).length ≤ 60 by decide +kernel)) (by decide))⟩, ?_⟩
    refine List.forall_mem_cons.mpr ⟨⟨.str (" " ++ s), offp_str, (show readOk (tl (" " ++ s)) = false by rw [tl_append]; exact start_bad (x := " ") (by decide +kernel) _), fun z hz => by injection hz with hz; rw [← hz]; exact (Nat.le_trans (app_fit (show ((" " : String) : Str).length ≤ 60 by decide +kernel) ls) (by decide))⟩, ?_⟩
    refine List.forall_mem_cons.mpr ⟨⟨.str (s ++ ";"), offp_str, (show readOk (tl (s ++ ";")) = false by rw [tl_append, hs]; exact G.behind (by decide +kernel)), fun z hz => by injection hz with hz; rw [← hz]; exact (Nat.le_trans (app_fit ls (show ((";" : String) : Str).length ≤ 60 by decide +kernel)) (by decide))⟩, ?_⟩
    refine List.forall_mem_cons.mpr ⟨⟨.str (s ++ "; "), offp_str, (show readOk (tl (s ++ "; ")) = false by rw [tl_append, hs]; exact G.behind (by decide +kernel)), fun z hz => by injection hz with hz; rw [← hz]; exact (Nat.le_trans (app_fit ls (show (("; " : String) : Str).length ≤ 60 by decide +kernel)) (by decide))⟩, ?_⟩
    refine List.forall_mem_cons.mpr ⟨⟨.str ("; " ++ s), offp_str, (show readOk (tl ("; " ++ s)) = false by rw [tl_append]; exact start_bad (x := "; ") (by decide +kernel) _), fun z hz => by injection hz with hz; rw [← hz]; exact (Nat.le_trans (app_fit (show (("; " : String) : Str).length ≤ 60 by decide +kernel) ls) (by decide))⟩, ?_⟩
    refine List.forall_mem_cons.mpr ⟨⟨.str ((s ++ ";") ++ e), offp_str, (show readOk (tl ((s ++ ";") ++ e)) = false by rw [tl_append, tl_append, hs, List.append_assoc]; exact G.behind (semi_bad hfe)), fun z hz => by injection hz with hz; rw [← hz]; exact (Nat.le_trans (app_fit (app_fit ls (show ((";" : String) : Str).length ≤ 60 by decide +kernel)) le) (by decide))⟩, ?_⟩
    exact fun _ z => (nomatch z)
  generalize ([V.str "", V.str " ", V.str ";", V.str "; ", V.str (s ++ " "), V.str (" " ++ s), V.str (s ++ ";"), V.str (s ++ "; "), V.str ("; " ++ s), V.str ((s ++ ";") ++ e)] : List V) = X0 at f_A0 lX0 pX0
  generalize G1 = G2 at *
  refine ⟨.ref A0, rfl, .str s, rfl, s, " ;", rfl, rfl, str_fit (Nat.le_trans ls (by decide)) (Nat.le_trans (show ((" ;" : String) : Str).length ≤ 60 by decide +kernel) (by decide)), .str e, rfl, (s ++ " ;"), e, rfl, rfl, str_fit (Nat.le_trans (app_fit ls (show ((" ;" : String) : Str).length ≤ 60 by decide +kernel)) (by decide)) (Nat.le_trans le (by decide)), .str s, rfl, s, ";  ", rfl, rfl, str_fit (Nat.le_trans ls (by decide)) (Nat.le_trans (show ((";  " : String) : Str).length ≤ 60 by decide +kernel) (by decide)), .str e, rfl, (s ++ ";  "), e, rfl, rfl, str_fit (Nat.le_trans (app_fit ls (show ((";  " : String) : Str).length ≤ 60 by decide +kernel)) (by decide)) (Nat.le_trans le (by decide)), .str s, rfl, s, " ; ", rfl, rfl, str_fit (Nat.le_trans ls (by decide)) (Nat.le_trans (show ((" ; " : String) : Str).length ≤ 60 by decide +kernel) (by decide)), .str e, rfl, (s ++ " ; "), e, rfl, rfl, str_fit (Nat.le_trans (app_fit ls (show ((" ; " : String) : Str).length ≤ 60 by decide +kernel)) (by decide)) (Nat.le_trans le (by decide)), .str s, rfl, s, "  1", rfl, rfl, str_fit (Nat.le_trans ls (by decide)) (Nat.le_trans (show (("  1" : String) : Str).length ≤ 60 by decide +kernel) (by decide)), (by show 4 ≤ sizeLine; decide), fun A1 n_A1 => ?_⟩
  have k_A1 := same_upd (o := .lst [V.str ((s ++ " ;") ++ e), V.str ((s ++ ";  ") ++ e), V.str ((s ++ " ; ") ++ e), V.str (s ++ "  1")]) n_A1
  have f_A1 : (upd G2 A1 (.lst [V.str ((s ++ " ;") ++ e), V.str ((s ++ ";  ") ++ e), V.str ((s ++ " ; ") ++ e), V.str (s ++ "  1")])) A1 = some (.lst [V.str ((s ++ " ;") ++ e), V.str ((s ++ ";  ") ++ e), V.str ((s ++ " ; ") ++ e), V.str (s ++ "  1")]) := upd_same
  replace f_A0 := k_A1 _ _ f_A0
  replace kp := kp.same k_A1
  generalize upd G2 A1 (.lst [V.str ((s ++ " ;") ++ e), V.str ((s ++ ";  ") ++ e), V.str ((s ++ " ; ") ++ e), V.str (s ++ "  1")]) = G3 at k_A1 f_A1 f_A0 kp ⊢
  refine ⟨A0, A1, _, _, rfl, rfl, f_A0, f_A1, (by rw [lX0]; show _ + 4 ≤ sizeLine; decide), fun B1 n_B1 => ?_⟩
  have k_B1 := same_upd (o := .lst (X0 ++ [V.str ((s ++ " ;") ++ e), V.str ((s ++ ";  ") ++ e), V.str ((s ++ " ; ") ++ e), V.str (s ++ "  1")])) n_B1
  have f_B1 : (upd G3 B1 (.lst (X0 ++ [V.str ((s ++ " ;") ++ e), V.str ((s ++ ";  ") ++ e), V.str ((s ++ " ; ") ++ e), V.str (s ++ "  1")]))) B1 = some (.lst (X0 ++ [V.str ((s ++ " ;") ++ e), V.str ((s ++ ";  ") ++ e), V.str ((s ++ " ; ") ++ e), V.str (s ++ "  1")])) := upd_same
  replace kp := kp.same k_B1
  have lX1 : (X0 ++ [V.str ((s ++ " ;") ++ e), V.str ((s ++ ";  ") ++ e), V.str ((s ++ " ; ") ++ e), V.str (s ++ "  1")]).length = 14 := by rw [List.length_append, lX0]; rfl
  generalize upd G3 B1 (.lst (X0 ++ [V.str ((s ++ " ;") ++ e), V.str ((s ++ ";  ") ++ e), V.str ((s ++ " ; ") ++ e), V.str (s ++ "  1")])) = G4 at k_B1 f_B1 kp ⊢
  have pX1 : ∀ x ∈ X0 ++ [V.str ((s ++ " ;") ++ e), V.str ((s ++ ";  ") ++ e), V.str ((s ++ " ; ") ++ e), V.str (s ++ "  1")], Tx x := List.forall_mem_append.mpr ⟨pX0, by
    refine List.forall_mem_cons.mpr ⟨⟨.str ((s ++ " ;") ++ e), offp_str, (show readOk (tl ((s ++ " ;") ++ e)) = false by rw [tl_append, tl_append, hs, List.append_assoc]; exact G.behind (mid_bad (x := " ;") (by decide +kernel) _)), fun z hz => by injection hz with hz; rw [← hz]; exact (Nat.le_trans (app_fit (app_fit ls (show ((" ;" : String) : Str).length ≤ 60 by decide +kernel)) le) (by decide))⟩, ?_⟩
    refine List.forall_mem_cons.mpr ⟨⟨.str ((s ++ ";  ") ++ e), offp_str, (show readOk (tl ((s ++ ";  ") ++ e)) = false by rw [tl_append, tl_append, hs, List.append_assoc]; exact G.behind (mid_bad (x := ";  ") (by decide +kernel) _)), fun z hz => by injection hz with hz; rw [← hz]; exact (Nat.le_trans (app_fit (app_fit ls (show ((";  " : String) : Str).length ≤ 60 by decide +kernel)) le) (by decide))⟩, ?_⟩
    refine List.forall_mem_cons.mpr ⟨⟨.str ((s ++ " ; ") ++ e), offp_str, (show readOk (tl ((s ++ " ; ") ++ e)) = false by rw [tl_append, tl_append, hs, List.append_assoc]; exact G.behind (mid_bad (x := " ; ") (by decide +kernel) _)), fun z hz => by injection hz with hz; rw [← hz]; exact (Nat.le_trans (app_fit (app_fit ls (show ((" ; " : String) : Str).length ≤ 60 by decide +kernel)) le) (by decide))⟩, ?_⟩
    refine List.forall_mem_cons.mpr ⟨⟨.str (s ++ "  1"), offp_str, (show readOk (tl (s ++ "  1")) = false by rw [tl_append, hs]; exact G.behind (by decide +kernel)), fun z hz => by injection hz with hz; rw [← hz]; exact (Nat.le_trans (app_fit ls (show (("  1" : String) : Str).length ≤ 60 by decide +kernel)) (by decide))⟩, ?_⟩
    exact fun _ z => (nomatch z)⟩
  generalize X0 ++ [V.str ((s ++ " ;") ++ e), V.str ((s ++ ";  ") ++ e), V.str ((s ++ " ; ") ++ e), V.str (s ++ "  1")] = X1 at f_B1 lX1 pX1
  clear f_A0 f_A1
  refine ⟨.ref B1, rfl, .str s, rfl, s, "; ", rfl, rfl, str_fit (Nat.le_trans ls (by decide)) (Nat.le_trans (show (("; " : String) : Str).length ≤ 60 by decide +kernel) (by decide)), .str e, rfl, (s ++ "; "), e, rfl, rfl, str_fit (Nat.le_trans (app_fit ls (show (("; " : String) : Str).length ≤ 60 by decide +kernel)) (by decide)) (Nat.le_trans le (by decide)), ((s ++ "; ") ++ e), " 1", rfl, rfl, str_fit (Nat.le_trans (app_fit (app_fit ls (show (("; " : String) : Str).length ≤ 60 by decide +kernel)) le) (by decide)) (Nat.le_trans (show ((" 1" : String) : Str).length ≤ 60 by decide +kernel) (by decide)), .str s, rfl, "0", s, rfl, rfl, str_fit (Nat.le_trans (show (("0" : String) : Str).length ≤ 60 by decide +kernel) (by decide)) (Nat.le_trans ls (by decide)), .str s, rfl, "-", s, rfl, rfl, str_fit (Nat.le_trans (show (("-" : String) : Str).length ≤ 60 by decide +kernel) (by decide)) (Nat.le_trans ls (by decide)), .str s, rfl, "+", s, rfl, rfl, str_fit (Nat.le_trans (show (("+" : String) : Str).length ≤ 60 by decide +kernel) (by decide)) (Nat.le_trans ls (by decide)), .str s, rfl, s, " 1000000000001; 0", rfl, rfl, str_fit (Nat.le_trans ls (by decide)) (Nat.le_trans (show ((" 1000000000001; 0" : String) : Str).length ≤ 60 by decide +kernel) (by decide)), (by show 5 ≤ sizeLine; decide), fun A2 n_A2 => ?_⟩
  have k_A2 := same_upd (o := .lst [V.str (((s ++ "; ") ++ e) ++ " 1"), V.str ("0" ++ s), V.str ("-" ++ s), V.str ("+" ++ s), V.str (s ++ " 1000000000001; 0")]) n_A2
  have f_A2 : (upd G4 A2 (.lst [V.str (((s ++ "; ") ++ e) ++ " 1"), V.str ("0" ++ s), V.str ("-" ++ s), V.str ("+" ++ s), V.str (s ++ " 1000000000001; 0")])) A2 = some (.lst [V.str (((s ++ "; ") ++ e) ++ " 1"), V.str ("0" ++ s), V.str ("-" ++ s), V.str ("+" ++ s), V.str (s ++ " 1000000000001; 0")]) := upd_same
  replace f_B1 := k_A2 _ _ f_B1
  replace kp := kp.same k_A2
  generalize upd G4 A2 (.lst [V.str (((s ++ "; ") ++ e) ++ " 1"), V.str ("0" ++ s), V.str ("-" ++ s), V.str ("+" ++ s), V.str (s ++ " 1000000000001; 0")]) = G5 at k_A2 f_A2 f_B1 kp ⊢
  refine ⟨B1, A2, _, _, rfl, rfl, f_B1, f_A2, (by rw [lX1]; show _ + 5 ≤ sizeLine; decide), fun B2 n_B2 => ?_⟩
  have k_B2 := same_upd (o := .lst (X1 ++ [V.str (((s ++ "; ") ++ e) ++ " 1"), V.str ("0" ++ s), V.str ("-" ++ s), V.str ("+" ++ s), V.str (s ++ " 1000000000001; 0")])) n_B2
  have f_B2 : (upd G5 B2 (.lst (X1 ++ [V.str (((s ++ "; ") ++ e) ++ " 1"), V.str ("0" ++ s), V.str ("-" ++ s), V.str ("+" ++ s), V.str (s ++ " 1000000000001; 0")]))) B2 = some (.lst (X1 ++ [V.str (((s ++ "; ") ++ e) ++ " 1"), V.str ("0" ++ s), V.str ("-" ++ s), V.str ("+" ++ s), V.str (s ++ " 1000000000001; 0")])) := upd_same
  replace kp := kp.same k_B2
  have lX2 : (X1 ++ [V.str (((s ++ "; ") ++ e) ++ " 1"), V.str ("0" ++ s), V.str ("-" ++ s), V.str ("+" ++ s), V.str (s ++ " 1000000000001; 0")]).length = 19 := by rw [List.length_append, lX1]; rfl
  generalize upd G5 B2 (.lst (X1 ++ [V.str (((s ++ "; ") ++ e) ++ " 1"), V.str ("0" ++ s), V.str ("-" ++ s), V.str ("+" ++ s), V.str (s ++ " 1000000000001; 0")])) = G6 at k_B2 f_B2 kp ⊢
  have pX2 : ∀ x ∈ X1 ++ [V.str (((s ++ "; ") ++ e) ++ " 1"), V.str ("0" ++ s), V.str ("-" ++ s), V.str ("+" ++ s), V.str (s ++ " 1000000000001; 0")], Tx x := List.forall_mem_append.mpr ⟨pX1, by
    refine List.forall_mem_cons.mpr ⟨⟨.str (((s ++ "; ") ++ e) ++ " 1"), offp_str, (show readOk (tl (((s ++ "; ") ++ e) ++ " 1")) = false by rw [tl_append, tl_append, tl_append, hs, he]; exact longer_bad G hl), fun z hz => by injection hz with hz; rw [← hz]; exact (Nat.le_trans (app_fit (app_fit (app_fit ls (show (("; " : String) : Str).length ≤ 60 by decide +kernel)) le) (show ((" 1" : String) : Str).length ≤ 60 by decide +kernel)) (by decide))⟩, ?_⟩
    refine List.forall_mem_cons.mpr ⟨⟨.str ("0" ++ s), offp_str, (show readOk (tl ("0" ++ s)) = false by rw [tl_append, hs]; exact G.nought), fun z hz => by injection hz with hz; rw [← hz]; exact (Nat.le_trans (app_fit (show (("0" : String) : Str).length ≤ 60 by decide +kernel) ls) (by decide))⟩, ?_⟩
    refine List.forall_mem_cons.mpr ⟨⟨.str ("-" ++ s), offp_str, (show readOk (tl ("-" ++ s)) = false by rw [tl_append]; exact start_bad (x := "-") (by decide +kernel) _), fun z hz => by injection hz with hz; rw [← hz]; exact (Nat.le_trans (app_fit (show (("-" : String) : Str).length ≤ 60 by decide +kernel) ls) (by decide))⟩, ?_⟩
    refine List.forall_mem_cons.mpr ⟨⟨.str ("+" ++ s), offp_str, (show readOk (tl ("+" ++ s)) = false by rw [tl_append]; exact start_bad (x := "+") (by decide +kernel) _), fun z hz => by injection hz with hz; rw [← hz]; exact (Nat.le_trans (app_fit (show (("+" : String) : Str).length ≤ 60 by decide +kernel) ls) (by decide))⟩, ?_⟩
    refine List.forall_mem_cons.mpr ⟨⟨.str (s ++ " 1000000000001; 0"), offp_str, (show readOk (tl (s ++ " 1000000000001; 0")) = false by rw [tl_append, hs]; exact above_bad G), fun z hz => by injection hz with hz; rw [← hz]; exact (Nat.le_trans (app_fit ls (show ((" 1000000000001; 0" : String) : Str).length ≤ 60 by decide +kernel)) (by decide))⟩, ?_⟩
    exact fun _ z => (nomatch z)⟩
  generalize X1 ++ [V.str (((s ++ "; ") ++ e) ++ " 1"), V.str ("0" ++ s), V.str ("-" ++ s), V.str ("+" ++ s), V.str (s ++ " 1000000000001; 0")] = X2 at f_B2 lX2 pX2
  clear f_B1 f_A2
  refine ⟨.ref B2, rfl, "9", 40, rfl, rfl, by decide, by decide, by decide, (by show 10 ≤ sizeLine; decide), fun A3 n_A3 => ?_⟩
  have k_A3 := same_upd (o := .lst [V.str "00", V.str "-1", V.str "1 -0", V.str "1 01", V.str "1,2", V.str "1.0", V.str "1000000000001", V.str (strTimes "9" 40), V.str "1 2 3 4 5 6 7", V.str "1e3"]) n_A3
  have f_A3 : (upd G6 A3 (.lst [V.str "00", V.str "-1", V.str "1 -0", V.str "1 01", V.str "1,2", V.str "1.0", V.str "1000000000001", V.str (strTimes "9" 40), V.str "1 2 3 4 5 6 7", V.str "1e3"])) A3 = some (.lst [V.str "00", V.str "-1", V.str "1 -0", V.str "1 01", V.str "1,2", V.str "1.0", V.str "1000000000001", V.str (strTimes "9" 40), V.str "1 2 3 4 5 6 7", V.str "1e3"]) := upd_same
  replace f_B2 := k_A3 _ _ f_B2
  replace kp := kp.same k_A3
  generalize upd G6 A3 (.lst [V.str "00", V.str "-1", V.str "1 -0", V.str "1 01", V.str "1,2", V.str "1.0", V.str "1000000000001", V.str (strTimes "9" 40), V.str "1 2 3 4 5 6 7", V.str "1e3"]) = G7 at k_A3 f_A3 f_B2 kp ⊢
  refine ⟨B2, A3, _, _, rfl, rfl, f_B2, f_A3, (by rw [lX2]; show _ + 10 ≤ sizeLine; decide), fun B3 n_B3 => ?_⟩
  have k_B3 := same_upd (o := .lst (X2 ++ [V.str "00", V.str "-1", V.str "1 -0", V.str "1 01", V.str "1,2", V.str "1.0", V.str "1000000000001", V.str (strTimes "9" 40), V.str "1 2 3 4 5 6 7", V.str "1e3"])) n_B3
  have f_B3 : (upd G7 B3 (.lst (X2 ++ [V.str "00", V.str "-1", V.str "1 -0", V.str "1 01", V.str "1,2", V.str "1.0", V.str "1000000000001", V.str (strTimes "9" 40), V.str "1 2 3 4 5 6 7", V.str "1e3"]))) B3 = some (.lst (X2 ++ [V.str "00", V.str "-1", V.str "1 -0", V.str "1 01", V.str "1,2", V.str "1.0", V.str "1000000000001", V.str (strTimes "9" 40), V.str "1 2 3 4 5 6 7", V.str "1e3"])) := upd_same
  replace kp := kp.same k_B3
  have lX3 : (X2 ++ [V.str "00", V.str "-1", V.str "1 -0", V.str "1 01", V.str "1,2", V.str "1.0", V.str "1000000000001", V.str (strTimes "9" 40), V.str "1 2 3 4 5 6 7", V.str "1e3"]).length = 29 := by rw [List.length_append, lX2]; rfl
  generalize upd G7 B3 (.lst (X2 ++ [V.str "00", V.str "-1", V.str "1 -0", V.str "1 01", V.str "1,2", V.str "1.0", V.str "1000000000001", V.str (strTimes "9" 40), V.str "1 2 3 4 5 6 7", V.str "1e3"])) = G8 at k_B3 f_B3 kp ⊢
  have pX3 : ∀ x ∈ X2 ++ [V.str "00", V.str "-1", V.str "1 -0", V.str "1 01", V.str "1,2", V.str "1.0", V.str "1000000000001", V.str (strTimes "9" 40), V.str "1 2 3 4 5 6 7", V.str "1e3"], Tx x := List.forall_mem_append.mpr ⟨pX2, by
    refine List.forall_mem_cons.mpr ⟨⟨.str "00", offp_str, (by decide +kernel), fun z hz => by injection hz with hz; rw [← hz]; exact (Nat.le_trans (show (("00" : String) : Str).length ≤ 60 by decide +kernel) (by decide))⟩, ?_⟩
    refine List.forall_mem_cons.mpr ⟨⟨.str "-1", offp_str, (by decide +kernel), fun z hz => by injection hz with hz; rw [← hz]; exact (Nat.le_trans (show (("-1" : String) : Str).length ≤ 60 by decide +kernel) (by decide))⟩, ?_⟩
    refine List.forall_mem_cons.mpr ⟨⟨.str "1 -0", offp_str, (by decide +kernel), fun z hz => by injection hz with hz; rw [← hz]; exact (Nat.le_trans (show (("1 -0" : String) : Str).length ≤ 60 by decide +kernel) (by decide))⟩, ?_⟩
    refine List.forall_mem_cons.mpr ⟨⟨.str "1 01", offp_str, (by decide +kernel), fun z hz => by injection hz with hz; rw [← hz]; exact (Nat.le_trans (show (("1 01" : String) : Str).length ≤ 60 by decide +kernel) (by decide))⟩, ?_⟩
    refine List.forall_mem_cons.mpr ⟨⟨.str "1,2", offp_str, (by decide +kernel), fun z hz => by injection hz with hz; rw [← hz]; exact (Nat.le_trans (show (("1,2" : String) : Str).length ≤ 60 by decide +kernel) (by decide))⟩, ?_⟩
    refine List.forall_mem_cons.mpr ⟨⟨.str "1.0", offp_str, (by decide +kernel), fun z hz => by injection hz with hz; rw [← hz]; exact (Nat.le_trans (show (("1.0" : String) : Str).length ≤ 60 by decide +kernel) (by decide))⟩, ?_⟩
    refine List.forall_mem_cons.mpr ⟨⟨.str "1000000000001", offp_str, (by decide +kernel), fun z hz => by injection hz with hz; rw [← hz]; exact (Nat.le_trans (show (("1000000000001" : String) : Str).length ≤ 60 by decide +kernel) (by decide))⟩, ?_⟩
    refine List.forall_mem_cons.mpr ⟨⟨.str (strTimes "9" 40), offp_str, (by decide +kernel), fun z hz => by injection hz with hz; rw [← hz]; exact (show (strTimes "9" 40).length ≤ 2000 by decide +kernel)⟩, ?_⟩
    refine List.forall_mem_cons.mpr ⟨⟨.str "1 2 3 4 5 6 7", offp_str, (by decide +kernel), fun z hz => by injection hz with hz; rw [← hz]; exact (Nat.le_trans (show (("1 2 3 4 5 6 7" : String) : Str).length ≤ 60 by decide +kernel) (by decide))⟩, ?_⟩
    refine List.forall_mem_cons.mpr ⟨⟨.str "1e3", offp_str, (by decide +kernel), fun z hz => by injection hz with hz; rw [← hz]; exact (Nat.le_trans (show (("1e3" : String) : Str).length ≤ 60 by decide +kernel) (by decide))⟩, ?_⟩
    exact fun _ z => (nomatch z)⟩
  generalize X2 ++ [V.str "00", V.str "-1", V.str "1 -0", V.str "1 01", V.str "1,2", V.str "1.0", V.str "1000000000001", V.str (strTimes "9" 40), V.str "1 2 3 4 5 6 7", V.str "1e3"] = X3 at f_B3 lX3 pX3
  clear f_B2 f_A3
  refine ⟨.ref B3, rfl, .str s, rfl, s, "-", rfl, rfl, str_fit (Nat.le_trans ls (by decide)) (Nat.le_trans (show (("-" : String) : Str).length ≤ 60 by decide +kernel) (by decide)), .str s, rfl, s, "|", rfl, rfl, str_fit (Nat.le_trans ls (by decide)) (Nat.le_trans (show (("|" : String) : Str).length ≤ 60 by decide +kernel) (by decide)), .str s, rfl, (s ++ "|"), s, rfl, rfl, str_fit (Nat.le_trans (app_fit ls (show (("|" : String) : Str).length ≤ 60 by decide +kernel)) (by decide)) (Nat.le_trans ls (by decide)), (by show 8 ≤ sizeLine; decide), fun A4 n_A4 => ?_⟩
  have k_A4 := same_upd (o := .lst [V.str "1; 2; 3; 4; 5; 6; 7", V.str "a", V.str "1 a", V.str "0x1", V.str "1_0", V.str "1; ; 2", V.str (s ++ "-"), V.str ((s ++ "|") ++ s)]) n_A4
  have f_A4 : (upd G8 A4 (.lst [V.str "1; 2; 3; 4; 5; 6; 7", V.str "a", V.str "1 a", V.str "0x1", V.str "1_0", V.str "1; ; 2", V.str (s ++ "-"), V.str ((s ++ "|") ++ s)])) A4 = some (.lst [V.str "1; 2; 3; 4; 5; 6; 7", V.str "a", V.str "1 a", V.str "0x1", V.str "1_0", V.str "1; ; 2", V.str (s ++ "-"), V.str ((s ++ "|") ++ s)]) := upd_same
  replace f_B3 := k_A4 _ _ f_B3
  replace kp := kp.same k_A4
  generalize upd G8 A4 (.lst [V.str "1; 2; 3; 4; 5; 6; 7", V.str "a", V.str "1 a", V.str "0x1", V.str "1_0", V.str "1; ; 2", V.str (s ++ "-"), V.str ((s ++ "|") ++ s)]) = G9 at k_A4 f_A4 f_B3 kp ⊢
  refine ⟨B3, A4, _, _, rfl, rfl, f_B3, f_A4, (by rw [lX3]; show _ + 8 ≤ sizeLine; decide), fun B4 n_B4 => ?_⟩
  have k_B4 := same_upd (o := .lst (X3 ++ [V.str "1; 2; 3; 4; 5; 6; 7", V.str "a", V.str "1 a", V.str "0x1", V.str "1_0", V.str "1; ; 2", V.str (s ++ "-"), V.str ((s ++ "|") ++ s)])) n_B4
  have f_B4 : (upd G9 B4 (.lst (X3 ++ [V.str "1; 2; 3; 4; 5; 6; 7", V.str "a", V.str "1 a", V.str "0x1", V.str "1_0", V.str "1; ; 2", V.str (s ++ "-"), V.str ((s ++ "|") ++ s)]))) B4 = some (.lst (X3 ++ [V.str "1; 2; 3; 4; 5; 6; 7", V.str "a", V.str "1 a", V.str "0x1", V.str "1_0", V.str "1; ; 2", V.str (s ++ "-"), V.str ((s ++ "|") ++ s)])) := upd_same
  replace kp := kp.same k_B4
  have lX4 : (X3 ++ [V.str "1; 2; 3; 4; 5; 6; 7", V.str "a", V.str "1 a", V.str "0x1", V.str "1_0", V.str "1; ; 2", V.str (s ++ "-"), V.str ((s ++ "|") ++ s)]).length = 37 := by rw [List.length_append, lX3]; rfl
  generalize upd G9 B4 (.lst (X3 ++ [V.str "1; 2; 3; 4; 5; 6; 7", V.str "a", V.str "1 a", V.str "0x1", V.str "1_0", V.str "1; ; 2", V.str (s ++ "-"), V.str ((s ++ "|") ++ s)])) = G10 at k_B4 f_B4 kp ⊢
  have pX4 : ∀ x ∈ X3 ++ [V.str "1; 2; 3; 4; 5; 6; 7", V.str "a", V.str "1 a", V.str "0x1", V.str "1_0", V.str "1; ; 2", V.str (s ++ "-"), V.str ((s ++ "|") ++ s)], Tx x := List.forall_mem_append.mpr ⟨pX3, by
    refine List.forall_mem_cons.mpr ⟨⟨.str "1; 2; 3; 4; 5; 6; 7", offp_str, (by decide +kernel), fun z hz => by injection hz with hz; rw [← hz]; exact (Nat.le_trans (show (("1; 2; 3; 4; 5; 6; 7" : String) : Str).length ≤ 60 by decide +kernel) (by decide))⟩, ?_⟩
    refine List.forall_mem_cons.mpr ⟨⟨.str "a", offp_str, (by decide +kernel), fun z hz => by injection hz with hz; rw [← hz]; exact (Nat.le_trans (show (("a" : String) : Str).length ≤ 60 by decide +kernel) (by decide))⟩, ?_⟩
    refine List.forall_mem_cons.mpr ⟨⟨.str "1 a", offp_str, (by decide +kernel), fun z hz => by injection hz with hz; rw [← hz]; exact (Nat.le_trans (show (("1 a" : String) : Str).length ≤ 60 by decide +kernel) (by decide))⟩, ?_⟩
    refine List.forall_mem_cons.mpr ⟨⟨.str "0x1", offp_str, (by decide +kernel), fun z hz => by injection hz with hz; rw [← hz]; exact (Nat.le_trans (show (("0x1" : String) : Str).length ≤ 60 by decide +kernel) (by decide))⟩, ?_⟩
    refine List.forall_mem_cons.mpr ⟨⟨.str "1_0", offp_str, (by decide +kernel), fun z hz => by injection hz with hz; rw [← hz]; exact (Nat.le_trans (show (("1_0" : String) : Str).length ≤ 60 by decide +kernel) (by decide))⟩, ?_⟩
    refine List.forall_mem_cons.mpr ⟨⟨.str "1; ; 2", offp_str, (by decide +kernel), fun z hz => by injection hz with hz; rw [← hz]; exact (Nat.le_trans (show (("1; ; 2" : String) : Str).length ≤ 60 by decide +kernel) (by decide))⟩, ?_⟩
    refine List.forall_mem_cons.mpr ⟨⟨.str (s ++ "-"), offp_str, (show readOk (tl (s ++ "-")) = false by rw [tl_append, hs]; exact G.behind (by decide +kernel)), fun z hz => by injection hz with hz; rw [← hz]; exact (Nat.le_trans (app_fit ls (show (("-" : String) : Str).length ≤ 60 by decide +kernel)) (by decide))⟩, ?_⟩
    refine List.forall_mem_cons.mpr ⟨⟨.str ((s ++ "|") ++ s), offp_str, (show readOk (tl ((s ++ "|") ++ s)) = false by rw [tl_append, tl_append, hs, List.append_assoc]; exact G.behind (mid_bad (x := "|") (by decide +kernel) _)), fun z hz => by injection hz with hz; rw [← hz]; exact (Nat.le_trans (app_fit (app_fit ls (show (("|" : String) : Str).length ≤ 60 by decide +kernel)) ls) (by decide))⟩, ?_⟩
    exact fun _ z => (nomatch z)⟩
  generalize X3 ++ [V.str "1; 2; 3; 4; 5; 6; 7", V.str "a", V.str "1 a", V.str "0x1", V.str "1_0", V.str "1; ; 2", V.str (s ++ "-"), V.str ((s ++ "|") ++ s)] = X4 at f_B4 lX4 pX4
  clear f_B3 f_A4
  refine ⟨.ref B4, rfl, .str s, rfl, "[", s, rfl, rfl, str_fit (Nat.le_trans (show (("[" : String) : Str).length ≤ 60 by decide +kernel) (by decide)) (Nat.le_trans ls (by decide)), ("[" ++ s), "]", rfl, rfl, str_fit (Nat.le_trans (app_fit (show (("[" : String) : Str).length ≤ 60 by decide +kernel) ls) (by decide)) (Nat.le_trans (show (("]" : String) : Str).length ≤ 60 by decide +kernel) (by decide)), .str s, rfl, s, ".", rfl, rfl, str_fit (Nat.le_trans ls (by decide)) (Nat.le_trans (show (("." : String) : Str).length ≤ 60 by decide +kernel) (by decide)), (by show 7 ≤ sizeLine; decide), fun A5 n_A5 => ?_⟩
  have k_A5 := same_upd (o := .lst [V.str (("[" ++ s) ++ "]"), V.str "one", V.str "None", V.str "1;2", V.str "1 ;2", V.str (s ++ "."), V.str "1 2;"]) n_A5
  have f_A5 : (upd G10 A5 (.lst [V.str (("[" ++ s) ++ "]"), V.str "one", V.str "None", V.str "1;2", V.str "1 ;2", V.str (s ++ "."), V.str "1 2;"])) A5 = some (.lst [V.str (("[" ++ s) ++ "]"), V.str "one", V.str "None", V.str "1;2", V.str "1 ;2", V.str (s ++ "."), V.str "1 2;"]) := upd_same
  replace f_B4 := k_A5 _ _ f_B4
  replace kp := kp.same k_A5
  generalize upd G10 A5 (.lst [V.str (("[" ++ s) ++ "]"), V.str "one", V.str "None", V.str "1;2", V.str "1 ;2", V.str (s ++ "."), V.str "1 2;"]) = G11 at k_A5 f_A5 f_B4 kp ⊢
  refine ⟨B4, A5, _, _, rfl, rfl, f_B4, f_A5, (by rw [lX4]; show _ + 7 ≤ sizeLine; decide), fun B5 n_B5 => ?_⟩
  have k_B5 := same_upd (o := .lst (X4 ++ [V.str (("[" ++ s) ++ "]"), V.str "one", V.str "None", V.str "1;2", V.str "1 ;2", V.str (s ++ "."), V.str "1 2;"])) n_B5
  have f_B5 : (upd G11 B5 (.lst (X4 ++ [V.str (("[" ++ s) ++ "]"), V.str "one", V.str "None", V.str "1;2", V.str "1 ;2", V.str (s ++ "."), V.str "1 2;"]))) B5 = some (.lst (X4 ++ [V.str (("[" ++ s) ++ "]"), V.str "one", V.str "None", V.str "1;2", V.str "1 ;2", V.str (s ++ "."), V.str "1 2;"])) := upd_same
  replace kp := kp.same k_B5
  have lX5 : (X4 ++ [V.str (("[" ++ s) ++ "]"), V.str "one", V.str "None", V.str "1;2", V.str "1 ;2", V.str (s ++ "."), V.str "1 2;"]).length = 44 := by rw [List.length_append, lX4]; rfl
  generalize upd G11 B5 (.lst (X4 ++ [V.str (("[" ++ s) ++ "]"), V.str "one", V.str "None", V.str "1;2", V.str "1 ;2", V.str (s ++ "."), V.str "1 2;"])) = G12 at k_B5 f_B5 kp ⊢
  have pX5 : ∀ x ∈ X4 ++ [V.str (("[" ++ s) ++ "]"), V.str "one", V.str "None", V.str "1;2", V.str "1 ;2", V.str (s ++ "."), V.str "1 2;"], Tx x := List.forall_mem_append.mpr ⟨pX4, by
    refine List.forall_mem_cons.mpr ⟨⟨.str (("[" ++ s) ++ "]"), offp_str, (show readOk (tl (("[" ++ s) ++ "]")) = false by rw [tl_append, tl_append, List.append_assoc]; exact start_bad (x := "[") (by decide +kernel) _), fun z hz => by injection hz with hz; rw [← hz]; exact (Nat.le_trans (app_fit (app_fit (show (("[" : String) : Str).length ≤ 60 by decide +kernel) ls) (show (("]" : String) : Str).length ≤ 60 by decide +kernel)) (by decide))⟩, ?_⟩
    refine List.forall_mem_cons.mpr ⟨⟨.str "one", offp_str, (by decide +kernel), fun z hz => by injection hz with hz; rw [← hz]; exact (Nat.le_trans (show (("one" : String) : Str).length ≤ 60 by decide +kernel) (by decide))⟩, ?_⟩
    refine List.forall_mem_cons.mpr ⟨⟨.str "None", offp_str, (by decide +kernel), fun z hz => by injection hz with hz; rw [← hz]; exact (Nat.le_trans (show (("None" : String) : Str).length ≤ 60 by decide +kernel) (by decide))⟩, ?_⟩
    refine List.forall_mem_cons.mpr ⟨⟨.str "1;2", offp_str, (by decide +kernel), fun z hz => by injection hz with hz; rw [← hz]; exact (Nat.le_trans (show (("1;2" : String) : Str).length ≤ 60 by decide +kernel) (by decide))⟩, ?_⟩
    refine List.forall_mem_cons.mpr ⟨⟨.str "1 ;2", offp_str, (by decide +kernel), fun z hz => by injection hz with hz; rw [← hz]; exact (Nat.le_trans (show (("1 ;2" : String) : Str).length ≤ 60 by decide +kernel) (by decide))⟩, ?_⟩
    refine List.forall_mem_cons.mpr ⟨⟨.str (s ++ "."), offp_str, (show readOk (tl (s ++ ".")) = false by rw [tl_append, hs]; exact G.behind (by decide +kernel)), fun z hz => by injection hz with hz; rw [← hz]; exact (Nat.le_trans (app_fit ls (show (("." : String) : Str).length ≤ 60 by decide +kernel)) (by decide))⟩, ?_⟩
    refine List.forall_mem_cons.mpr ⟨⟨.str "1 2;", offp_str, (by decide +kernel), fun z hz => by injection hz with hz; rw [← hz]; exact (Nat.le_trans (show (("1 2;" : String) : Str).length ≤ 60 by decide +kernel) (by decide))⟩, ?_⟩
    exact fun _ z => (nomatch z)⟩
  generalize X4 ++ [V.str (("[" ++ s) ++ "]"), V.str "one", V.str "None", V.str "1;2", V.str "1 ;2", V.str (s ++ "."), V.str "1 2;"] = X5 at f_B5 lX5 pX5
  clear f_B4 f_A5
  -- things that are no texts
  refine ⟨.ref B5, rfl, .str s, rfl, (by show 1 ≤ sizeLine; decide), fun c1 n_c1 => ?_⟩
  have k1 := same_upd (o := .lst [V.str s]) n_c1
  have t1 : c1 ≠ t := ne_tape kp.2 n_c1
  have f1 : (upd G12 c1 (.lst [V.str s])) c1 = some (.lst [V.str s]) := upd_same
  replace kp := kp.same k1
  replace f_B5 := k1 _ _ f_B5
  generalize upd G12 c1 (.lst [V.str s]) = J1 at k1 f1 f_B5 kp ⊢
  have N1 : Nt K t J1 (.ref c1) := ⟨.lst [.str s], offp_lst f1 t1 (offpl_cons offp_str offpl_nil), rfl, fun _ z => (nomatch z)⟩
  refine ⟨.str s, rfl, (by show 1 ≤ sizeLine; decide), fun c2 n_c2 => ?_⟩
  have k2 := same_upd (o := .tup [V.str s]) n_c2
  have t2 : c2 ≠ t := ne_tape kp.2 n_c2
  have f2 : (upd J1 c2 (.tup [V.str s])) c2 = some (.tup [V.str s]) := upd_same
  replace kp := kp.same k2
  replace f_B5 := k2 _ _ f_B5
  replace N1 := N1.mv (Mv.same k2)
  generalize upd J1 c2 (.tup [V.str s]) = J2 at k2 f2 f_B5 kp N1 ⊢
  have N2 : Nt K t J2 (.ref c2) := ⟨.tup [.str s], offp_tup f2 t2 (offpl_cons offp_str offpl_nil), rfl, fun _ z => (nomatch z)⟩
  refine fun c3 n_c3 => ?_
  have k3 := same_upd (o := .dK []) n_c3
  have t3 : c3 ≠ t := ne_tape kp.2 n_c3
  have f3 : (upd J2 c3 (.dK [])) c3 = some (.dK []) := upd_same
  replace kp := kp.same k3
  replace f_B5 := k3 _ _ f_B5
  replace N1 := N1.mv (Mv.same k3)
  replace N2 := N2.mv (Mv.same k3)
  generalize upd J2 c3 (.dK []) = J3 at k3 f3 f_B5 kp N1 N2 ⊢
  have N3 : Nt K t J3 (.ref c3) := ⟨.dct [], offp_dct0 f3 t3, rfl, fun _ z => (nomatch z)⟩
  refine ⟨(by show 1 ≤ sizeLine; decide), fun c4 n_c4 => ?_⟩
  have k4 := same_upd (o := .lst [V.int 1]) n_c4
  have t4 : c4 ≠ t := ne_tape kp.2 n_c4
  have f4 : (upd J3 c4 (.lst [V.int 1])) c4 = some (.lst [V.int 1]) := upd_same
  replace kp := kp.same k4
  replace f_B5 := k4 _ _ f_B5
  replace N1 := N1.mv (Mv.same k4)
  replace N2 := N2.mv (Mv.same k4)
  replace N3 := N3.mv (Mv.same k4)
  generalize upd J3 c4 (.lst [V.int 1]) = J4 at k4 f4 f_B5 kp N1 N2 N3 ⊢
  refine ⟨(by show 1 ≤ sizeLine; decide), fun c5 n_c5 => ?_⟩
  have k5 := same_upd (o := .lst [V.ref c4]) n_c5
  have t5 : c5 ≠ t := ne_tape kp.2 n_c5
  have f5 : (upd J4 c5 (.lst [V.ref c4])) c5 = some (.lst [V.ref c4]) := upd_same
  replace kp := kp.same k5
  replace f_B5 := k5 _ _ f_B5
  replace f4 := k5 _ _ f4
  replace N1 := N1.mv (Mv.same k5)
  replace N2 := N2.mv (Mv.same k5)
  replace N3 := N3.mv (Mv.same k5)
  generalize upd J4 c5 (.lst [V.ref c4]) = J5 at k5 f4 f5 f_B5 kp N1 N2 N3 ⊢
  have N5 : Nt K t J5 (.ref c5) := ⟨.lst [.lst [.int 1]], offp_lst f5 t5 (offpl_cons (offp_lst f4 t4 (offpl_cons offp_int offpl_nil)) offpl_nil), rfl, fun _ z => (nomatch z)⟩
  refine ⟨Nat.zero_le _, fun c6 n_c6 => ?_⟩
  have k6 := same_upd (o := .lst []) n_c6
  have t6 : c6 ≠ t := ne_tape kp.2 n_c6
  have f6 : (upd J5 c6 (.lst [])) c6 = some (.lst []) := upd_same
  replace kp := kp.same k6
  replace f_B5 := k6 _ _ f_B5
  replace N1 := N1.mv (Mv.same k6)
  replace N2 := N2.mv (Mv.same k6)
  replace N3 := N3.mv (Mv.same k6)
  replace N5 := N5.mv (Mv.same k6)
  generalize upd J5 c6 (.lst []) = J6 at k6 f6 f_B5 kp N1 N2 N3 N5 ⊢
  have N6 : Nt K t J6 (.ref c6) := ⟨.lst [], offp_lst f6 t6 offpl_nil, rfl, fun _ z => (nomatch z)⟩
  refine fun c7 n_c7 => ?_
  refine ⟨.str s, rfl, upd_same, [(.inr s, V.int 1)], rfl, (by show 1 ≤ 15; decide), ?_⟩
  rw [upd_upd]
  have k7 := same_upd (o := .dK (mergeK [] [(.inr s, V.int 1)])) n_c7
  have t7 : c7 ≠ t := ne_tape kp.2 n_c7
  have f7 : (upd J6 c7 (.dK (mergeK [] [(.inr s, V.int 1)]))) c7 = some (.dK (mergeK [] [(.inr s, V.int 1)])) := upd_same
  replace kp := kp.same k7
  replace f_B5 := k7 _ _ f_B5
  replace N1 := N1.mv (Mv.same k7)
  replace N2 := N2.mv (Mv.same k7)
  replace N3 := N3.mv (Mv.same k7)
  replace N5 := N5.mv (Mv.same k7)
  replace N6 := N6.mv (Mv.same k7)
  generalize upd J6 c7 (.dK (mergeK [] [(.inr s, V.int 1)])) = J7 at k7 f7 f_B5 kp N1 N2 N3 N5 N6 ⊢
  have N7 : Nt K t J7 (.ref c7) := ⟨.dct [(.inr s, .int 1)], offp_dct1 f7 t7 offp_int, rfl, fun _ z => (nomatch z)⟩
  refine ⟨(by show 10 ≤ sizeLine; decide), fun c8 n_c8 => ?_⟩
  have k8 := same_upd (o := .lst [V.non, V.int 5, V.ref c1, V.ref c2, V.ref c3, V.bl true, V.ref c5, V.ref c6, V.ref c7, V.int 0]) n_c8
  have f8 : (upd J7 c8 (.lst [V.non, V.int 5, V.ref c1, V.ref c2, V.ref c3, V.bl true, V.ref c5, V.ref c6, V.ref c7, V.int 0])) c8 = some (.lst [V.non, V.int 5, V.ref c1, V.ref c2, V.ref c3, V.bl true, V.ref c5, V.ref c6, V.ref c7, V.int 0]) := upd_same
  replace kp := kp.same k8
  replace f_B5 := k8 _ _ f_B5
  have p7 : ∀ x ∈ ([V.non, V.int 5, V.ref c1, V.ref c2, V.ref c3, V.bl true, V.ref c5, V.ref c6, V.ref c7, V.int 0] : List V), Nt K t (upd J7 c8 (.lst [V.non, V.int 5, V.ref c1, V.ref c2, V.ref c3, V.bl true, V.ref c5, V.ref c6, V.ref c7, V.int 0])) x := by
    refine List.forall_mem_cons.mpr ⟨⟨.non, offp_non, rfl, fun _ z => (nomatch z)⟩, List.forall_mem_cons.mpr ⟨⟨.int 5, offp_int, rfl, fun _ z => (nomatch z)⟩, List.forall_mem_cons.mpr ⟨N1.mv (Mv.same k8), List.forall_mem_cons.mpr ⟨N2.mv (Mv.same k8), List.forall_mem_cons.mpr ⟨N3.mv (Mv.same k8), ?_⟩⟩⟩⟩⟩
    exact List.forall_mem_cons.mpr ⟨⟨.bl true, offp_bl, rfl, fun _ z => (nomatch z)⟩, List.forall_mem_cons.mpr ⟨N5.mv (Mv.same k8), List.forall_mem_cons.mpr ⟨N6.mv (Mv.same k8), List.forall_mem_cons.mpr ⟨N7.mv (Mv.same k8), List.forall_mem_cons.mpr ⟨⟨.int 0, offp_int, rfl, fun _ z => (nomatch z)⟩, fun _ z => (nomatch z)⟩⟩⟩⟩⟩
  have l7 : ([V.non, V.int 5, V.ref c1, V.ref c2, V.ref c3, V.bl true, V.ref c5, V.ref c6, V.ref c7, V.int 0] : List V).length = 10 := rfl
  generalize ([V.non, V.int 5, V.ref c1, V.ref c2, V.ref c3, V.bl true, V.ref c5, V.ref c6, V.ref c7, V.int 0] : List V) = X7' at f8 p7 l7 kp f_B5 ⊢
  generalize upd J7 c8 (.lst X7') = J8 at f8 p7 kp f_B5 ⊢
  refine ⟨B5, c8, _, _, rfl, rfl, f_B5, f8, (by rw [lX5, l7]; decide), fun LL n_LL => ?_⟩
  have kL := same_upd (o := .lst (X5 ++ X7')) n_LL
  have tL' : LL ≠ t := ne_tape kp.2 n_LL
  have fL : (upd J8 LL (.lst (X5 ++ X7'))) LL = some (.lst (X5 ++ X7')) := upd_same
  replace kp := kp.same kL
  have all : ∀ x ∈ X5 ++ X7', Nt K t (upd J8 LL (.lst (X5 ++ X7'))) x := List.forall_mem_append.mpr ⟨fun x hx => let ⟨d, o, r⟩ := pX5 x hx; ⟨d, o.mv fun b u z _ => (nomatch z), r⟩, fun x hx => (p7 x hx).mv (Mv.same kL)⟩
  have len : (X5 ++ X7').length = 54 := by rw [List.length_append, lX5, l7]
  generalize upd J8 LL (.lst (X5 ++ X7')) = J9 at fL kp all ⊢
  generalize X5 ++ X7' = XA at fL all len ⊢
  obtain ⟨m4, hm4⟩ := id kp.2
  refine ⟨.ref LL, rfl, .ref t, rfl, .ref LL, rfl, LL, _, rfl, .inl (SqL.of fL), t, m4, _, rfl, hm4, by rw [len]; decide, by rw [len]; decide, fun i m5 i0 i1 => ?_⟩
  have hi : i.toNat < XA.length := by rw [len] at i1 ⊢; omega
  have kt : Kp t J9 (upd J9 t (.lst [.int m5])) := (Kp.refl kp.2).tape
  refine ⟨LL, _, i, XA[i.toNat], rfl, rfl, SqL.of (by rw [upd_ne tL']; exact fL), at_of (j := i.toNat) (by omega) (List.getElem?_eq_getElem hi), q _ _ (kp.trans kt) ?_⟩
  exact (all _ (List.getElem_mem hi)).mv fun b u z nb => kt.1 b u z nb
end
end Kp15
set_option Elab.async false
set_option linter.all false
set_option maxRecDepth 100000
set_option maxHeartbeats 1000000
namespace Kp15
open PySem PySem.Spec PyProof.Rows L2 Vf
/-! ### the law -/
open _root_.TL
def sp_law (K : PySem.W.Frag) : Sp := fun vs H Q _ => ∃ (a : Addr) (ns : List Int), vs = [.ref a] ∧ SqL K H a (ns.map V.int) ∧ ∀ H' : Hp, Q (.bl true) H'
theorem tl_tabTxt {tb : List (List Int)} {n w : Nat} (G : TabG tb n w) : tl (tabTxt tb) = tabN tb := by
  unfold tabTxt
  rw [join_eq, tl_join, tl_semi, List.map_map]
  unfold tabN
  congr 1
  refine List.map_congr_left fun r hr => ?_
  show tl (rowTxt r) = rowN r
  unfold rowTxt
  rw [join_eq, tl_join, tl_blank, List.map_map]
  unfold rowN
  congr 1
  exact List.map_congr_left fun y hy => tl_num0 ((G.row r hr).2 y hy).1
/-- what is handed in, as data off the tape -/
theorem as_data {K : PySem.W.Frag} {t : Addr} {H0 H : Hp} (tp : Tp H0 t) : ∀ {bs : List Addr} {tb : List (List Int)}, RowsV H0 H bs (rowsV tb) → (∀ r ∈ tb, r.length ≤ 12 ∧ ∀ y ∈ r, 0 ≤ y ∧ y ≤ 1000000000000) →
    ∃ ds : List Dt, OffPL K (S1 t) H (bs.map V.ref) ds ∧ ds.map Dt.items = tb.map (fun r => some (r.map Dt.int)) ∧ ∀ d ∈ ds, sm 1 d = true
  | _, [], r, _ => by cases r; exact ⟨[], offpl_nil, rfl, fun _ z => nomatch z⟩
  | _, u :: tb, r, h => by
    cases r with
    | cons h1 h2 r =>
      obtain ⟨ds, o, e, f⟩ := as_data (K := K) tp r fun x hx => h x (List.mem_cons_of_mem _ hx)
      obtain ⟨l12, b⟩ := h u List.mem_cons_self
      have ofInts : ∀ ns : List Int, OffPL K (S1 t) H (ns.map V.int) (ns.map Dt.int) := fun ns => by
        induction ns with
        | nil => exact offpl_nil
        | cons n ns ih => exact offpl_cons offp_int ih
      have smi : (u.map Dt.int).all (sm 0) = true := sm_all (k := 0) (ns := u) b
      rcases h2 with h2 | h2
      · refine ⟨.lst (u.map Dt.int) :: ds, offpl_cons (offp_lst h2 (ne_tape tp h1) (ofInts u)) o, by rw [List.map_cons, e]; rfl, fun d hd => ?_⟩
        rcases List.mem_cons.mp hd with rfl | hd
        · show (decide ((u.map Dt.int).length ≤ 12) && (u.map Dt.int).all (sm 0)) = true
          rw [smi, List.length_map, decide_eq_true l12]; rfl
        · exact f d hd
      · refine ⟨.tup (u.map Dt.int) :: ds, offpl_cons (offp_tup h2 (ne_tape tp h1) (ofInts u)) o, by rw [List.map_cons, e]; rfl, fun d hd => ?_⟩
        rcases List.mem_cons.mp hd with rfl | hd
        · show (decide ((u.map Dt.int).length ≤ 12) && (u.map Dt.int).all (sm 0)) = true
          rw [smi, List.length_map, decide_eq_true l12]; rfl
        · exact f d hd
theorem handed_data {K : PySem.W.Frag} {t p : Addr} {H0 H : Hp} {bs : List Addr} {tb : List (List Int)} {n w : Nat} (tp : Tp H0 t) (np : H0 p = none) (hp : H p = some (.lst (bs.map V.ref)) ∨ H p = some (.tup (bs.map V.ref))) (r : RowsV H0 H bs (rowsV tb)) (G : TabG tb n w) :
    ∃ d : Dt, OffP K (S1 t) H (.ref p) d ∧ isForm d = true ∧ formOf d = tb ∧ sm 2 d = true := by
  have n6 := G.n6
  have w6 := G.w6
  have gl := G.len
  obtain ⟨ds, o, e, f⟩ := as_data (K := K) tp r fun r hr => ⟨by have := (G.row r hr).1; omega, (G.row r hr).2⟩
  have dl : ds.length = tb.length := by have := congrArg List.length e; rwa [List.length_map, List.length_map] at this
  have smd : (decide (ds.length ≤ 12) && ds.all (sm 1)) = true := by rw [List.all_eq_true.mpr f, decide_eq_true (by omega)]; rfl
  have G' := G
  rcases hp with hp | hp
  · exact ⟨.lst ds, offp_lst hp (ne_tape tp np) o, form_ok (l := ds) rfl e (by rw [gl]; exact G.n1) (by rw [gl]; exact n6) G.w1 w6 G.row, formOf_items (l := ds) rfl e, smd⟩
  · exact ⟨.tup ds, offp_tup hp (ne_tape tp np) o, form_ok (l := ds) rfl e (by rw [gl]; exact G.n1) (by rw [gl]; exact n6) G.w1 w6 G.row, formOf_items (l := ds) rfl e, smd⟩
theorem rowsN_q {K : PySem.W.Frag} {H : Hp} : ∀ {ls : List Addr} {tb : List (List Int)}, RowsN H ls tb → RowsQ K H ls (rowsV tb)
  | _, _, .nil => .nil
  | _, _, .cons h r => .cons (SqL.of h) (rowsN_q r)
theorem ln2' : ln 2 ≤ sizeLine := by decide
theorem ifT {c : Bool} {A B : Prop} (h : c = true) (a : A) : if c = true then A else B := by rw [if_pos h]; exact a
theorem ifF {c : Bool} {A B : Prop} (h : c = false) (b : B) : if c = true then A else B := by rw [if_neg (by rw [h]; decide)]; exact b
section
variable {P : Program} {w : World} {K : PySem.W.Frag} {mg : Str → Option Value} {base : Heap} {C : Nat → Addr} {tG tL : Tok}
theorem sc_law : FnScope ["_law_script", "_law_k", "_law_tape_here", "_law_table_here", "_law_text", "_law_handed", "_law_kept", "_law_turn", "_law_told"] ["_law_script"] (defScope s_law) :=
  ⟨rfl, rfl, rfl, by decide +kernel, rfl, by decide +kernel, by decide +kernel⟩
theorem ok_law {f : Addr} {fd : FuncData} (F : Fun K "law" "law" s_law f fd) (T : Txt K mg C tG tL) (SM : SysD base) (c_l_cell_at : Cal P w K mg base CX0 1 "_law_cell_at" ["_law_script", "_law_k"] (sp_cell_at K)) (c_l_tape : Cal P w K mg base CX0 1 "_law_tape" ["_law_cell"] sp_tape)
    (c_l_table : Cal P w K mg base CX0 3 "_law_table" ["_law_tape_here"] sp_ltable) (c_l_written : Cal P w K mg base CX0 1 "_law_written" ["_law_table_here"] (sp_written K)) (c_l_as : Cal P w K mg base CX0 2 "_law_as" ["_law_tape_here", "_law_rows"] (sp_as K))
    (c_read_table : Cal P w K mg base (L2N.CX P w) 5 "read_table" ["text"] (sp_read_table K (C 5))) (c_table_text : Cal P w K mg base (L2N.CX P w) 6 "table_text" ["table"] (sp_table_text K (C 2)))
    (c_l_bad : Cal P w K mg base CX0 2 "_law_bad" ["_law_tape_here", "_law_table_here"] (sp_bad K)) (c_l_refused : Cal P w K mg base CX0 6 "_law_refused" ["_law_thing"] (sp_refused K)) (c_l_otherwise : Cal P w K mg base CX0 3 "_law_otherwise" ["_law_tape_here", "_law_text"] sp_otherwise) (c_l_read_right : CalG P w K mg base 7 "_law_read_right" ["_law_text"] sp_right) : FnG P w K mg base 8 f fd ["_law_script"] (sp_law K) := by
  refine funOkG F sc_law (fun vs H Q E ⟨a, ns, e, _⟩ => by rw [e]; rfl) (fun cdv A outer s H vs Q E hr h => ?_)
  obtain ⟨a, ns, rfl, hS, q⟩ := h
  refine ⟨_, (pss_cons (ps_for PassesOwn.never rfl (pi_range1 (by rfl) T.n_range (pa_cons (pe_callB (call_max2 rfl) (by rfl) T.n_max (by decide +kernel) (pa_cons pe_int (pa_cons (pe_callB (call_min2 rfl) (by rfl) T.n_min (by decide +kernel) (pa_cons (pe_callB (len_ofK (K := K) rfl) (by rfl) T.n_len (by decide +kernel) (pa_cons (pv 0) pa_nil)) (pa_cons pe_int pa_nil))) pa_nil))) pa_nil))
  (pg_name (i := 1) sc_law.nd rfl (by first | exact Or.inl rfl | exact Or.inr rfl))
  (pss_cons (ps_set (i := 2) sc_law.nd rfl (by first | exact Or.inl rfl | exact Or.inr rfl) (pe_cal c_l_tape (hr.r.mono (by decide)) (by rfl) pass0 (pa_cons (pe_op op_add (pe_cal c_l_cell_at (hr.r.mono (by decide)) (by rfl) pass0 (pa_cons (pv 0) (pa_cons (pv 1) pa_nil))) (pv 1)) pa_nil)))
  (pss_cons (ps_set (i := 3) sc_law.nd rfl (by first | exact Or.inl rfl | exact Or.inr rfl) (pe_cal c_l_table (hr.r.mono (by decide)) (by rfl) pass0 (pa_cons (pv 2) pa_nil)))
  (pss_cons (ps_set (i := 4) sc_law.nd rfl (by first | exact Or.inl rfl | exact Or.inr rfl) (pe_cal c_l_written (hr.r.mono (by decide)) (by rfl) pass0 (pa_cons (pv 3) pa_nil)))
  (pss_cons (ps_set (i := 5) sc_law.nd rfl (by first | exact Or.inl rfl | exact Or.inr rfl) (pe_cal c_l_as (hr.r.mono (by decide)) (by rfl) pass0 (pa_cons (pv 2) (pa_cons (pv 3) pa_nil))))
  (pss_cons (ps_set (i := 6) sc_law.nd rfl (by first | exact Or.inl rfl | exact Or.inr rfl) (pe_callB (reprAK (K := K) rfl SM hr.g hr.r.units) (by rfl) T.n_repr (by decide +kernel) (pa_cons (pv 5) pa_nil)))
  (pss_cons (ps_for PassesOwn.never rfl (pi_range1 (by rfl) T.n_range (pa_cons pe_int pa_nil))
  (pg_name (i := 7) sc_law.nd rfl (by first | exact Or.inl rfl | exact Or.inr rfl))
  (pss_cons (ps_set (i := 8) sc_law.nd rfl (by first | exact Or.inl rfl | exact Or.inr rfl) (pe_cal c_read_table (hr.r.mono (by decide)) (by rfl) passN (pa_cons (pv 4) pa_nil)))
  (pss_cons (ps_if (PW.pt (pw_or (pt_cmpR op_ne (pe_cal c_table_text (hr.r.mono (by decide)) (by rfl) passN (pa_cons (pv 5) pa_nil)) (pv 4) (nomark _)) (pw_or1 (pt_cmpR op_ne (pe_callB (reprAK (K := K) rfl SM hr.g hr.r.units) (by rfl) T.n_repr (by decide +kernel) (pa_cons (pv 8) pa_nil)) (pe_callB (reprAK (K := K) rfl SM hr.g hr.r.units) (by rfl) T.n_repr (by decide +kernel) (pa_cons (pv 3) pa_nil)) (nomark _)))))
  (pss_one (ps_ret pe_bl))
  pss_nil)
  (pss_cons (ps_expr (pe_bm0 PySem.F.plainAttrs_list PySem.F.slot_list_clear PySem.F.type_list_clear mt_clear (pe_ix (ix_listK (K := K) rfl) (pv 8) pe_int (fun _ _ => rfl))))
  (pss_one (ps_expr (pe_bm PySem.F.plainAttrs_list PySem.F.slot_list_append PySem.F.type_list_append mt_append (pv 8) (pa_cons (pe_lst pa_nil) pa_nil))))))))
  (pss_cons (ps_for PassesOwn.never rfl (pi_range1 (by rfl) T.n_range (pa_cons pe_int pa_nil))
  (pg_name (i := 7) sc_law.nd rfl (by first | exact Or.inl rfl | exact Or.inr rfl))
  (pss_one (ps_if (pt_not (pt_val (pe_cal c_l_refused (hr.r.mono (by decide)) (by rfl) pass0 (pa_cons (pe_cal c_l_bad (hr.r.mono (by decide)) (by rfl) pass0 (pa_cons (pv 2) (pa_cons (pv 3) pa_nil))) pa_nil))))
  (pss_one (ps_ret pe_bl))
  pss_nil)))
  (pss_cons (ps_for PassesOwn.never rfl (pi_range1 (by rfl) T.n_range (pa_cons pe_int pa_nil))
  (pg_name (i := 7) sc_law.nd rfl (by first | exact Or.inl rfl | exact Or.inr rfl))
  (pss_one (ps_if (pt_not (pt_val (pe_calG c_l_read_right (hr.mono (by decide)) (by rfl) (pa_cons (pe_cal c_l_otherwise (hr.r.mono (by decide)) (by rfl) pass0 (pa_cons (pv 2) (pa_cons (pv 4) pa_nil))) pa_nil))))
  (pss_one (ps_ret pe_bl))
  pss_nil)))
  (pss_one (ps_if (pt_cmpR op_ne (pe_callB (reprAK (K := K) rfl SM hr.g hr.r.units) (by rfl) T.n_repr (by decide +kernel) (pa_cons (pv 5) pa_nil)) (pv 6) (nomark _))
  (pss_one (ps_ret pe_bl))
  pss_nil)))))))))))
  (pss_one (ps_ret pe_bl))), ?_⟩
  refine ⟨.ref a, rfl, a, _, rfl, .inl hS, _, _, rfl, _, _, rfl, _, rfl, ?_, ?_, ?_⟩
  · split <;> split <;> omega
  · split <;> split <;> omega
  generalize Int.toNat _ = n
  refine for_range (n := n) (fun i σ H' => Same H H' ∧ ∃ v1 v2 v3 v4 v5 v6 v7 v8, σ = [some (.ref a), v1, v2, v3, v4, v5, v6, v7, v8]) ⟨Same.refl _, none, none, none, none, none, none, none, none, rfl⟩ (fun i σ H0 hi pv => ?_) (fun σ H' pv => ?_)
  rotate_left
  · obtain ⟨s5, v1, v2, v3, v4, v5, v6, v7, v8, rfl⟩ := pv
    exact q H'
  obtain ⟨s0, v1, v2, v3, v4, v5, v6, v7, v8, rfl⟩ := pv
  refine ⟨.ref a, rfl, .int (0 + (i : Int)), rfl, a, ns, i, by rw [Int.zero_add], s0.seq hS, .int (0 + (i : Int)), rfl, _, _, rfl, rfl, _, rfl, fun H1 t m0 s1 nt ht => ?_⟩
  have nt0 : H t = none := s0.free nt
  have tp1 : Tp H1 t := ⟨m0, ht⟩
  refine ⟨.ref t, rfl, t, rfl, tp1, fun H2 p ls tb nn ww k2 np TB G => ?_⟩
  refine ⟨.ref p, rfl, p, ls, tb, nn, ww, rfl, SqL.of TB.at_, TB.rows, G, fun txt H3 s3 ht3 lt3 => ?_⟩
  have fT : fitS txt := show txt.length ≤ 2000 by omega
  have okT : readOk (tl txt) = true := by rw [ht3]; exact readOk_tabN G
  have rdT : readT (tl txt) = tb := by rw [ht3]; exact readT_tabN G
  have eT : txt = tabTxt tb := ext_tl (by rw [ht3, tl_tabTxt G])
  have k3 := k2.same s3
  have TB3 := TB.same s3
  refine ⟨.ref t, rfl, .ref p, rfl, t, p, ls, rowsV tb, rfl, k3.2, SqL.of TB3.at_, rowsN_q TB3.rows, by have := TB3.rows.length; have := G.len; have := G.n6; omega, TB3.np, TB3.nl, fun H4 h4 bs k4 nh4 hh4 rv4 hb4 => ?_⟩
  obtain ⟨dh, oh, fh, foh, sh⟩ := handed_data (K := K) k3.2 nh4 hh4 rv4 G
  have k14 := k3.trans k4
  have TB4 := TB3.kp k4
  obtain ⟨zh1, zh2, zh3⟩ := sm_show 2 _ sh
  obtain ⟨zg1, zg2, zg3⟩ := sm_show 2 _ G.sm
  have RH4 := (oh.off rfl).rp k4.2
  refine ⟨.ref h4, rfl, h4, dh, rfl, RH4, zh1, Nat.le_trans zh2 (by decide), Nat.le_trans zh3 ln2', ?_⟩
  have zB2 : dh.py.depth ≤ 60 := Nat.le_trans zh2 (by decide)
  -- read, told, spoilt, twice
  refine ⟨2, rfl, by decide, by decide, for_range (n := Int.toNat 2) (fun j σ H' => Same H4 H' ∧ ∃ w7 w8, σ = [some (.ref a), some (.int (0 + (i : Int))), some (.ref t), some (.ref p), some (.str txt), some (.ref h4), some (.str dh.py.shown), w7, w8]) ⟨Same.refl _, _, _, rfl⟩ (fun j σ H5 hj pv => ?_) (fun σ H5 pv => ?_)⟩
  · obtain ⟨s5, w7, w8, rfl⟩ := pv
    refine ⟨.str txt, rfl, .str txt, .str txt, rfl, .str txt, (fun z hz => by injection hz with hz; rw [← hz]; exact fT), (fun z => by have e : txtOk (.str txt) = true := okT; rw [e] at z; cases z), fun s' es ok' H6 D ls6 s6 nD hD hrows hne => ?_⟩
    obtain rfl : txt = s' := by injection es
    rw [rdT] at hrows
    have g6 := s5.trans s6
    refine ⟨.ref h4, rfl, .ref h4, dh, rfl, RH4.same g6, (fun z => by rw [fh] at z; cases z), fun _ H7 s7 => ⟨.str txt, rfl, rfl, _, rfl, ifF (by rw [foh, ← eT, decide_eq_true rfl]; rfl) ?_⟩⟩
    have hD7 := s7 _ _ hD
    have g7 := g6.trans s7
    have R7 : Rp K H7 (.ref D) (gridD tb) := .lst (SqL.of hD7) ((rowsF_rp hrows).same s7)
    have T7 : Rp K H7 (.ref p) (gridD tb) := .lst (SqL.of (g7 _ _ TB4.at_)) (rowsN_rp (TB4.rows.same g7))
    refine ⟨.ref D, rfl, D, gridD tb, rfl, R7, zg1, Nat.le_trans zg2 (by decide), Nat.le_trans zg3 ln2', .ref p, rfl, p, gridD tb, rfl, T7, zg1, Nat.le_trans zg2 (by decide), Nat.le_trans zg3 ln2', rfl, _, rfl, ifF (by rw [decide_eq_true rfl]; rfl) ?_⟩
    obtain ⟨r0, tb', etb, -⟩ := G.head
    obtain ⟨k0, ls', els, nk0, hk0⟩ : ∃ k0 ls', ls6 = k0 :: ls' ∧ H5 k0 = none ∧ H6 k0 = some (.lst (r0.map V.int)) := by
      rw [etb] at hrows
      cases hrows with
      | cons h1 h2 r => exact ⟨_, _, rfl, h1, h2⟩
    have k0D : k0 ≠ D := hne k0 (by rw [els]; exact List.mem_cons_self)
    have hk7 := s7 _ _ hk0
    refine ⟨.ref D, rfl, D, _, 0, .ref k0, rfl, rfl, SqL.of hD7, atI_nat (j := 0) (by rw [els]; rfl), .inl ⟨rfl, _, SqL.of hk7⟩, k0, _, rfl, rfl, hk7, ?_⟩
    have hD8 : (upd H7 k0 (.lst [])) D = some (.lst (ls6.map V.ref)) := by rw [upd_ne k0D.symm]; exact hD7
    refine ⟨.ref D, rfl, .inl ⟨rfl, _, SqL.of hD8⟩, Nat.zero_le _, fun l nl => ?_⟩
    have kl := same_upd (o := .lst []) nl
    have l6 : ls6.length ≤ 6 := by rw [hrows.length]; unfold rowsV; rw [List.length_map, G.len]; exact G.n6
    refine ⟨D, _, _, rfl, rfl, kl _ _ hD8, by rw [List.length_map]; exact Nat.lt_of_le_of_lt l6 (by decide), fun b o e => ?_, _, _, rfl⟩
    have e5 := s5 _ _ e
    rw [upd_ne (ne_of_none e5 nD)]
    refine kl _ _ ?_
    rw [upd_ne (ne_of_none e5 nk0)]
    exact g7 _ _ e
  obtain ⟨s5, w7, w8, rfl⟩ := pv
  have k5 : Kp t H4 H5 := (Kp.refl k4.2).same s5
  -- refused, four times
  refine ⟨4, rfl, by decide, by decide, for_range (n := Int.toNat 4) (fun j σ H' => Kp t H4 H' ∧ ∃ w7 w8, σ = [some (.ref a), some (.int (0 + (i : Int))), some (.ref t), some (.ref p), some (.str txt), some (.ref h4), some (.str dh.py.shown), w7, w8]) ⟨k5, _, _, rfl⟩ (fun j σ H6 hj pv => ?_) (fun σ H6 pv => ?_)⟩
  · obtain ⟨k6, w7, w8, rfl⟩ := pv
    refine ⟨.ref t, rfl, .ref p, rfl, t, p, ls, tb, nn, ww, rfl, k6.2, TB4.kp k6, G, fun H7 x k7 ⟨d, od, nd, fd⟩ => ?_⟩
    refine ⟨x, d, rfl, (od.off rfl).rp k7.2, fd, fun H8 s8 => ⟨_, rfl, ?_⟩⟩
    rw [nd]
    exact ⟨(k6.trans k7).same s8, _, _, rfl⟩
  obtain ⟨k6, w7, w8, rfl⟩ := pv
  -- read otherwise, twice
  refine ⟨2, rfl, by decide, by decide, for_range (n := Int.toNat 2) (fun j σ H' => Kp t H4 H' ∧ ∃ w7 w8, σ = [some (.ref a), some (.int (0 + (i : Int))), some (.ref t), some (.ref p), some (.str txt), some (.ref h4), some (.str dh.py.shown), w7, w8]) ⟨k6, _, _, rfl⟩ (fun j σ H7 hj pv => ?_) (fun σ H7 pv => ?_)⟩
  · obtain ⟨k7, w7, w8, rfl⟩ := pv
    refine ⟨.ref t, rfl, .str txt, rfl, t, txt, rfl, k7.2, lt3, fun u H8 fu k8 => ⟨u, rfl, fu, fun H9 s9 => ⟨true, rfl, ?_⟩⟩⟩
    exact ⟨(k7.trans k8).same s9, _, _, rfl⟩
  obtain ⟨k7, w7, w8, rfl⟩ := pv
  refine ⟨.ref h4, rfl, h4, dh, rfl, ((oh.off rfl).kp k7).rp k7.2, zh1, Nat.le_trans zh2 (by decide), Nat.le_trans zh3 ln2', .str dh.py.shown, rfl, rfl, _, rfl, ifF (by rw [decide_eq_true rfl]; rfl) ?_⟩
  have kE := k14.trans k7
  exact ⟨fun c o e => kE.1 _ _ (s1 _ _ (s0 _ _ e)) (ne_of_none e nt0), _, _, _, _, _, _, _, _, rfl⟩
end
end Kp15
set_option Elab.async false
set_option linter.all false
set_option maxRecDepth 100000
set_option maxHeartbeats 1000000
namespace Kp15
open PySem PySem.Spec PyProof.Rows L2 Vf
/-! ### what the top has written -/
structure ExcK (K : PySem.W.Frag) (nm : Str) (C TE : Addr) : Prop where
  g : PySem.W.nsIn K mainGlobals nm = some (some (.ref C))
  x : PySem.W.excIn K C veMro "ValueError.__new__" = true
  k : PySem.W.keepIn K (.ref C) = true
  t : PySem.W.typeIn K (.ref C) = some (.type "type")
  hg : PySem.W.findIn K (.ref C) "__getattribute__" = some (some (.builtin "BaseException.__getattribute__"))
  hk : PySem.W.findIn K (.ref C) "__getattr__" = some none
  hs : PySem.W.subIn K (.ref C) (.type "BaseException") = some true
  hd : PySem.W.hasDictIn K C = true
  ha : PySem.W.findIn K (.ref C) "__class__" = some (some (.builtin "object.__class__"))
  hm : PySem.W.mroIn K C (.type "object") = some true
  m : ∃ cd, PySem.W.clsIn K C = some cd ∧ cd.mro = .ref C :: .ref TE :: veMro
theorem ExcK.f {K : PySem.W.Frag} {nm : Str} {C TE : Addr} {h : Heap} {mg : Str → Option Value} (E : ExcK K nm C TE) (X : K.In h) (G : h.Ns mainGlobals mg) (hn : PySem.W.specialIn K (.builtin "object.__class__") "__get__" = some (some (.builtin "getset_descriptor.__get__")))
    (ht : PySem.W.takesIn K (.builtin "object.__class__") = some true) : ExcF K mg nm C TE := ⟨PySem.W.mg_of X G E.g, E.x, E.k, E.t, ⟨E.hg, E.hk, E.hs, E.hd, E.ha, hn, ht, E.hm⟩, E.m⟩
structure FrK (K : PySem.W.Frag) (CF : Addr) : Prop where
  g : PySem.W.nsIn K mainGlobals "Frame" = some (some (.ref CF))
  pg : PySem.W.plainGet K CF Str.empty = true
  hd : PySem.W.hasDictIn K CF = true
  po : PySem.W.plainOver K CF = true
  sa : PySem.W.findIn K (.ref CF) "__setattr__" = some (some (.builtin "object.__setattr__"))
  nr : PySem.W.findIn K (.ref CF) "row_sums" = some none
  nc : PySem.W.findIn K (.ref CF) "column_sums" = some none
  nk : PySem.W.findIn K (.ref CF) "cell_caps" = some none

theorem inj_nodup {l : List Addr} {n : Nat} (h : l.Nodup) (e : l.length = n) : ∀ i j, i < n → j < n → l.getD i 0 = l.getD j 0 → i = j := fun i j hi hj z => by
  subst e
  rw [List.getD_eq_getElem?_getD, List.getD_eq_getElem?_getD, List.getElem?_eq_getElem hi, List.getElem?_eq_getElem hj] at z
  exact (List.getElem_inj h).mp z
theorem all_mk {l : PySem.W.OpenLaw} {w : World} {K : PySem.W.Frag} {h : Heap} {mg : Str → Option Value} {fa : Addr} {q0 q1 q2 q3 q4 q5 q6 q7 q8 q9 q10 q11 : Addr} (X : K.In h) (G : h.Ns mainGlobals mg) (hfa : mg "law" = some (.ref fa)) (hG : ∃ t, mg "GREATEST" = some (.int 1000000000000 t)) {tL : Tok}
    {od0 an0 : Option Addr} {sl0 : Array (Option Value)} {oc0 kV0 dc0 pm0 cd0 ct0 : Value} {f0 : Addr}
    {od1 an1 : Option Addr} {sl1 : Array (Option Value)} {oc1 kV1 dc1 pm1 cd1 ct1 : Value} {f1 : Addr}
    {od2 an2 : Option Addr} {sl2 : Array (Option Value)} {oc2 kV2 dc2 pm2 cd2 ct2 : Value} {f2 : Addr}
    {od3 an3 : Option Addr} {sl3 : Array (Option Value)} {oc3 kV3 dc3 pm3 cd3 ct3 : Value} {f3 : Addr}
    {od4 an4 : Option Addr} {sl4 : Array (Option Value)} {oc4 kV4 dc4 pm4 cd4 ct4 : Value} {f4 : Addr}
    {od5 an5 : Option Addr} {sl5 : Array (Option Value)} {oc5 kV5 dc5 pm5 cd5 ct5 : Value} {f5 : Addr}
    {od6 an6 : Option Addr} {sl6 : Array (Option Value)} {oc6 kV6 dc6 pm6 cd6 ct6 : Value} {f6 : Addr}
    {od7 an7 : Option Addr} {sl7 : Array (Option Value)} {oc7 kV7 dc7 pm7 cd7 ct7 : Value} {f7 : Addr}
    {od8 an8 : Option Addr} {sl8 : Array (Option Value)} {oc8 kV8 dc8 pm8 cd8 ct8 : Value} {f8 : Addr}
    {od9 an9 : Option Addr} {sl9 : Array (Option Value)} {oc9 kV9 dc9 pm9 cd9 ct9 : Value} {f9 : Addr}
    {od10 an10 : Option Addr} {sl10 : Array (Option Value)} {oc10 kV10 dc10 pm10 cd10 ct10 : Value} {f10 : Addr}
    {od11 an11 : Option Addr} {sl11 : Array (Option Value)} {oc11 kV11 dc11 pm11 cd11 ct11 : Value} {f11 : Addr}
    {od12 an12 : Option Addr} {sl12 : Array (Option Value)} {oc12 kV12 dc12 pm12 cd12 ct12 : Value} {f12 : Addr}
    {od13 an13 : Option Addr} {sl13 : Array (Option Value)} {oc13 kV13 dc13 pm13 cd13 ct13 : Value} {f13 : Addr}
    {od14 an14 : Option Addr} {sl14 : Array (Option Value)} {oc14 kV14 dc14 pm14 cd14 ct14 : Value} {f14 : Addr}
    {od15 an15 : Option Addr} {sl15 : Array (Option Value)} {oc15 kV15 dc15 pm15 cd15 ct15 : Value} {f15 : Addr}
    {od16 an16 : Option Addr} {sl16 : Array (Option Value)} {oc16 kV16 dc16 pm16 cd16 ct16 : Value} {f16 : Addr}
    {od17 an17 : Option Addr} {sl17 : Array (Option Value)} {oc17 kV17 dc17 pm17 cd17 ct17 : Value} {f17 : Addr}
    {od18 an18 : Option Addr} {sl18 : Array (Option Value)} {oc18 kV18 dc18 pm18 cd18 ct18 : Value} {f18 : Addr}
    {od19 an19 : Option Addr} {sl19 : Array (Option Value)} {oc19 kV19 dc19 pm19 cd19 ct19 : Value} {f19 : Addr}
    {od20 an20 : Option Addr} {sl20 : Array (Option Value)} {oc20 kV20 dc20 pm20 cd20 ct20 : Value} {f20 : Addr}
    {od21 an21 : Option Addr} {sl21 : Array (Option Value)} {oc21 kV21 dc21 pm21 cd21 ct21 : Value} {f21 : Addr}
    {od22 an22 : Option Addr} {sl22 : Array (Option Value)} {oc22 kV22 dc22 pm22 cd22 ct22 : Value} {f22 : Addr}
    {od23 an23 : Option Addr} {sl23 : Array (Option Value)} {oc23 kV23 dc23 pm23 cd23 ct23 : Value} {f23 : Addr}
    {od24 an24 : Option Addr} {sl24 : Array (Option Value)} {oc24 kV24 dc24 pm24 cd24 ct24 : Value} {f24 : Addr}
    {od25 an25 : Option Addr} {sl25 : Array (Option Value)} {oc25 kV25 dc25 pm25 cd25 ct25 : Value} {f25 : Addr}
    {od26 an26 : Option Addr} {sl26 : Array (Option Value)} {oc26 kV26 dc26 pm26 cd26 ct26 : Value} {f26 : Addr}
    {od27 an27 : Option Addr} {sl27 : Array (Option Value)} {oc27 kV27 dc27 pm27 cd27 ct27 : Value} {f27 : Addr}
    {od28 an28 : Option Addr} {sl28 : Array (Option Value)} {oc28 kV28 dc28 pm28 cd28 ct28 : Value} {f28 : Addr}
    {od29 an29 : Option Addr} {sl29 : Array (Option Value)} {oc29 kV29 dc29 pm29 cd29 ct29 : Value} {f29 : Addr}
    (a0 : PySem.W.nsIn K mainGlobals "is_whole" = some (some (.ref f0))) (l0 : K.lookup f0 = some ⟨oc0, od0, .func (PySem.W.fnOf "is_whole" "is_whole" (defArgs s_is_whole) (defBody s_is_whole) (defScope s_is_whole) .none kV0 dc0 pm0 an0 cd0 ct0), sl0⟩) (c0 : PySem.W.codeIn K cd0 "is_whole" = true) (k0 : PySem.W.keepIn K (.ref f0) = true)
    (a1 : PySem.W.nsIn K mainGlobals "is_count" = some (some (.ref f1))) (l1 : K.lookup f1 = some ⟨oc1, od1, .func (PySem.W.fnOf "is_count" "is_count" (defArgs s_is_count) (defBody s_is_count) (defScope s_is_count) .none kV1 dc1 pm1 an1 cd1 ct1), sl1⟩) (c1 : PySem.W.codeIn K cd1 "is_count" = true) (k1 : PySem.W.keepIn K (.ref f1) = true)
    (a2 : PySem.W.nsIn K mainGlobals "is_list" = some (some (.ref f2))) (l2 : K.lookup f2 = some ⟨oc2, od2, .func (PySem.W.fnOf "is_list" "is_list" (defArgs s_is_list) (defBody s_is_list) (defScope s_is_list) .none kV2 dc2 pm2 an2 cd2 ct2), sl2⟩) (c2 : PySem.W.codeIn K cd2 "is_list" = true) (k2 : PySem.W.keepIn K (.ref f2) = true)
    (a3 : PySem.W.nsIn K mainGlobals "is_short_list" = some (some (.ref f3))) (l3 : K.lookup f3 = some ⟨oc3, od3, .func (PySem.W.fnOf "is_short_list" "is_short_list" (defArgs s_is_short_list) (defBody s_is_short_list) (defScope s_is_short_list) .none kV3 dc3 pm3 an3 cd3 ct3), sl3⟩) (c3 : PySem.W.codeIn K cd3 "is_short_list" = true) (k3 : PySem.W.keepIn K (.ref f3) = true)
    (a4 : PySem.W.nsIn K mainGlobals "are_counts" = some (some (.ref f4))) (l4 : K.lookup f4 = some ⟨oc4, od4, .func (PySem.W.fnOf "are_counts" "are_counts" (defArgs s_are_counts) (defBody s_are_counts) (defScope s_are_counts) .none kV4 dc4 pm4 an4 cd4 ct4), sl4⟩) (c4 : PySem.W.codeIn K cd4 "are_counts" = true) (k4 : PySem.W.keepIn K (.ref f4) = true)
    (a5 : PySem.W.nsIn K mainGlobals "has_table_form" = some (some (.ref f5))) (l5 : K.lookup f5 = some ⟨oc5, od5, .func (PySem.W.fnOf "has_table_form" "has_table_form" (defArgs s_has_table_form) (defBody s_has_table_form) (defScope s_has_table_form) .none kV5 dc5 pm5 an5 cd5 ct5), sl5⟩) (c5 : PySem.W.codeIn K cd5 "has_table_form" = true) (k5 : PySem.W.keepIn K (.ref f5) = true)
    (a6 : PySem.W.nsIn K mainGlobals "wanted_table" = some (some (.ref f6))) (l6 : K.lookup f6 = some ⟨oc6, od6, .func (PySem.W.fnOf "wanted_table" "wanted_table" (defArgs s_wanted_table) (defBody s_wanted_table) (defScope s_wanted_table) .none kV6 dc6 pm6 an6 cd6 ct6), sl6⟩) (c6 : PySem.W.codeIn K cd6 "wanted_table" = true) (k6 : PySem.W.keepIn K (.ref f6) = true)
    (a7 : PySem.W.nsIn K mainGlobals "row_text" = some (some (.ref f7))) (l7 : K.lookup f7 = some ⟨oc7, od7, .func (PySem.W.fnOf "row_text" "row_text" (defArgs s_row_text) (defBody s_row_text) (defScope s_row_text) .none kV7 dc7 pm7 an7 cd7 ct7), sl7⟩) (c7 : PySem.W.codeIn K cd7 "row_text" = true) (k7 : PySem.W.keepIn K (.ref f7) = true)
    (a8 : PySem.W.nsIn K mainGlobals "table_text" = some (some (.ref f8))) (l8 : K.lookup f8 = some ⟨oc8, od8, .func (PySem.W.fnOf "table_text" "table_text" (defArgs s_table_text) (defBody s_table_text) (defScope s_table_text) .none kV8 dc8 pm8 an8 cd8 ct8), sl8⟩) (c8 : PySem.W.codeIn K cd8 "table_text" = true) (k8 : PySem.W.keepIn K (.ref f8) = true)
    (a9 : PySem.W.nsIn K mainGlobals "is_number_text" = some (some (.ref f9))) (l9 : K.lookup f9 = some ⟨oc9, od9, .func (PySem.W.fnOf "is_number_text" "is_number_text" (defArgs s_is_number_text) (defBody s_is_number_text) (defScope s_is_number_text) .none kV9 dc9 pm9 an9 cd9 ct9), sl9⟩) (c9 : PySem.W.codeIn K cd9 "is_number_text" = true) (k9 : PySem.W.keepIn K (.ref f9) = true)
    (a10 : PySem.W.nsIn K mainGlobals "read_number" = some (some (.ref f10))) (l10 : K.lookup f10 = some ⟨oc10, od10, .func (PySem.W.fnOf "read_number" "read_number" (defArgs s_read_number) (defBody s_read_number) (defScope s_read_number) .none kV10 dc10 pm10 an10 cd10 ct10), sl10⟩) (c10 : PySem.W.codeIn K cd10 "read_number" = true) (k10 : PySem.W.keepIn K (.ref f10) = true)
    (a11 : PySem.W.nsIn K mainGlobals "read_row" = some (some (.ref f11))) (l11 : K.lookup f11 = some ⟨oc11, od11, .func (PySem.W.fnOf "read_row" "read_row" (defArgs s_read_row) (defBody s_read_row) (defScope s_read_row) .none kV11 dc11 pm11 an11 cd11 ct11), sl11⟩) (c11 : PySem.W.codeIn K cd11 "read_row" = true) (k11 : PySem.W.keepIn K (.ref f11) = true)
    (a12 : PySem.W.nsIn K mainGlobals "read_table" = some (some (.ref f12))) (l12 : K.lookup f12 = some ⟨oc12, od12, .func (PySem.W.fnOf "read_table" "read_table" (defArgs s_read_table) (defBody s_read_table) (defScope s_read_table) .none kV12 dc12 pm12 an12 cd12 ct12), sl12⟩) (c12 : PySem.W.codeIn K cd12 "read_table" = true) (k12 : PySem.W.keepIn K (.ref f12) = true)
    (a13 : PySem.W.nsIn K mainGlobals "_law_cell_at" = some (some (.ref f13))) (l13 : K.lookup f13 = some ⟨oc13, od13, .func (PySem.W.fnOf "_law_cell_at" "_law_cell_at" (defArgs s_l_cell_at) (defBody s_l_cell_at) (defScope s_l_cell_at) .none kV13 dc13 pm13 an13 cd13 ct13), sl13⟩) (c13 : PySem.W.codeIn K cd13 "_law_cell_at" = true) (k13 : PySem.W.keepIn K (.ref f13) = true)
    (a14 : PySem.W.nsIn K mainGlobals "_law_tape" = some (some (.ref f14))) (l14 : K.lookup f14 = some ⟨oc14, od14, .func (PySem.W.fnOf "_law_tape" "_law_tape" (defArgs s_l_tape) (defBody s_l_tape) (defScope s_l_tape) .none kV14 dc14 pm14 an14 cd14 ct14), sl14⟩) (c14 : PySem.W.codeIn K cd14 "_law_tape" = true) (k14 : PySem.W.keepIn K (.ref f14) = true)
    (a15 : PySem.W.nsIn K mainGlobals "_law_digit" = some (some (.ref f15))) (l15 : K.lookup f15 = some ⟨oc15, od15, .func (PySem.W.fnOf "_law_digit" "_law_digit" (defArgs s_l_digit) (defBody s_l_digit) (defScope s_l_digit) .none kV15 dc15 pm15 an15 cd15 ct15), sl15⟩) (c15 : PySem.W.codeIn K cd15 "_law_digit" = true) (k15 : PySem.W.keepIn K (.ref f15) = true)
    (a16 : PySem.W.nsIn K mainGlobals "_law_sorts" = some (some (.ref f16))) (l16 : K.lookup f16 = some ⟨oc16, od16, .func (PySem.W.fnOf "_law_sorts" "_law_sorts" (defArgs s_l_sorts) (defBody s_l_sorts) (defScope s_l_sorts) .none kV16 dc16 pm16 an16 cd16 ct16), sl16⟩) (c16 : PySem.W.codeIn K cd16 "_law_sorts" = true) (k16 : PySem.W.keepIn K (.ref f16) = true)
    (a17 : PySem.W.nsIn K mainGlobals "_law_name" = some (some (.ref f17))) (l17 : K.lookup f17 = some ⟨oc17, od17, .func (PySem.W.fnOf "_law_name" "_law_name" (defArgs s_l_name) (defBody s_l_name) (defScope s_l_name) .none kV17 dc17 pm17 an17 cd17 ct17), sl17⟩) (c17 : PySem.W.codeIn K cd17 "_law_name" = true) (k17 : PySem.W.keepIn K (.ref f17) = true)
    (a18 : PySem.W.nsIn K mainGlobals "_law_as" = some (some (.ref f18))) (l18 : K.lookup f18 = some ⟨oc18, od18, .func (PySem.W.fnOf "_law_as" "_law_as" (defArgs s_l_as) (defBody s_l_as) (defScope s_l_as) .none kV18 dc18 pm18 an18 cd18 ct18), sl18⟩) (c18 : PySem.W.codeIn K cd18 "_law_as" = true) (k18 : PySem.W.keepIn K (.ref f18) = true)
    (a19 : PySem.W.nsIn K mainGlobals "_law_count" = some (some (.ref f19))) (l19 : K.lookup f19 = some ⟨oc19, od19, .func (PySem.W.fnOf "_law_count" "_law_count" (defArgs s_l_count) (defBody s_l_count) (defScope s_l_count) .none kV19 dc19 pm19 an19 cd19 ct19), sl19⟩) (c19 : PySem.W.codeIn K cd19 "_law_count" = true) (k19 : PySem.W.keepIn K (.ref f19) = true)
    (a20 : PySem.W.nsIn K mainGlobals "_law_table" = some (some (.ref f20))) (l20 : K.lookup f20 = some ⟨oc20, od20, .func (PySem.W.fnOf "_law_table" "_law_table" (defArgs s_l_table) (defBody s_l_table) (defScope s_l_table) .none kV20 dc20 pm20 an20 cd20 ct20), sl20⟩) (c20 : PySem.W.codeIn K cd20 "_law_table" = true) (k20 : PySem.W.keepIn K (.ref f20) = true)
    (a21 : PySem.W.nsIn K mainGlobals "_law_written" = some (some (.ref f21))) (l21 : K.lookup f21 = some ⟨oc21, od21, .func (PySem.W.fnOf "_law_written" "_law_written" (defArgs s_l_written) (defBody s_l_written) (defScope s_l_written) .none kV21 dc21 pm21 an21 cd21 ct21), sl21⟩) (c21 : PySem.W.codeIn K cd21 "_law_written" = true) (k21 : PySem.W.keepIn K (.ref f21) = true)
    (a22 : PySem.W.nsIn K mainGlobals "_law_bad" = some (some (.ref f22))) (l22 : K.lookup f22 = some ⟨oc22, od22, .func (PySem.W.fnOf "_law_bad" "_law_bad" (defArgs s_l_bad) (defBody s_l_bad) (defScope s_l_bad) .none kV22 dc22 pm22 an22 cd22 ct22), sl22⟩) (c22 : PySem.W.codeIn K cd22 "_law_bad" = true) (k22 : PySem.W.keepIn K (.ref f22) = true)
    (a23 : PySem.W.nsIn K mainGlobals "_law_sign" = some (some (.ref f23))) (l23 : K.lookup f23 = some ⟨oc23, od23, .func (PySem.W.fnOf "_law_sign" "_law_sign" (defArgs s_l_sign) (defBody s_l_sign) (defScope s_l_sign) .none kV23 dc23 pm23 an23 cd23 ct23), sl23⟩) (c23 : PySem.W.codeIn K cd23 "_law_sign" = true) (k23 : PySem.W.keepIn K (.ref f23) = true)
    (a24 : PySem.W.nsIn K mainGlobals "_law_otherwise" = some (some (.ref f24))) (l24 : K.lookup f24 = some ⟨oc24, od24, .func (PySem.W.fnOf "_law_otherwise" "_law_otherwise" (defArgs s_l_otherwise) (defBody s_l_otherwise) (defScope s_l_otherwise) .none kV24 dc24 pm24 an24 cd24 ct24), sl24⟩) (c24 : PySem.W.codeIn K cd24 "_law_otherwise" = true) (k24 : PySem.W.keepIn K (.ref f24) = true)
    (a25 : PySem.W.nsIn K mainGlobals "_law_is_number" = some (some (.ref f25))) (l25 : K.lookup f25 = some ⟨oc25, od25, .func (PySem.W.fnOf "_law_is_number" "_law_is_number" (defArgs s_l_is_number) (defBody s_l_is_number) (defScope s_l_is_number) .none kV25 dc25 pm25 an25 cd25 ct25), sl25⟩) (c25 : PySem.W.codeIn K cd25 "_law_is_number" = true) (k25 : PySem.W.keepIn K (.ref f25) = true)
    (a26 : PySem.W.nsIn K mainGlobals "_law_read" = some (some (.ref f26))) (l26 : K.lookup f26 = some ⟨oc26, od26, .func (PySem.W.fnOf "_law_read" "_law_read" (defArgs s_l_read) (defBody s_l_read) (defScope s_l_read) .none kV26 dc26 pm26 an26 cd26 ct26), sl26⟩) (c26 : PySem.W.codeIn K cd26 "_law_read" = true) (k26 : PySem.W.keepIn K (.ref f26) = true)
    (a27 : PySem.W.nsIn K mainGlobals "_law_read_right" = some (some (.ref f27))) (l27 : K.lookup f27 = some ⟨oc27, od27, .func (PySem.W.fnOf "_law_read_right" "_law_read_right" (defArgs s_l_read_right) (defBody s_l_read_right) (defScope s_l_read_right) .none kV27 dc27 pm27 an27 cd27 ct27), sl27⟩) (c27 : PySem.W.codeIn K cd27 "_law_read_right" = true) (k27 : PySem.W.keepIn K (.ref f27) = true)
    (a28 : PySem.W.nsIn K mainGlobals "_law_refused" = some (some (.ref f28))) (l28 : K.lookup f28 = some ⟨oc28, od28, .func (PySem.W.fnOf "_law_refused" "_law_refused" (defArgs s_l_refused) (defBody s_l_refused) (defScope s_l_refused) .none kV28 dc28 pm28 an28 cd28 ct28), sl28⟩) (c28 : PySem.W.codeIn K cd28 "_law_refused" = true) (k28 : PySem.W.keepIn K (.ref f28) = true)
    (a29 : PySem.W.nsIn K mainGlobals "law" = some (some (.ref f29))) (l29 : K.lookup f29 = some ⟨oc29, od29, .func (PySem.W.fnOf "law" "law" (defArgs s_law) (defBody s_law) (defScope s_law) .none kV29 dc29 pm29 an29 cd29 ct29), sl29⟩) (c29 : PySem.W.codeIn K cd29 "law" = true) (k29 : PySem.W.keepIn K (.ref f29) = true)
    (bt : PySem.W.nsIn K mainGlobals "TableError" = some (some (.ref q11))) (tt : PySem.W.typeIn K (.ref q11) = some (.type "type")) (ti : PySem.W.isClsIn K q11 = true) (tb : PySem.W.subIn K (.ref q11) (.type "BaseException") = some true)
    (e0 : ExcK K "NoSums" q0 q11)
    (e1 : ExcK K "NoCaps" q1 q11)
    (e2 : ExcK K "NoTable" q2 q11)
    (e3 : ExcK K "NoOrder" q3 q11)
    (e4 : ExcK K "NoColumns" q4 q11)
    (e5 : ExcK K "NoText" q5 q11)
    (e6 : ExcK K "NoCell" q6 q11)
    (e7 : ExcK K "TooMany" q7 q11)
    (e8 : ExcK K "NoNumber" q8 q11)
    (e9 : ExcK K "NoStep" q9 q11)
    (e10 : ExcK K "NoLine" q10 q11)
    (hn : PySem.W.specialIn K (.builtin "object.__class__") "__get__" = some (some (.builtin "getset_descriptor.__get__"))) (ht : PySem.W.takesIn K (.builtin "object.__class__") = some true)
    (nd : [q0, q1, q2, q3, q4, q5, q6, q7, q8, q9, q10, q11].Nodup)
    {tFIGURES : Tok} (gFIGURES : PySem.W.nsIn K mainGlobals "FIGURES" = some (some (.str "0123456789" tFIGURES)))
    (gL : PySem.W.nsIn K mainGlobals "LONGEST" = some (some (.int 6 tL)))
    (z0 : PySem.W.nsIn K mainGlobals "isinstance" = some none) (z1 : PySem.W.nsIn K mainGlobals "len" = some none) (z2 : PySem.W.nsIn K mainGlobals "all" = some none) (z3 : PySem.W.nsIn K mainGlobals "range" = some none) (z4 : PySem.W.nsIn K mainGlobals "int" = some none) (z5 : PySem.W.nsIn K mainGlobals "bool" = some none) (z6 : PySem.W.nsIn K mainGlobals "list" = some none) (z7 : PySem.W.nsIn K mainGlobals "tuple" = some none) (z8 : PySem.W.nsIn K mainGlobals "repr" = some none) (z9 : PySem.W.nsIn K mainGlobals "max" = some none) (z10 : PySem.W.nsIn K mainGlobals "min" = some none) (z11 : PySem.W.nsIn K mainGlobals "zip" = some none) (z12 : PySem.W.nsIn K mainGlobals "sum" = some none) (z13 : PySem.W.nsIn K mainGlobals "sorted" = some none) (z14 : PySem.W.nsIn K mainGlobals "str" = some none) (z15 : PySem.W.nsIn K mainGlobals "enumerate" = some none) (z16 : PySem.W.nsIn K mainGlobals "ValueError" = some none) :
    ∃ fd : FuncData, (∀ (s : Shared) (v : Value), BindsTo s fd ⟨[v], []⟩ [("_law_script", v)]) ∧ ∀ base : Heap, K.In base → base.Ns mainGlobals mg → SysD base → FnG l.prog w K mg base 8 fa fd ["_law_script"] (sp_law K) := by
  cases hfa.symm.trans (PySem.W.mg_of X G a29)
  obtain ⟨tG, hG⟩ := hG
  have T : Txt K mg (fun i => [q0, q1, q2, q3, q4, q5, q6, q7, q8, q9, q10, q11].getD i 0) tG tL := ⟨inj_nodup nd rfl, hG, ⟨_, PySem.W.mg_of X G gFIGURES⟩, PySem.W.mg_of X G gL, PySem.W.mg_none_of X G z0, PySem.W.mg_none_of X G z1, PySem.W.mg_none_of X G z2, PySem.W.mg_none_of X G z3, PySem.W.mg_none_of X G z4, PySem.W.mg_none_of X G z5, PySem.W.mg_none_of X G z6, PySem.W.mg_none_of X G z7, PySem.W.mg_none_of X G z8, PySem.W.mg_none_of X G z9, PySem.W.mg_none_of X G z10, PySem.W.mg_none_of X G z11, PySem.W.mg_none_of X G z12, PySem.W.mg_none_of X G z13, PySem.W.mg_none_of X G z14, PySem.W.mg_none_of X G z15, PySem.W.mg_none_of X G z16, ⟨PySem.W.mg_of X G bt, tt, ti, tb⟩, e0.f X G hn ht, e1.f X G hn ht, e2.f X G hn ht, e3.f X G hn ht, e4.f X G hn ht, e5.f X G hn ht, e6.f X G hn ht, e7.f X G hn ht, e8.f X G hn ht, e9.f X G hn ht, e10.f X G hn ht⟩
  have F0 := fun_mk (st := s_is_whole) l0 c0 k0
  have b0 := F0.binds (ps := ["thing"]) fun _ _ _ _ _ _ us hl => match us, hl with | [_], _ => rfl
  have F1 := fun_mk (st := s_is_count) l1 c1 k1
  have b1 := F1.binds (ps := ["thing"]) fun _ _ _ _ _ _ us hl => match us, hl with | [_], _ => rfl
  have F2 := fun_mk (st := s_is_list) l2 c2 k2
  have b2 := F2.binds (ps := ["thing"]) fun _ _ _ _ _ _ us hl => match us, hl with | [_], _ => rfl
  have F3 := fun_mk (st := s_is_short_list) l3 c3 k3
  have b3 := F3.binds (ps := ["thing"]) fun _ _ _ _ _ _ us hl => match us, hl with | [_], _ => rfl
  have F4 := fun_mk (st := s_are_counts) l4 c4 k4
  have b4 := F4.binds (ps := ["thing"]) fun _ _ _ _ _ _ us hl => match us, hl with | [_], _ => rfl
  have F5 := fun_mk (st := s_has_table_form) l5 c5 k5
  have b5 := F5.binds (ps := ["thing"]) fun _ _ _ _ _ _ us hl => match us, hl with | [_], _ => rfl
  have F6 := fun_mk (st := s_wanted_table) l6 c6 k6
  have b6 := F6.binds (ps := ["thing"]) fun _ _ _ _ _ _ us hl => match us, hl with | [_], _ => rfl
  have F7 := fun_mk (st := s_row_text) l7 c7 k7
  have b7 := F7.binds (ps := ["row"]) fun _ _ _ _ _ _ us hl => match us, hl with | [_], _ => rfl
  have F8 := fun_mk (st := s_table_text) l8 c8 k8
  have b8 := F8.binds (ps := ["table"]) fun _ _ _ _ _ _ us hl => match us, hl with | [_], _ => rfl
  have F9 := fun_mk (st := s_is_number_text) l9 c9 k9
  have b9 := F9.binds (ps := ["text", "longest"]) fun _ _ _ _ _ _ us hl => match us, hl with | [_, _], _ => rfl
  have F10 := fun_mk (st := s_read_number) l10 c10 k10
  have b10 := F10.binds (ps := ["text"]) fun _ _ _ _ _ _ us hl => match us, hl with | [_], _ => rfl
  have F11 := fun_mk (st := s_read_row) l11 c11 k11
  have b11 := F11.binds (ps := ["text"]) fun _ _ _ _ _ _ us hl => match us, hl with | [_], _ => rfl
  have F12 := fun_mk (st := s_read_table) l12 c12 k12
  have b12 := F12.binds (ps := ["text"]) fun _ _ _ _ _ _ us hl => match us, hl with | [_], _ => rfl
  have F13 := fun_mk (st := s_l_cell_at) l13 c13 k13
  have b13 := F13.binds (ps := ["_law_script", "_law_k"]) fun _ _ _ _ _ _ us hl => match us, hl with | [_, _], _ => rfl
  have F14 := fun_mk (st := s_l_tape) l14 c14 k14
  have b14 := F14.binds (ps := ["_law_cell"]) fun _ _ _ _ _ _ us hl => match us, hl with | [_], _ => rfl
  have F15 := fun_mk (st := s_l_digit) l15 c15 k15
  have b15 := F15.binds (ps := ["_law_tape_here", "_law_size"]) fun _ _ _ _ _ _ us hl => match us, hl with | [_, _], _ => rfl
  have F16 := fun_mk (st := s_l_sorts) l16 c16 k16
  have b16 := F16.binds (ps := ["_law_e"]) fun _ _ _ _ _ _ us hl => match us, hl with | [_], _ => rfl
  have F17 := fun_mk (st := s_l_name) l17 c17 k17
  have b17 := F17.binds (ps := ["_law_e"]) fun _ _ _ _ _ _ us hl => match us, hl with | [_], _ => rfl
  have F18 := fun_mk (st := s_l_as) l18 c18 k18
  have b18 := F18.binds (ps := ["_law_tape_here", "_law_rows"]) fun _ _ _ _ _ _ us hl => match us, hl with | [_, _], _ => rfl
  have F19 := fun_mk (st := s_l_count) l19 c19 k19
  have b19 := F19.binds (ps := ["_law_tape_here"]) fun _ _ _ _ _ _ us hl => match us, hl with | [_], _ => rfl
  have F20 := fun_mk (st := s_l_table) l20 c20 k20
  have b20 := F20.binds (ps := ["_law_tape_here"]) fun _ _ _ _ _ _ us hl => match us, hl with | [_], _ => rfl
  have F21 := fun_mk (st := s_l_written) l21 c21 k21
  have b21 := F21.binds (ps := ["_law_table_here"]) fun _ _ _ _ _ _ us hl => match us, hl with | [_], _ => rfl
  have F22 := fun_mk (st := s_l_bad) l22 c22 k22
  have b22 := F22.binds (ps := ["_law_tape_here", "_law_table_here"]) fun _ _ _ _ _ _ us hl => match us, hl with | [_, _], _ => rfl
  have F23 := fun_mk (st := s_l_sign) l23 c23 k23
  have b23 := F23.binds (ps := ["_law_tape_here"]) fun _ _ _ _ _ _ us hl => match us, hl with | [_], _ => rfl
  have F24 := fun_mk (st := s_l_otherwise) l24 c24 k24
  have b24 := F24.binds (ps := ["_law_tape_here", "_law_text"]) fun _ _ _ _ _ _ us hl => match us, hl with | [_, _], _ => rfl
  have F25 := fun_mk (st := s_l_is_number) l25 c25 k25
  have b25 := F25.binds (ps := ["_law_word"]) fun _ _ _ _ _ _ us hl => match us, hl with | [_], _ => rfl
  have F26 := fun_mk (st := s_l_read) l26 c26 k26
  have b26 := F26.binds (ps := ["_law_text"]) fun _ _ _ _ _ _ us hl => match us, hl with | [_], _ => rfl
  have F27 := fun_mk (st := s_l_read_right) l27 c27 k27
  have b27 := F27.binds (ps := ["_law_text"]) fun _ _ _ _ _ _ us hl => match us, hl with | [_], _ => rfl
  have F28 := fun_mk (st := s_l_refused) l28 c28 k28
  have b28 := F28.binds (ps := ["_law_thing"]) fun _ _ _ _ _ _ us hl => match us, hl with | [_], _ => rfl
  have F29 := fun_mk (st := s_law) l29 c29 k29
  refine ⟨PySem.W.fnOf "law" "law" (defArgs s_law) (defBody s_law) (defScope s_law) .none kV29 dc29 pm29 an29 cd29 ct29, fun s v => .of_eq rfl, fun base _ _ SM => ?_⟩
  have c_is_whole : Cal l.prog w K mg base CX0 1 "is_whole" ["thing"] (sp_is_whole K) := ⟨_, _, PySem.W.mg_of X G a0, k0, b0, ok_is_whole F0 T⟩
  have c_is_count : Cal l.prog w K mg base CX0 2 "is_count" ["thing"] (sp_is_count K) := ⟨_, _, PySem.W.mg_of X G a1, k1, b1, ok_is_count F1 T c_is_whole⟩
  have c_is_list : Cal l.prog w K mg base CX0 1 "is_list" ["thing"] (sp_is_list K) := ⟨_, _, PySem.W.mg_of X G a2, k2, b2, ok_is_list F2 T⟩
  have c_is_short_list : Cal l.prog w K mg base CX0 2 "is_short_list" ["thing"] (sp_is_short_list K) := ⟨_, _, PySem.W.mg_of X G a3, k3, b3, ok_is_short_list F3 T c_is_list⟩
  have c_are_counts : Cal l.prog w K mg base CX0 3 "are_counts" ["thing"] (sp_are_counts K) := ⟨_, _, PySem.W.mg_of X G a4, k4, b4, ok_are_counts F4 T c_is_short_list c_is_count⟩
  have c_has_table_form : Cal l.prog w K mg base CX0 4 "has_table_form" ["thing"] (sp_has_form K) := ⟨_, _, PySem.W.mg_of X G a5, k5, b5, ok_has_form F5 T c_is_short_list c_are_counts⟩
  have c_wanted_table : Cal l.prog w K mg base (L2N.CX l.prog w) 5 "wanted_table" ["thing"] (sp_wanted_table K q2) := ⟨_, _, PySem.W.mg_of X G a6, k6, b6, ok_wanted_table F6 T c_has_table_form⟩
  have c_row_text : Cal l.prog w K mg base CX0 1 "row_text" ["row"] (sp_row_text K) := ⟨_, _, PySem.W.mg_of X G a7, k7, b7, ok_row_text F7 T⟩
  have c_table_text : Cal l.prog w K mg base (L2N.CX l.prog w) 6 "table_text" ["table"] (sp_table_text K q2) := ⟨_, _, PySem.W.mg_of X G a8, k8, b8, ok_table_text F8 T c_wanted_table c_row_text⟩
  have c_is_number_text : Cal l.prog w K mg base CX0 1 "is_number_text" ["text", "longest"] sp_isnum := ⟨_, _, PySem.W.mg_of X G a9, k9, b9, ok_isnum F9 T⟩
  have c_read_number : Cal l.prog w K mg base (L2N.CX l.prog w) 2 "read_number" ["text"] (sp_read_number q5) := ⟨_, _, PySem.W.mg_of X G a10, k10, b10, ok_read_number F10 T c_is_number_text⟩
  have c_read_row : Cal l.prog w K mg base (L2N.CX l.prog w) 3 "read_row" ["text"] (sp_read_row q5) := ⟨_, _, PySem.W.mg_of X G a11, k11, b11, ok_read_row F11 T c_read_number⟩
  have c_read_table : Cal l.prog w K mg base (L2N.CX l.prog w) 5 "read_table" ["text"] (sp_read_table K q5) := ⟨_, _, PySem.W.mg_of X G a12, k12, b12, ok_read_table F12 T c_read_row c_has_table_form⟩
  have c_l_cell_at : Cal l.prog w K mg base CX0 1 "_law_cell_at" ["_law_script", "_law_k"] (sp_cell_at K) := ⟨_, _, PySem.W.mg_of X G a13, k13, b13, ok_cell_at F13 T⟩
  have c_l_tape : Cal l.prog w K mg base CX0 1 "_law_tape" ["_law_cell"] sp_tape := ⟨_, _, PySem.W.mg_of X G a14, k14, b14, ok_tape F14 T⟩
  have c_l_digit : Cal l.prog w K mg base CX0 1 "_law_digit" ["_law_tape_here", "_law_size"] sp_digit := ⟨_, _, PySem.W.mg_of X G a15, k15, b15, ok_digit F15 T⟩
  have c_l_sorts : CalA l.prog w K mg base 1 "_law_sorts" ["_law_e"] (sp_sorts (fun i => [q0, q1, q2, q3, q4, q5, q6, q7, q8, q9, q10, q11].getD i 0)) := ⟨_, _, PySem.W.mg_of X G a16, k16, b16, ok_sorts F16 T⟩
  have c_l_name : CalT l.prog w K mg base 2 "_law_name" ["_law_e"] (sp_lname (fun i => [q0, q1, q2, q3, q4, q5, q6, q7, q8, q9, q10, q11].getD i 0)) := ⟨_, _, PySem.W.mg_of X G a17, k17, b17, ok_lname F17 T c_l_sorts⟩
  have c_l_as : Cal l.prog w K mg base CX0 2 "_law_as" ["_law_tape_here", "_law_rows"] (sp_as K) := ⟨_, _, PySem.W.mg_of X G a18, k18, b18, ok_as F18 T c_l_digit⟩
  have c_l_count : Cal l.prog w K mg base CX0 2 "_law_count" ["_law_tape_here"] sp_count := ⟨_, _, PySem.W.mg_of X G a19, k19, b19, ok_count F19 T c_l_digit⟩
  have c_l_table : Cal l.prog w K mg base CX0 3 "_law_table" ["_law_tape_here"] sp_ltable := ⟨_, _, PySem.W.mg_of X G a20, k20, b20, ok_ltable F20 T c_l_digit c_l_count⟩
  have c_l_written : Cal l.prog w K mg base CX0 1 "_law_written" ["_law_table_here"] (sp_written K) := ⟨_, _, PySem.W.mg_of X G a21, k21, b21, ok_written F21 T⟩
  have c_l_bad : Cal l.prog w K mg base CX0 2 "_law_bad" ["_law_tape_here", "_law_table_here"] (sp_bad K) := ⟨_, _, PySem.W.mg_of X G a22, k22, b22, ok_bad F22 T c_l_digit c_l_written⟩
  have c_l_sign : Cal l.prog w K mg base CX0 2 "_law_sign" ["_law_tape_here"] sp_sign := ⟨_, _, PySem.W.mg_of X G a23, k23, b23, ok_sign F23 T c_l_digit⟩
  have c_l_otherwise : Cal l.prog w K mg base CX0 3 "_law_otherwise" ["_law_tape_here", "_law_text"] sp_otherwise := ⟨_, _, PySem.W.mg_of X G a24, k24, b24, ok_otherwise F24 T c_l_digit c_l_sign⟩
  have c_l_is_number : Cal l.prog w K mg base CX0 1 "_law_is_number" ["_law_word"] sp_isn := ⟨_, _, PySem.W.mg_of X G a25, k25, b25, ok_isn F25 T⟩
  have c_l_read : Cal l.prog w K mg base CX0 2 "_law_read" ["_law_text"] sp_lread := ⟨_, _, PySem.W.mg_of X G a26, k26, b26, ok_lread F26 T c_l_is_number⟩
  have c_l_refused : Cal l.prog w K mg base CX0 6 "_law_refused" ["_law_thing"] (sp_refused K) := ⟨_, _, PySem.W.mg_of X G a28, k28, b28, ok_refused F28 T c_l_name c_read_table⟩
  have c_l_read_right : CalG l.prog w K mg base 7 "_law_read_right" ["_law_text"] sp_right := ⟨_, _, PySem.W.mg_of X G a27, k27, b27, ok_right F27 T SM c_l_read c_l_refused c_read_table⟩
  exact ok_law F29 T SM c_l_cell_at c_l_tape c_l_table c_l_written c_l_as c_read_table c_table_text c_l_bad c_l_refused c_l_otherwise c_l_read_right
end Kp15
set_option Elab.async false
set_option linter.all false
set_option maxRecDepth 100000
set_option maxHeartbeats 1000000
open PySem PySem.W PyProof.Rows
set_option maxRecDepth 100000 in
set_option maxHeartbeats 0 in
theorem PySem.Challenge.cw_exacttable_k15_texts_holds : PySem.Challenge.rw_exacttable_k15_texts.Holds := by
  w_on; o_law; k_head; (case hw => w_witness2)
  k_fill
  refine Vf.walk_ofS (l := PySem.Challenge.rw_exacttable_k15_texts) (n := 63) (k := 8) (x := "_law_script") (sp := fun w => Kp15.sp_law _) rfl (by decide) rfl (by decide +kernel) ⟨⟨rfl, by decide, by decide⟩, rfl⟩ (fun w h Y => PySem.W.kIn_of Y) ?F (fun _ _ a ns _ _ hS => ⟨a, ns, rfl, hS, fun _ => rfl⟩)
  case F =>
    intro w mg fa h KX G LL hmg
    refine' Kp15.all_mk KX G hmg (Vf.loose_int LL (List.mem_cons_self ..)) ?a0 ?l0 ?c0 ?k0 ?a1 ?l1 ?c1 ?k1 ?a2 ?l2 ?c2 ?k2 ?a3 ?l3 ?c3 ?k3 ?a4 ?l4 ?c4 ?k4 ?a5 ?l5 ?c5 ?k5 ?a6 ?l6 ?c6 ?k6 ?a7 ?l7 ?c7 ?k7 ?a8 ?l8 ?c8 ?k8 ?a9 ?l9 ?c9 ?k9 ?a10 ?l10 ?c10 ?k10 ?a11 ?l11 ?c11 ?k11 ?a12 ?l12 ?c12 ?k12 ?a13 ?l13 ?c13 ?k13 ?a14 ?l14 ?c14 ?k14 ?a15 ?l15 ?c15 ?k15 ?a16 ?l16 ?c16 ?k16 ?a17 ?l17 ?c17 ?k17 ?a18 ?l18 ?c18 ?k18 ?a19 ?l19 ?c19 ?k19 ?a20 ?l20 ?c20 ?k20 ?a21 ?l21 ?c21 ?k21 ?a22 ?l22 ?c22 ?k22 ?a23 ?l23 ?c23 ?k23 ?a24 ?l24 ?c24 ?k24 ?a25 ?l25 ?c25 ?k25 ?a26 ?l26 ?c26 ?k26 ?a27 ?l27 ?c27 ?k27 ?a28 ?l28 ?c28 ?k28 ?a29 ?l29 ?c29 ?k29 ?bt ?tt ?ti ?tb ?e0 ?e1 ?e2 ?e3 ?e4 ?e5 ?e6 ?e7 ?e8 ?e9 ?e10 ?hn ?ht ?nd ?gFIGURES ?gL ?z0 ?z1 ?z2 ?z3 ?z4 ?z5 ?z6 ?z7 ?z8 ?z9 ?z10 ?z11 ?z12 ?z13 ?z14 ?z15 ?z16
    (case a0 => k_is)
    (case l0 => k_is)
    (case c0 => k_is)
    (case k0 => k_is)
    (case a1 => k_is)
    (case l1 => k_is)
    (case c1 => k_is)
    (case k1 => k_is)
    (case a2 => k_is)
    (case l2 => k_is)
    (case c2 => k_is)
    (case k2 => k_is)
    (case a3 => k_is)
    (case l3 => k_is)
    (case c3 => k_is)
    (case k3 => k_is)
    (case a4 => k_is)
    (case l4 => k_is)
    (case c4 => k_is)
    (case k4 => k_is)
    (case a5 => k_is)
    (case l5 => k_is)
    (case c5 => k_is)
    (case k5 => k_is)
    (case a6 => k_is)
    (case l6 => k_is)
    (case c6 => k_is)
    (case k6 => k_is)
    (case a7 => k_is)
    (case l7 => k_is)
    (case c7 => k_is)
    (case k7 => k_is)
    (case a8 => k_is)
    (case l8 => k_is)
    (case c8 => k_is)
    (case k8 => k_is)
    (case a9 => k_is)
    (case l9 => k_is)
    (case c9 => k_is)
    (case k9 => k_is)
    (case a10 => k_is)
    (case l10 => k_is)
    (case c10 => k_is)
    (case k10 => k_is)
    (case a11 => k_is)
    (case l11 => k_is)
    (case c11 => k_is)
    (case k11 => k_is)
    (case a12 => k_is)
    (case l12 => k_is)
    (case c12 => k_is)
    (case k12 => k_is)
    (case a13 => k_is)
    (case l13 => k_is)
    (case c13 => k_is)
    (case k13 => k_is)
    (case a14 => k_is)
    (case l14 => k_is)
    (case c14 => k_is)
    (case k14 => k_is)
    (case a15 => k_is)
    (case l15 => k_is)
    (case c15 => k_is)
    (case k15 => k_is)
    (case a16 => k_is)
    (case l16 => k_is)
    (case c16 => k_is)
    (case k16 => k_is)
    (case a17 => k_is)
    (case l17 => k_is)
    (case c17 => k_is)
    (case k17 => k_is)
    (case a18 => k_is)
    (case l18 => k_is)
    (case c18 => k_is)
    (case k18 => k_is)
    (case a19 => k_is)
    (case l19 => k_is)
    (case c19 => k_is)
    (case k19 => k_is)
    (case a20 => k_is)
    (case l20 => k_is)
    (case c20 => k_is)
    (case k20 => k_is)
    (case a21 => k_is)
    (case l21 => k_is)
    (case c21 => k_is)
    (case k21 => k_is)
    (case a22 => k_is)
    (case l22 => k_is)
    (case c22 => k_is)
    (case k22 => k_is)
    (case a23 => k_is)
    (case l23 => k_is)
    (case c23 => k_is)
    (case k23 => k_is)
    (case a24 => k_is)
    (case l24 => k_is)
    (case c24 => k_is)
    (case k24 => k_is)
    (case a25 => k_is)
    (case l25 => k_is)
    (case c25 => k_is)
    (case k25 => k_is)
    (case a26 => k_is)
    (case l26 => k_is)
    (case c26 => k_is)
    (case k26 => k_is)
    (case a27 => k_is)
    (case l27 => k_is)
    (case c27 => k_is)
    (case k27 => k_is)
    (case a28 => k_is)
    (case l28 => k_is)
    (case c28 => k_is)
    (case k28 => k_is)
    (case a29 => k_is)
    (case l29 => k_is)
    (case c29 => k_is)
    (case k29 => k_is)
    (case bt => k_is)
    (case tt => k_is)
    (case ti => k_is)
    (case tb => k_is)
    (case e0 => constructor; k_is; k_exc; k_is; k_is; k_is; k_is; k_is; k_is; k_is; k_is; exact ⟨_, by k_is, rfl⟩)
    (case e1 => constructor; k_is; k_exc; k_is; k_is; k_is; k_is; k_is; k_is; k_is; k_is; exact ⟨_, by k_is, rfl⟩)
    (case e2 => constructor; k_is; k_exc; k_is; k_is; k_is; k_is; k_is; k_is; k_is; k_is; exact ⟨_, by k_is, rfl⟩)
    (case e3 => constructor; k_is; k_exc; k_is; k_is; k_is; k_is; k_is; k_is; k_is; k_is; exact ⟨_, by k_is, rfl⟩)
    (case e4 => constructor; k_is; k_exc; k_is; k_is; k_is; k_is; k_is; k_is; k_is; k_is; exact ⟨_, by k_is, rfl⟩)
    (case e5 => constructor; k_is; k_exc; k_is; k_is; k_is; k_is; k_is; k_is; k_is; k_is; exact ⟨_, by k_is, rfl⟩)
    (case e6 => constructor; k_is; k_exc; k_is; k_is; k_is; k_is; k_is; k_is; k_is; k_is; exact ⟨_, by k_is, rfl⟩)
    (case e7 => constructor; k_is; k_exc; k_is; k_is; k_is; k_is; k_is; k_is; k_is; k_is; exact ⟨_, by k_is, rfl⟩)
    (case e8 => constructor; k_is; k_exc; k_is; k_is; k_is; k_is; k_is; k_is; k_is; k_is; exact ⟨_, by k_is, rfl⟩)
    (case e9 => constructor; k_is; k_exc; k_is; k_is; k_is; k_is; k_is; k_is; k_is; k_is; exact ⟨_, by k_is, rfl⟩)
    (case e10 => constructor; k_is; k_exc; k_is; k_is; k_is; k_is; k_is; k_is; k_is; k_is; exact ⟨_, by k_is, rfl⟩)
    (case hn => k_is)
    (case ht => k_is)
    (case nd => decide +kernel)
    (case gFIGURES => k_is)
    (case gL => k_is)
    (case z0 => k_is)
    (case z1 => k_is)
    (case z2 => k_is)
    (case z3 => k_is)
    (case z4 => k_is)
    (case z5 => k_is)
    (case z6 => k_is)
    (case z7 => k_is)
    (case z8 => k_is)
    (case z9 => k_is)
    (case z10 => k_is)
    (case z11 => k_is)
    (case z12 => k_is)
    (case z13 => k_is)
    (case z14 => k_is)
    (case z15 => k_is)
    (case z16 => k_is)
