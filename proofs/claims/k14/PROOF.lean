import PyProof.Rows.All
import Wide.All
import OpenK.AllK
import Wide.FinOn
import HandS.ForMost
import HandS.ForExc
import HandS.ExcValue
import HandS.ExcIs
import HandS.IsInst
import HandS.HotCalls
import HandS.RaiseMore
import HandS.Wide
import HandS.EndBits
import HandS.Defaults
import PyProof.ReprRoads
import HandS.TupMul
import HandS.MakeKw
import HandS.Codes
import HandS.Star
import HandS.Zip
import HandS.Rev
import HandS.RevTup
import PyProof.ListStr
import HandS.Conv
import HandS.SortInts
import PyProof.Rows.SortShellAny
import HandS.Walk
import HandS.TupAny
import HandS.WideBits
import HandS.DictComp
import HandS.NoneIn
import PySem.Challenge.RW_exacttable_k14_exchanged_and_joined
set_option Elab.async false
set_option linter.all false
set_option maxRecDepth 100000
set_option maxHeartbeats 4000000
/-! Rules of my own over the hand layer: a caught exception that is tracked; several clauses, with and without a name; defs that may be called while an exception is handled. -/
namespace Vf
open PySem PySem.Spec PyProof.Rows L2

/-! ### an exception object by its class -/
def ExIs (h : Heap) (a : Addr) (cls : Value) : Prop := ∃ (oe : Obj) (vs : Array Value), h.get? a = some oe ∧ Zc cls none oe ∧ oe.data = .fields vs
def ExT (cls : Value) (a : Addr) : HO := .ext fun h => ExIs h a cls
def ExAt (H : Hp) (a D : Addr) : Prop := ∃ φ, H a = some (.ext φ) ∧ ∀ h, φ h → ExIs h a (.ref D)
theorem ExAt.ofT {H : Hp} {a D : Addr} (e : H a = some (ExT (.ref D) a)) : ExAt H a D := ⟨_, e, fun _ q => q⟩
theorem ExAt.ofO {H : Hp} {a D : Addr} (e : H a = some (ExO (.ref D) a)) : ExAt H a D := ⟨_, e, fun _ ⟨oe, vs, q1, q2, q3, _⟩ => ⟨oe, vs, q1, q2, q3⟩⟩
theorem ExAt.same {H H' : Hp} {a D : Addr} (e : ExAt H a D) (s : Same H H') : ExAt H' a D := by
  obtain ⟨φ, q, r⟩ := e
  exact ⟨φ, s _ _ q, r⟩
/-- isinstance of such an object -/
def rIsX (K : PySem.W.Frag) : List V → Hp → VK → Prop := fun xs H Q => ∃ (a D : Addr) (c : V) (cv : Value) (b : Bool), xs = [.ref a, c] ∧ ClsV c cv ∧ ExAt H a D ∧ ExcC K D ∧ PySem.W.kitOne K (.ref D) cv = some b ∧ Q (.bl b) H
theorem call_isX {X : Cx} : CallR X (.builtin "isinstance") (rIsX X.K) := by
  intro pins s σ H xs us Q I r h
  obtain ⟨a, D, c, cv, b, rfl, k, ⟨φ, ha, hφ⟩, C, e, q⟩ := h
  obtain ⟨u1, u2, rfl, r1, r2⟩ := vals2 r
  obtain rfl := k.eq r2
  cases (show u1 = Value.ref a from r1)
  obtain ⟨p, _, _⟩ := I.hok a _ ha
  obtain ⟨⟨oc, od, oda, osl⟩, vs, hg, ⟨z1, z2⟩, hv⟩ := hφ _ p
  dsimp only at z1 z2 hv
  subst z1 z2 hv
  exact PySem.W.kia_one (PySem.W.handS_kitx_exc C.hg C.hk C.hs C.hd C.ha C.hn C.ht C.hm) I.kIn ⟨hg, rfl, rfl, trivial⟩ e (fun z => nomatch z) fun tk => ⟨.bl b, H, I.tok tk, rfl, q⟩

/-! ### a new object that was not tracked is tracked from now on -/
theorem adopt {X : Cx} {pins : List (Addr × Obj)} {σ : L2.St} {H : Hp} {s : Shared} {a : Addr} {cls : Value} (I : Inv X pins σ H s) (he : ExIs s.heap a cls) (na : H a = none) (n0 : X.s_0.heap.get? a = none) (nL : a ≠ X.env.locals) (nP : ∀ p ∈ X.pn ++ pins, p.1 ≠ a) :
    Inv X pins σ (upd H a (ExT cls a)) s := by
  obtain ⟨oe, vs, ha, hz, hd⟩ := id he
  have nC : ∀ x c, X.env.cells.lookup x = some c → c ≠ a := fun x c e z => by
    obtain ⟨v, o, ho, hc⟩ := I.cell x c e
    rw [z, ha] at ho
    cases ho
    rw [hd] at hc
    cases hc
  have nb0 : ∀ b o, X.s_0.heap.get? b = some o → b ≠ a := fun b o e z => by
    rw [z, n0] at e
    cases e
  have nbH : ∀ b o, H b = some o → b ≠ a := fun b o e => ne_of_none e na
  refine ⟨I.ok, I.os, I.bare, ⟨I.base.keep, I.base.slot, fun b o e n hx => ?_, I.base.there, fun b xs e => ?_, fun b o u e => ?_, fun b ps e => ?_⟩, I.loc, I.cell, ?_, fun x c e => ?_, fun p hp => ?_, fun b u e => ?_, I.len⟩
  · rw [upd_ne (nb0 b o e)]
    exact I.base.free b o e n hx
  · have q := I.base.tups b xs e
    rw [upd_ne (nbH _ _ q)]
    exact q
  · have q := I.base.frzs b o u e
    rw [upd_ne (nbH _ _ q)]
    exact q
  · obtain ⟨m, q⟩ := I.base.tbls b ps e
    exact ⟨m, by rw [upd_ne (nbH _ _ q)]; exact q⟩
  · rw [upd_ne nL.symm]
    exact I.free
  · rw [upd_ne (nC x c e)]
    exact I.freeC x c e
  · obtain ⟨e1, e2, e3⟩ := I.pin p hp
    exact ⟨e1, by rw [upd_ne (nP p hp)]; exact e2, e3⟩
  · by_cases hb : b = a
    · subst hb
      rw [upd_same] at e
      cases e
      exact ⟨he, ⟨oe, ha⟩, fun h1 h2 ⟨o1, v1, g1, g2⟩ k => ⟨o1, v1, k _ g1, g2⟩⟩
    · rw [upd_ne hb] at e
      exact (I.hok b u e).stay (fun _ _ _ q => q) (fun c q => by rw [upd_ne (nbH _ _ q)]; exact q) fun c xs q => by rw [upd_ne (nbH _ _ q)]; exact q
theorem toSuite {X : Cx} {pins : List (Addr × Obj)} {σ : L2.St} {H : Hp} {s : Shared} (I : Inv X pins σ H s) (a : Addr) : Inv (X.suite a (X.pn ++ pins)) [] σ H s :=
  ⟨I.ok.suite _ _, I.os, I.bare, I.base, I.loc, I.cell, I.free, I.freeC, fun p hp => I.pin p (by rw [List.append_nil] at hp; exact hp), I.hok, I.len⟩
theorem offSuite {X : Cx} {pins pn' : List (Addr × Obj)} {σ : L2.St} {H : Hp} {s : Shared} {a : Addr} (I : Inv (X.suite a (X.pn ++ pins)) pn' σ H s) (ok : X.Ok) : Inv X pins σ H s :=
  ⟨ok, I.os, I.bare, I.base, I.loc, I.cell, I.free, I.freeC, fun p hp => I.pin p (List.mem_append_left _ hp), I.hok, I.len⟩

/-! ### try with any number of clauses -/
def sw (oi : Option Nat) (v : Option V) (σ : L2.St) : L2.St := match oi with
  | none => σ
  | some i => σ.set i v
def dw (oi : Option Nat) (D : Ends) : Ends := { nx := fun σ H => D.nx (sw oi none σ) H, rt := D.rt, bk := fun σ H => D.bk (sw oi none σ) H, ct := fun σ H => D.ct (sw oi none σ) H }
abbrev Cls1 := Value × Option Nat × (Addr → Value → TS)
def wT (K : PySem.W.Frag) (Wout : WX) (D : Ends) : List Cls1 → WX
  | [] => Wout
  | (c, oi, ts) :: r => fun cls d σ H => ∃ b, PySem.W.exmOne K cls c = some b ∧ (b = true → d = none ∧ ∀ a, H a = none → ts a cls (dw oi D) (sw oi (some (.ref a)) σ) (upd H a (ExT cls a))) ∧ (b = false → wT K Wout D r cls d σ H)
inductive HdT (X : Cx) : List ExceptHandler → List Cls1 → Prop
  | nil : HdT X [] []
  | plain {x : Str} {c : Value} {ts : Addr → Value → TS} {b₀ : Stmt} {su : List Stmt} {p1 p2 : Pos} {hds : List ExceptHandler} {l : List Cls1} (hc : Names X x c)
      (hsu : ∀ (a : Addr) (cls : Value) (pn : List (Addr × Obj)), PSs (X.suite a pn) (b₀ :: su) (ts a cls)) (r : HdT X hds l) : HdT X (.ExceptHandler (some (.Name x p1)) none (b₀ :: su) p2 :: hds) ((c, none, ts) :: l)
  | named {x n : Str} {i : Nat} {c : Value} {ts : Addr → Value → TS} {b₀ : Stmt} {su : List Stmt} {p1 p2 : Pos} {hds : List ExceptHandler} {l : List Cls1} (hc : Names X x c) (hi : X.N[i]? = some n) (hln : X.env.kindOf n = some .local)
      (hsu : ∀ (a : Addr) (cls : Value) (pn : List (Addr × Obj)), PSs (X.suite a pn) (b₀ :: su) (ts a cls)) (r : HdT X hds l) : HdT X (.ExceptHandler (some (.Name x p1)) (some n) (b₀ :: su) p2 :: hds) ((c, some i, ts) :: l)
theorem ps_tryT {X : Cx} {body : List Stmt} {h₀ : ExceptHandler} {hds : List ExceptHandler} {l : List Cls1} {pos : Pos} {tb : WX → TS} {Wout : WX} (hs : X.stack = X.env :: X.outer) (hf : X.env.frame = some X.env.locals) (hex : X.ex = []) (hN : X.N.Nodup) (tk : L2.Takes X Wout)
    (hb : ∀ (W : WX) (pn : List (Addr × Obj)) (xe : Value → Shared → Prop), L2.Takes (X.tr pn xe) W → PassesOwn (model X.prog X.w) X.A X.env xe → PSs (X.tr pn xe) body (tb W))
    (hh : HdT X (h₀ :: hds) l) : PS X (.Try body (h₀ :: hds) [] [] pos) (fun D σ H => tb (wT X.K Wout D l) D σ H) := by
  refine ⟨fun pins s σ H D I h => ?_⟩
  have ok := I.ok
  have hfr : X.A.frames = some (X.env :: X.outer) := ok.frames.trans (congrArg some hs)
  refine wpAny_Try_except (wpAny_mono ((hb (wT X.K Wout D l) (X.pn ++ pins) (fun e s₁ => wpAny (model X.prog X.w) X.A (noteFrame e X.env) (fun _ s₂ => wpAny (model X.prog X.w) X.A (setFlight e none) (fun _ s₃ =>
    wpAny (model X.prog X.w) X.A (handleBy e X.env (h₀ :: hds)) (SP X pins D) X.xe s₃) X.xe s₂) X.xe s₁) (fun u s' air => ?_) PassesOwn.looking).run [] s σ H D (I.toTry _) h) (fun f s1 hsp => ?_) (fun _ _ he => he))
  · obtain ⟨a, B, sI, pins', σ', H', cls, d, rfl, J', nb, up, sky, na, os, ag, wish⟩ := air
    have J : Inv X pins σ' H' sI := J'.ofTry ok
    rw [hs] at sky
    show wpAny (model X.prog X.w) X.A (noteFrame (.ref a) X.env) _ _ _
    refine L2.Sky.land Zc.steady hfr hf sky fun h3 fl3 up3 => ?_
    have J3 : Inv X pins σ' H' { s' with heap := h3 } := J.landed nb fl3.1 (up.trans up3) os ag
    obtain ⟨oe3, vs3, he3, hz3, hd3⟩ := fl3.there
    have nfr : a ∉ frs (X.env :: X.outer) := fun hm => by
      obtain ⟨_, o', e', hnf⟩ := fl3.2.2.1.mem hm
      rw [he3] at e'
      cases e'
      exact hnf _ hd3
    have nst : a ∉ frs X.stack := by rw [hs]; exact nfr
    have nL : a ≠ X.env.locals := fun z => nfr (List.mem_filterMap.mpr ⟨X.env, List.mem_cons_self, hf.trans (congrArg some z.symm)⟩)
    have Ba : B.get? a = none := fl3.2.1
    have nI : sI.heap.get? a = none := by
      cases q : sI.heap.get? a with
      | none => rfl
      | some o =>
        rw [nb a o q nst] at Ba
        cases Ba
    have n0 : X.s_0.heap.get? a = none := by
      cases q : X.s_0.heap.get? a with
      | none => rfl
      | some o =>
        obtain ⟨o', q'⟩ := J.base.there a o q (by rw [hex]; exact fun z => nomatch z)
        rw [nI] at q'
        cases q'
    have nP : ∀ p ∈ X.pn ++ pins, p.1 ≠ a := fun p hp z => by
      have q := (J.pin p hp).1
      rw [z, nI] at q
      cases q
    have S3 := toSuite J3 a
    have go : ∀ {hds' : List ExceptHandler} {l' : List Cls1}, HdT X hds' l' → wT X.K Wout D l' cls d σ' H' →
        wpAny (model X.prog X.w) X.A (handleBy (.ref a) X.env hds') (SP X pins D) X.xe { s' with heap := h3 } := by
      have LT : PySem.W.Looks (model X.prog X.w) h3 (typeOf (.ref a)) cls := fun A Q E s k q => wpAny_typeOf_ref (k _ _ he3) (by rw [hz3.1]; exact q)
      have test : ∀ {x : Str} {c : Value} {np : Pos} {Q : Value → Shared → Prop} {E : Value → Shared → Prop}, Names X x c → Q c { s' with heap := h3 } → wpAny (model X.prog X.w) (X.A.mark (some (.ref a))) (eval (.Name x np) X.env) Q E { s' with heap := h3 } := fun {x c np Q E} hc q => by
        obtain ⟨hg, hdbg, hm | ⟨hm, hv, hnn⟩⟩ := hc
        · exact ld_glob (X := X.suite a (X.pn ++ pins)) S3 hg hm q hdbg
        · exact ld_blt (X := X.suite a (X.pn ++ pins)) S3 hg hm hv q hnn hdbg
      have adopted : d = none → ∀ h4, L2.Inv X pins σ' H' { s' with heap := h4 } → HandSPX.FlyingZ B (X.env :: X.outer) a (Zc cls d) h4 → L2.Inv X pins σ' (upd H' a (ExT cls a)) { s' with heap := h4 } := fun ed h4 J4 fl4 => by
        obtain ⟨oe4, vs4, he4, hz4, hd4⟩ := fl4.there
        rw [ed] at hz4
        exact adopt J4 ⟨oe4, vs4, he4, hz4, hd4⟩ na n0 nL nP
      intro hds' l' hk
      induction hk with
      | nil =>
        intro w
        refine wpAny_handleBy_nil ?_
        obtain ⟨k1, k2, k3, oe, vs, T, oT, ts', he, hz, hd, h1, hr⟩ := id fl3
        unfold PySem.passOn
        refine wpAny_bind (wpAny_field he hd h1 ?_)
        rw [if_neg (show ¬ ((Value.ref T == Value.none) = true) from by simp)]
        have fin : wpAny (model X.prog X.w) X.A (setFlight (.ref a) X.env.frame) (fun _ s4 => wpAny (model X.prog X.w) X.A (throw (.ref a) : Sem Flow) (SP X pins D) X.xe s4) X.xe { s' with heap := h3 } := by
          rw [hf]
          refine HandSPX.setFlight_upZ fl3 fun h4 hh4 up4 => wpAny_throw (tk _ _ ?_)
          exact ⟨a, B, sI, pins, σ', H', cls, d, rfl, J, nb, (up.trans up3).trans up4, .inr (.inr (hs ▸ hh4)), na, os, ag, w⟩
        first
          | exact wpAny_bind (wpAny_pure (wpAny_bind fin))
          | exact wpAny_bind fin
      | @plain x c ts b₀ su p1 p2 hds2 l2 hc hsu r ih =>
        intro w
        obtain ⟨b, hb1, hyes, hno⟩ := w
        refine wpAny_handleBy_cons (codeAny_handlers_test ?_) (by intro q; cases q)
        refine test hc ((PySem.W.exm_one (M := model X.prog X.w) (J3.kIn) LT hb1).here ?_)
        cases b with
        | true =>
          refine codeAny_handlers_suite (HandSPX.lands_againZ fl3 fun h4 fl4 up4 => ?_)
          have J4 := adopted (hyes rfl).1 h4 (J.landed nb fl4.1 ((up.trans up3).trans up4) os ag) fl4
          refine wpAny_mono ((hsu a cls (X.pn ++ pins)).run [] _ _ _ _ (toSuite J4 a) ((hyes rfl).2 a na)) (fun f s6 q6 => ?_) (fun _ _ z => False.elim z)
          cases f with
          | next => exact let ⟨σ6, H6, S6, q⟩ := q6; ⟨_, _, offSuite S6 ok, q⟩
          | brk => exact let ⟨σ6, H6, S6, q⟩ := q6; ⟨_, _, offSuite S6 ok, q⟩
          | cont => exact let ⟨σ6, H6, S6, q⟩ := q6; ⟨_, _, offSuite S6 ok, q⟩
          | ret u => exact let ⟨v6, σ6, H6, S6, r6, q⟩ := q6; ⟨_, _, _, offSuite S6 ok, r6, q⟩
        | false =>
          show wpAny _ X.A (handleBy (.ref a) X.env hds2) _ _ _
          exact ih (hno rfl)
      | @named x n i c ts b₀ su p1 p2 hds2 l2 hc hi hln hsu r ih =>
        intro w
        obtain ⟨b, hb1, hyes, hno⟩ := w
        refine wpAny_handleBy_cons (codeAny_handlers_test ?_) (by intro q; cases q)
        refine test hc ((PySem.W.exm_one (M := model X.prog X.w) (J3.kIn) LT hb1).here ?_)
        cases b with
        | true =>
          refine codeAny_handlers_suite_as (HandSPX.lands_againZ fl3 fun h4 fl4 up4 => ?_)
          have J4 := adopted (hyes rfl).1 h4 (J.landed nb fl4.1 ((up.trans up3).trans up4) os ag) fl4
          refine store_ok (X := X.suite a (X.pn ++ pins)) (v := .ref a) (toSuite J4 a) hN hi (.inl hln) rfl (fun s5 S5 => ?_) (.inr hln)
          refine wpAny_mono ((hsu a cls (X.pn ++ pins)).run [] s5 _ _ _ S5 ((hyes rfl).2 a na)) (fun f s6 q6 => ?_) (fun _ _ z => False.elim z)
          have gone : ∀ {σ6 : L2.St} {H6 : Hp} {Q : Shared → Prop}, Inv (X.suite a (X.pn ++ pins)) [] σ6 H6 s6 → (∀ s7, Inv X pins (σ6.set i none) H6 s7 → Q s7) →
              wpAny (model X.prog X.w) X.A (do bindName X.env n .none; unbindBehindTheSuite X.env n p2) (fun _ s7 => Q s7) X.xe s6 := fun {σ6 H6 Q} S6 hq => gone_ok (offSuite S6 ok) hN hi hln hq
          cases f with
          | next => exact let ⟨σ6, H6, S6, q⟩ := q6; gone S6 fun s7 J7 => ⟨_, _, J7, q⟩
          | brk => exact let ⟨σ6, H6, S6, q⟩ := q6; gone S6 fun s7 J7 => ⟨_, _, J7, q⟩
          | cont => exact let ⟨σ6, H6, S6, q⟩ := q6; gone S6 fun s7 J7 => ⟨_, _, J7, q⟩
          | ret u => exact let ⟨v6, σ6, H6, S6, r6, q⟩ := q6; gone S6 fun s7 J7 => ⟨_, _, _, J7, r6, q⟩
        | false =>
          show wpAny _ X.A (handleBy (.ref a) X.env hds2) _ _ _
          exact ih (hno rfl)
    exact go hh wish
  · cases f with
    | next => exact let ⟨σ', H', J', q⟩ := hsp; wpAny_execs_nil ⟨σ', H', J'.ofTry ok, q⟩
    | brk => exact let ⟨σ', H', J', q⟩ := hsp; ⟨σ', H', J'.ofTry ok, q⟩
    | cont => exact let ⟨σ', H', J', q⟩ := hsp; ⟨σ', H', J'.ofTry ok, q⟩
    | ret u => exact let ⟨v, σ', H', J', r, q⟩ := hsp; ⟨v, σ', H', J'.ofTry ok, r, q⟩

/-! ### defs that run wherever they are called: no loop, nothing raised -/
structure FnA (P : Program) (w : World) (K : PySem.W.Frag) (mg : Str → Option Value) (base : Heap) (k : Nat) (f : Addr) (fd : FuncData) (ps : List Str) (sp : Sp) : Prop where
  len : ∀ vs H Q E, sp vs H Q E → vs.length = ps.length
  run : ∀ (A : Around) (outer : List Env) (s : Shared) (H : Hp) (args : Args) (us : List Value) (vs : List V) (Q : VK) (E : XK), L2H.RoomH k A → Env0 P w K mg base A outer s H → BindsTo s fd args (ps.zip us) → Vals vs us → sp vs H Q E →
    codeAny (model P w) A (.call (.ref f) args) (CR CX0 outer P w H s Q E) s
section
variable {P : Program} {w : World} {K : PySem.W.Frag} {mg : Str → Option Value} {base : Heap} {k : Nat} {f : Addr} {fd : FuncData} {ps N : List Str} {sp : Sp}
theorem FnA.ok (F : FnA P w K mg base k f fd ps sp) : FnOk P w K mg base CX0 k f fd ps sp := ⟨F.len, fun A outer s H args us vs Q E hr => F.run A outer s H args us vs Q E (L2H.roomH_of hr)⟩
/-- the context of such a def's body -/
def cxA (P : Program) (w : World) (K : PySem.W.Frag) (mg : Str → Option Value) (base : Heap) (N : List Str) (qual : Str) (scope : Scope) (f : Addr) (cd : Value) (A : Around) (outer : List Env) (s : Shared) (H : Hp) : Cx :=
  { cxOf CX0 P w K mg base N qual scope f cd A outer s H E0 with calm := false, xe := fun _ _ => False }
theorem fn_ofA {name qual : Str} {params : Arguments} {body : List Stmt} {scope : Scope} {dV kV doc pm cdv ct oc : Value} {an od : Option Addr} {osl : Array (Option Value)}
    (lk : K.lookup f = some ⟨oc, od, .func (PySem.W.fnOf name qual params body scope dV kV doc pm an cdv ct), osl⟩) (hcd : PySem.W.codeIn K cdv qual = true) (S : FnScope N ps scope) (len : ∀ vs H Q E, sp vs H Q E → vs.length = ps.length)
    (hbody : ∀ (A : Around) (outer : List Env) (s : Shared) (H : Hp) (vs : List V) (Q : VK) (E : XK), L2H.RoomH k (A.deeper (envOfC qual scope s.heap.objs.size f cdv)) → sp vs H Q E →
      ∃ t, PSs (cxA P w K mg base N qual scope f cdv A outer s H) body t ∧ t { nx := fun _ H' => Q .non H', rt := Q } (L2.start N vs) H) :
    FnA P w K mg base (k + 1) f (PySem.W.fnOf name qual params body scope dV kV doc pm an cdv ct) ps sp := by
  refine ⟨len, fun A outer s H args us vs Q E room e0 hb rv hsp => ?_⟩
  have kx : K.In s.heap := e0.mod.kin.keeps fun b o e => (e0.bs b o e).1
  have nolim : s.heap.NoLimit := e0.mod.nolimit.keeps fun b o e => (e0.bs b o e).1
  refine codeAny_call_function room.depth (kx _ _ lk) rfl S.co S.gen rfl (PySem.W.codeRec_of kx hcd) (hb _ _ _ _ (wpAny_newFunctionEnv_cells S.kind (fun ⟨n, v⟩ hy => ?_) fun env he s1 x => ?_))
  · rcases S.par n (List.of_mem_zip hy).1 with q | q
    · exact .inl q
    · exact .inr ⟨q, PySem.W.cellsFrom_some _ _ _ (.inl q)⟩
  subst he
  refine ⟨nolim.keeps x.toInCall.keep, codeAny_func ?_⟩
  obtain ⟨t, ht, hq⟩ := hbody A outer s H vs Q E (room.deeper _) hsp
  have I0 := inv_start (CX := CX0) (E := E0) (A := { A with handled := none }) S rfl (⟨e0.frames, e0.mod, e0.bs, e0.bsz, e0.funs, e0.frf, e0.hok, e0.bare⟩ : Env0 P w K mg base { A with handled := none } outer s H) (len _ _ _ _ hsp) rv x
  have I : Inv (cxA P w K mg base N qual scope f cdv A outer s H) [] (L2.start N vs) H s1 :=
    ⟨⟨I0.ok.mod, I0.ok.kind, I0.ok.glob, I0.ok.blt, I0.ok.above, I0.ok.inj, I0.ok.has, I0.ok.cab, (fun z => nomatch (show false = true from z)), Around.frames_deeper e0.frames, I0.ok.stk, I0.ok.exf, I0.ok.bs, I0.ok.bsz, I0.ok.noex, I0.ok.exfs, I0.ok.funs, I0.ok.frf⟩,
      I0.os, I0.bare, I0.base, I0.loc, I0.cell, I0.free, I0.freeC, I0.pin, I0.hok, I0.len⟩
  refine wpAny_mono (ht.run [] s1 (L2.start N vs) H _ I hq) (fun fl s' hs => ?_) fun e s' z => z.elim
  cases fl with
  | ret u => exact let ⟨v, σ', H', J, r2, q⟩ := hs; (⟨v, H', J.os, J.bare, J.base, J.hok, r2, q⟩ : CE outer P w H s Q u s')
  | next => exact let ⟨σ', H', J, q⟩ := hs; (⟨V.non, H', J.os, J.bare, J.base, J.hok, rfl, q⟩ : CE outer P w H s Q .none s')
  | brk => exact let ⟨_, _, _, q⟩ := hs; False.elim q
  | cont => exact let ⟨_, _, _, q⟩ := hs; False.elim q
theorem funOkA {x qual : Str} {st : Stmt} (F : Fun K x qual st f fd) (S : FnScope N ps (defScope st)) (len : ∀ vs H Q E, sp vs H Q E → vs.length = ps.length)
    (hbody : ∀ (cdv : Value) (A : Around) (outer : List Env) (s : Shared) (H : Hp) (vs : List V) (Q : VK) (E : XK), L2H.RoomH k (A.deeper (envOfC qual (defScope st) s.heap.objs.size f cdv)) → sp vs H Q E →
      ∃ t, PSs (cxA P w K mg base N qual (defScope st) f cdv A outer s H) (defBody st) t ∧ t { nx := fun _ H' => Q .non H', rt := Q } (L2.start N vs) H) : FnA P w K mg base (k + 1) f fd ps sp := by
  obtain ⟨oc, od, kV, doc, pm, an, cdv, ct, osl, rfl, lk, hcd⟩ := F.ex
  exact fn_ofA lk hcd S len fun A outer s H vs Q E => hbody cdv A outer s H vs Q E
end
/-- such a def called, anywhere -/
theorem pe_callA {X : Cx} {k : Nat} {f : Addr} {fd : FuncData} {ps : List Str} {sp : Sp} {x : Str} {q pos : Pos} {e : Expr} {es : List Expr} {t : TA} (F : FnA X.prog X.w X.K X.mg X.base k f fd ps sp) (hr : L2H.RoomH k X.A) (hg : Gl X x) (hm : X.mg x = some (.ref f)) (hk : PySem.W.keepIn X.K (.ref f) = true) (hb : Binds X.K fd ps [])
    (ha : PA X (e :: es) t) (hdb : (x == ("__debug__" : Str)) = false := by decide) (he : starEach (e :: es) X.env = (false, eval e X.env) :: starEach es X.env := by rfl) (hpl : (backTo pos (starEach es X.env)).any (·.1) = false := by rfl) :
    PE X (.Call (.Name x q) (e :: es) [] pos) (fun σ H Q => t σ H fun vs H1 => sp vs H1 Q E0) := by
  refine ⟨fun pins s σ H Q I h => ?_⟩
  refine wpAny_Call_Name_kw (ld_glob I hg hm (PySem.W.callWith_K (h₀ := X.base) I.ok.mod.kin hk (thn (ha.run pos pins s σ H _ I h) fun us s1 ⟨vs, H1, I1, r, q⟩ => ⟨I1.kIn, ?_⟩) he hpl) hdb)
  have b := hb s1 us I1.kIn (by rw [List.append_nil, ← r.length]; exact F.len _ _ _ _ q)
  rw [List.append_nil] at b
  refine wpAny_call (codeAny_mono (F.run X.A X.stack s1 H1 ⟨us, []⟩ us vs Q E0 hr I1.env0 b r q) fun r' s' hq => ?_)
  cases r' with
  | error e => exact False.elim hq
  | ok fl => cases fl with
    | ret u => exact I1.after hq
    | next => exact False.elim hq
    | brk => exact False.elim hq
    | cont => exact False.elim hq
theorem roomH_mark {k : Nat} {A : Around} {v : Option Value} (r : Room k A) : L2H.RoomH k (A.mark v) := ⟨r.dp, r.un⟩
end Vf
set_option Elab.async false
set_option linter.all false
set_option maxRecDepth 100000
set_option maxHeartbeats 4000000
/-! More rules of my own: callees by name, a list or a tuple walked, data, the program's exception classes, the end with loose names. -/
namespace Vf
open PySem PySem.Spec PyProof.Rows L2

/-! ### heaps -/
theorem same_upd {H : Hp} {p : Addr} {o : HO} (h : H p = none) : Same H (upd H p o) := fun b x e => by
  rw [upd_ne (ne_of_none e h)]
  exact e
theorem Same.seqT {K : PySem.W.Frag} {H H' : Hp} {a : Addr} {xs : List V} (e : Same H H') (h : SqT K H a xs) : SqT K H' a xs := by
  rcases h with (h | ⟨o, h⟩) | h
  · exact .inl (.inl (e _ _ h))
  · exact .inl (.inr ⟨o, e _ _ h⟩)
  · exact .inr h
/-- the tape: a list of one int -/
def Tp (H : Hp) (t : Addr) : Prop := ∃ n : Int, H t = some (.lst [.int n])
/-- all but the tape is as it was -/
def Kp (t : Addr) (H H' : Hp) : Prop := (∀ b o, H b = some o → b ≠ t → H' b = some o) ∧ Tp H' t
theorem Kp.refl {t : Addr} {H : Hp} (h : Tp H t) : Kp t H H := ⟨fun _ _ e _ => e, h⟩
theorem Kp.trans {t : Addr} {H H1 H2 : Hp} (a : Kp t H H1) (b : Kp t H1 H2) : Kp t H H2 := ⟨fun c o e n => b.1 c o (a.1 c o e n) n, b.2⟩
theorem Kp.same {t : Addr} {H H1 H2 : Hp} (a : Kp t H H1) (b : Same H1 H2) : Kp t H H2 := ⟨fun c o e n => b c o (a.1 c o e n), let ⟨n, e⟩ := a.2; ⟨n, b _ _ e⟩⟩
theorem Kp.ofSame {t : Addr} {H H1 : Hp} (a : Tp H t) (b : Same H H1) : Kp t H H1 := (Kp.refl a).same b
theorem Kp.lay {t p : Addr} {o : HO} {H H1 : Hp} (a : Kp t H H1) (n : H1 p = none) : Kp t H (upd H1 p o) := a.same (same_upd n)
theorem Kp.tape {t : Addr} {n : Int} {H H1 : Hp} (a : Kp t H H1) : Kp t H (upd H1 t (.lst [.int n])) := ⟨fun b o e h => by rw [upd_ne h]; exact a.1 b o e h, ⟨n, upd_same⟩⟩
theorem Kp.free {t : Addr} {H H' : Hp} (a : Kp t H H') (h : Tp H t) {l : Addr} (e : H' l = none) : H l = none := by
  cases q : H l with
  | none => rfl
  | some o =>
    by_cases z : l = t
    · obtain ⟨n, r⟩ := a.2
      rw [z, r] at e
      cases e
    · rw [a.1 l o q z] at e
      cases e

/-! ### readings may be weakened -/
theorem _root_.L2.PE.imp {X : Cx} {e : Expr} {t t' : TE} (h : PE X e t) (i : ∀ σ H Q, t' σ H Q → t σ H Q) : PE X e t' := ⟨fun pins s σ H Q I q => h.run pins s σ H Q I (i _ _ _ q)⟩
theorem _root_.L2.PA.imp {X : Cx} {e : List Expr} {t t' : TA} (h : PA X e t) (i : ∀ σ H Q, t' σ H Q → t σ H Q) : PA X e t' := ⟨fun pos pins s σ H Q I q => h.run pos pins s σ H Q I (i _ _ _ q)⟩
theorem _root_.L2.PSs.imp {X : Cx} {e : List Stmt} {t t' : TS} (h : PSs X e t) (i : ∀ σ H Q, t' σ H Q → t σ H Q) : PSs X e t' := ⟨fun pins s σ H Q I q => h.run pins s σ H Q I (i _ _ _ q)⟩

/-! ### callees by their names -/
structure Cal (P : Program) (w : World) (K : PySem.W.Frag) (mg : Str → Option Value) (base : Heap) (CX : CXT) (k : Nat) (x : Str) (ps : List Str) (sp : Sp) : Prop where
  ex : ∃ (f : Addr) (fd : FuncData), mg x = some (.ref f) ∧ PySem.W.keepIn K (.ref f) = true ∧ Binds K fd ps [] ∧ FnOk P w K mg base CX k f fd ps sp
structure CalA (P : Program) (w : World) (K : PySem.W.Frag) (mg : Str → Option Value) (base : Heap) (k : Nat) (x : Str) (ps : List Str) (sp : Sp) : Prop where
  ex : ∃ (f : Addr) (fd : FuncData), mg x = some (.ref f) ∧ PySem.W.keepIn K (.ref f) = true ∧ Binds K fd ps [] ∧ FnA P w K mg base k f fd ps sp
theorem CalA.cal {P : Program} {w : World} {K : PySem.W.Frag} {mg : Str → Option Value} {base : Heap} {k : Nat} {x : Str} {ps : List Str} {sp : Sp} (c : CalA P w K mg base k x ps sp) : Cal P w K mg base CX0 k x ps sp := by
  obtain ⟨f, fd, h1, h2, h3, h4⟩ := c.ex
  exact ⟨f, fd, h1, h2, h3, h4.ok⟩
def tCal (sp : Sp) (E : XK) (t : TA) : TE := fun σ H Q => t σ H fun vs H1 => sp vs H1 Q E
section
variable {X : Cx} {CX : CXT} {k : Nat} {ps : List Str} {sp : Sp} {x : Str} {p pos : Pos} {e : Expr} {es : List Expr} {t : TA}
theorem pe_cal {E : XK} (c : Cal X.prog X.w X.K X.mg X.base CX k x ps sp) (hr : Room k X.A) (hg : Gl X x) (hx : Passes CX X E) (ha : PA X (e :: es) t) (hdb : (x == ("__debug__" : Str)) = false := by decide)
    (he : starEach (e :: es) X.env = (false, eval e X.env) :: starEach es X.env := by rfl) (hpl : (backTo pos (starEach es X.env)).any (·.1) = false := by rfl) : PE X (.Call (.Name x p) (e :: es) [] pos) (tCal sp E t) := by
  obtain ⟨f, fd, h1, h2, h3, h4⟩ := c.ex
  exact (pe_call (dvs := []) h4 hr hg h1 h2 h3 .nil hx ha hdb he hpl).imp fun σ H Q q => by
    unfold tCall
    simp only [List.append_nil]
    exact q
theorem pe_calS {E : L2.St → XK} (c : Cal X.prog X.w X.K X.mg X.base CX k x ps sp) (hr : Room k X.A) (hg : Gl X x) (hx : ∀ σ, PassesAt CX X σ (E σ)) (ha : PA X (e :: es) t) (hdb : (x == ("__debug__" : Str)) = false := by decide)
    (he : starEach (e :: es) X.env = (false, eval e X.env) :: starEach es X.env := by rfl) (hpl : (backTo pos (starEach es X.env)).any (·.1) = false := by rfl) : PE X (.Call (.Name x p) (e :: es) [] pos) (tCallS sp E t) := by
  obtain ⟨f, fd, h1, h2, h3, h4⟩ := c.ex
  exact pe_callS h4 hr hg h1 h2 h3 hx ha hdb he hpl
theorem pe_calA (c : CalA X.prog X.w X.K X.mg X.base k x ps sp) (hr : L2H.RoomH k X.A) (hg : Gl X x) (ha : PA X (e :: es) t) (hdb : (x == ("__debug__" : Str)) = false := by decide)
    (he : starEach (e :: es) X.env = (false, eval e X.env) :: starEach es X.env := by rfl) (hpl : (backTo pos (starEach es X.env)).any (·.1) = false := by rfl) : PE X (.Call (.Name x p) (e :: es) [] pos) (tCal sp E0 t) := by
  obtain ⟨f, fd, h1, h2, h3, h4⟩ := c.ex
  exact pe_callA h4 hr hg h1 h2 h3 ha hdb he hpl
/-- an object made by an __init__ that may raise, the wish at the slots as they stand -/
theorem pe_makS {C f : Addr} {fd : FuncData} {dvs : List V} {ds : List Value} {E : L2.St → XK} (M : Mk X.K C f) (F : FnOk X.prog X.w X.K X.mg X.base CX k f fd ps sp) (hr : Room (k + 1) X.A) (hg : Gl X x) (hm : X.mg x = some (.ref C)) (hb : Binds X.K fd ps ds) (hd : Vals dvs ds)
    (hx : ∀ σ, PassesAt CX X σ (E σ)) (ha : PA X (e :: es) t) (hdb : (x == ("__debug__" : Str)) = false := by decide) (he : starEach (e :: es) X.env = (false, eval e X.env) :: starEach es X.env := by rfl) (hpl : (backTo pos (starEach es X.env)).any (·.1) = false := by rfl) :
    PE X (.Call (.Name x p) (e :: es) [] pos) (fun σ H Q => t σ H fun vs H1 => ∀ y dy, H1 y = none → H1 dy = none → dy ≠ y →
      sp (.ref y :: (vs ++ dvs)) (upd (upd H1 dy (.own y)) y (.ins C dy [])) (fun v H2 => v = .non ∧ Q (.ref y) H2) (E σ)) := by
  refine ⟨fun pins s σ H Q I h => ?_⟩
  refine wpAny_Call_Name_kw (ld_glob I hg hm (PySem.W.callWith_K (h₀ := X.base) I.ok.mod.kin M.kp (thn (ha.run pos pins s σ H _ I h) fun us s1 ⟨vs, H1, I1, r, q⟩ => ⟨I1.kIn, ?_⟩) he hpl) hdb)
  have hq := q (s1.heap.objs.size + 1) s1.heap.objs.size (I1.hok.fresh (Nat.le_succ _)) (I1.hok.fresh (Nat.le_refl _)) (Nat.ne_of_lt (Nat.lt_succ_self _))
  have J := Inv.made (C := C) I1
  have rr : Vals (V.ref (s1.heap.objs.size + 1) :: (vs ++ dvs)) (Value.ref (s1.heap.objs.size + 1) :: (us ++ ds)) := .cons rfl (r.append hd)
  have hl : (Value.ref (s1.heap.objs.size + 1) :: us ++ ds).length = ps.length := rr.length.symm.trans (F.len _ _ _ _ hq)
  refine wpAny_call (make_map (f := f) I1.kIn M.makes M.init (beq_iff_eq.mp M.fn) (codeAny_mono (F.run _ X.stack _ _ ⟨Value.ref (s1.heap.objs.size + 1) :: us, []⟩ (Value.ref (s1.heap.objs.size + 1) :: (us ++ ds)) _ _ (E σ) (hr.make C us [])
    (J.env0.make C us []) (hb _ (Value.ref (s1.heap.objs.size + 1) :: us) J.kIn hl) rr hq) fun r' s' hq' => ?_))
  cases r' with
  | error e => exact hx σ pins _ _ e s' J hq'
  | ok fl => cases fl with
    | ret u =>
      obtain ⟨v, H', I3, rv, rfl, q3⟩ := J.after hq'
      exact ⟨rv, ⟨V.ref (s1.heap.objs.size + 1), H', I3, rfl, q3⟩⟩
    | next => exact False.elim hq'
    | brk => exact False.elim hq'
    | cont => exact False.elim hq'
end

/-! ### a list or a tuple -/
def SqV (K : PySem.W.Frag) (H : Hp) (a : Addr) (xs : List V) : Prop := SqL K H a xs ∨ SqT K H a xs
theorem SqV.same {K : PySem.W.Frag} {H H' : Hp} {a : Addr} {xs : List V} (h : SqV K H a xs) (e : Same H H') : SqV K H' a xs := h.elim (fun q => .inl (e.seq q)) fun q => .inr (Same.seqT e q)
def iSeq (K : PySem.W.Frag) (tl : TE) : TI := fun σ H R => tl σ H fun x H1 => ∃ a, x = .ref a ∧ (((∃ xs, SqL K H1 a xs) ∧ R (Itl K a) H1) ∨ ((∃ xs, SqT K H1 a xs) ∧ R (Itt K a) H1))
theorem pi_seq {X : Cx} {tg l : Expr} {tl : TE} (hl : PE X l tl) : PI X tg l (iSeq X.K tl) := by
  refine ⟨fun pins s σ H R I h => thn (hl.run pins s σ H _ I h) fun v s1 ⟨x, H1, I1, r1, q1⟩ => ?_⟩
  obtain ⟨a, rfl, q⟩ := q1
  cases r1
  rcases q with ⟨⟨xs, hq⟩, q⟩ | ⟨⟨xs, hq⟩, q⟩
  · obtain ⟨its, rv, p, hz⟩ := I1.list hq
    refine wpAny_pyIter_list p.isList ⟨s1.heap.objs.size, [s1.heap.objs.size], _, _, H1, rfl, I1.kept (t' := s1.toks) fun b o e => Heap.get?_push_of_some _ e, turn_list a _, ⟨_, Heap.get?_push_size _ rfl, rfl, rfl⟩, fun b hb => ?_, q⟩
    obtain rfl : b = s1.heap.objs.size := by simpa using hb
    exact I1.fpOk (Nat.le_refl _) (I1.hok.fresh (Nat.le_refl _))
  · obtain ⟨its, rv, p, hz⟩ := I1.tuple hq
    refine wpAny_pyIter_tuple (show s1.heap.IsTuple a its.toArray from p) ⟨s1.heap.objs.size, [s1.heap.objs.size], _, _, H1, rfl, I1.kept (t' := s1.toks) fun b o e => Heap.get?_push_of_some _ e, turn_tuple a _, ⟨_, Heap.get?_push_size _ rfl, rfl, rfl⟩, fun b hb => ?_, q⟩
    obtain rfl : b = s1.heap.objs.size := by simpa using hb
    exact I1.fpOk (Nat.le_refl _) (I1.hok.fresh (Nat.le_refl _))
/-- a comprehension over either -/
theorem lc_seq {K : PySem.W.Frag} {a : Addr} {xs : List V} {g : TG} {tt : TT} {te : TE} {vs : List Nat} {σ : L2.St} {H1 : Hp} {Q : Addr → Hp → Prop} (h : SqV K H1 a xs) (Pv : Addr → Nat → Hp → Prop) (h0 : ∀ D, H1 D = none → Pv D 0 (upd H1 D (.lst [])))
    (hl : ∀ D i H, H1 D = none → i ≤ xs.length → Pv D i H → Same H1 H)
    (hs : ∀ D i x H, H1 D = none → xs[i]? = some x → Pv D i H → g x (wipe σ vs) H fun σ2 H2 => wipe σ2 vs = wipe σ vs ∧ tt σ2 H2 fun b H3 =>
      if b = true then te σ2 H3 fun y H4 => ∃ acc, H4 D = some (.lst acc) ∧ acc.length < sizeLine ∧ Pv D (i + 1) (upd H4 D (.lst (acc ++ [y]))) else Pv D (i + 1) H3) (hd : ∀ D H, H1 D = none → Pv D xs.length H → Q D H) :
    ((∃ xs, SqL K H1 a xs) ∧ ∀ D, H1 D = none → ∃ W : Nat → Nat → Hp → Prop, (∃ m, W 0 m (upd H1 D (.lst []))) ∧ ∀ i m H, W i m H →
      ((Itl K a).stop i H ∧ Q D H) ∨ ((Itl K a).go i H ∧ ∃ Nx : Hp → Prop, (∀ H', Nx H' → ∃ m', m' < m ∧ W (i + 1) m' H') ∧ ∀ x H', (Itl K a).yld i H x H' → g x (wipe σ vs) H' fun σ2 H2 => wipe σ2 vs = wipe σ vs ∧ tt σ2 H2 fun b H3 =>
        if b = true then te σ2 H3 fun y H4 => ∃ acc, H4 D = some (.lst acc) ∧ acc.length < sizeLine ∧ Nx (upd H4 D (.lst (acc ++ [y]))) else Nx H3)) ∨
    ((∃ xs, SqT K H1 a xs) ∧ ∀ D, H1 D = none → ∃ W : Nat → Nat → Hp → Prop, (∃ m, W 0 m (upd H1 D (.lst []))) ∧ ∀ i m H, W i m H →
      ((Itt K a).stop i H ∧ Q D H) ∨ ((Itt K a).go i H ∧ ∃ Nx : Hp → Prop, (∀ H', Nx H' → ∃ m', m' < m ∧ W (i + 1) m' H') ∧ ∀ x H', (Itt K a).yld i H x H' → g x (wipe σ vs) H' fun σ2 H2 => wipe σ2 vs = wipe σ vs ∧ tt σ2 H2 fun b H3 =>
        if b = true then te σ2 H3 fun y H4 => ∃ acc, H4 D = some (.lst acc) ∧ acc.length < sizeLine ∧ Nx (upd H4 D (.lst (acc ++ [y]))) else Nx H3)) := by
  rcases h with h | h
  · exact .inl ⟨⟨xs, h⟩, fun D nD => lc_list (xs := xs) (Pv D) (h0 D nD) (fun i H hi p => (hl D i H nD hi p).seq h) (fun i x H e p => hs D i x H nD e p) fun H p => hd D H nD p⟩
  · exact .inr ⟨⟨xs, h⟩, fun D nD => lc_tup (xs := xs) (Pv D) (h0 D nD) (fun i H hi p => Same.seqT (hl D i H nD hi p) h) (fun i x H e p => hs D i x H nD e p) fun H p => hd D H nD p⟩
/-- the same as an expression's rule -/
def MonoE (t : TE) : Prop := ∀ σ H (Q Q' : VK), (∀ x H1, Q x H1 → Q' x H1) → t σ H Q → t σ H Q'
theorem mono_var {i : Nat} : MonoE (tVar i) := fun _ _ _ _ h ⟨v, e, q⟩ => ⟨v, e, h _ _ q⟩
def tLcS (K : PySem.W.Frag) (tl : TE) (g : TG) (tt : TT) (te : TE) (vs : List Nat) : TE := fun σ H Q => tl σ H fun x H1 => ∃ (a : Addr) (xs : List V) (Pv : Addr → Nat → Hp → Prop), x = .ref a ∧ SqV K H1 a xs ∧ (∀ D, H1 D = none → Pv D 0 (upd H1 D (.lst []))) ∧
  (∀ D i H2, H1 D = none → i ≤ xs.length → Pv D i H2 → Same H1 H2) ∧
  (∀ D i x H2, H1 D = none → xs[i]? = some x → Pv D i H2 → g x (wipe σ vs) H2 fun σ2 H2 => wipe σ2 vs = wipe σ vs ∧ tt σ2 H2 fun b H3 =>
    if b = true then te σ2 H3 fun y H4 => ∃ acc, H4 D = some (.lst acc) ∧ acc.length < sizeLine ∧ Pv D (i + 1) (upd H4 D (.lst (acc ++ [y]))) else Pv D (i + 1) H3) ∧
  (∀ D H2, H1 D = none → Pv D xs.length H2 → Q (.ref D) H2)
theorem pe_lcS {X : Cx} {elt tg l : Expr} {ifs : List Expr} {scope : Scope} {own : List (Str × Nat)} {pos : Pos} {tl : TE} {g : TG} {tt : TT} {te : TE} (hc : X.calm = true) (hN : X.N.Nodup) (hl : PE X l tl) (mo : MonoE tl) (ok : BlkOk X.N X.env.scope scope own)
    (hg : ∀ (s : Shared) (H : Hp) (C : Addr) (cl : List (Str × Addr)) (fp : List Addr), PG (X.blk s H scope (compEnvC scope cl C X.env) fp) tg g) (ht : ∀ (s : Shared) (H : Hp) (C : Addr) (cl : List (Str × Addr)) (fp : List Addr), PTs (X.blk s H scope (compEnvC scope cl C X.env) fp) ifs tt)
    (he : ∀ (s : Shared) (H : Hp) (C : Addr) (cl : List (Str × Addr)) (fp : List Addr), PE (X.blk s H scope (compEnvC scope cl C X.env) fp) elt te) (hs : ∀ x, foldedSetIterable l X.env x = pure x := by intro _; rfl) :
    PE X (.ListComp elt [⟨tg, l, ifs, 0⟩] scope pos) (tLcS X.K tl g tt te (own.map (·.2))) := by
  refine (pe_lc hc hN (pi_seq hl) ok hg ht he hs).imp fun σ H Q q => mo _ _ _ _ (fun x H1 q => ?_) q
  obtain ⟨a, xs, Pv, rfl, hS, h0, hk, hst, hd⟩ := q
  exact ⟨a, rfl, lc_seq (g := g) (tt := tt) (te := te) (vs := own.map (·.2)) (σ := σ) (Q := fun D H2 => Q (.ref D) H2) hS Pv h0 hk hst hd⟩
/-- for i, x in enumerate(list) -/
theorem for_enum {K : PySem.W.Frag} {a : Addr} {xs : List V} {g : TG} {tb : TS} {D : Ends} {σ : L2.St} {H : Hp} (Pv : Nat → L2.St → Hp → Prop) (h0 : Pv 0 σ H) (hl : ∀ i σ H, i ≤ xs.length → Pv i σ H → SqL K H a xs)
    (hs : ∀ i x T σ H, xs[i]? = some x → Pv i σ H → H T = none → g (.ref T) σ (upd H T (.tup [.int (i : Nat), x])) fun σ2 H2 => tb { D with nx := Pv (i + 1), ct := Pv (i + 1), bk := D.nx } σ2 H2) (hd : ∀ σ H, Pv xs.length σ H → D.nx σ H) :
    ∃ W : Nat → Nat → L2.St → Hp → Prop, (∃ m, W 0 m σ H) ∧ ∀ i m σ H, W i m σ H →
      ((Ite K a).stop i H ∧ D.nx σ H) ∨ ((Ite K a).go i H ∧ ∃ N : L2.St → Hp → Prop, (∀ σ' H', N σ' H' → ∃ m', m' < m ∧ W (i + 1) m' σ' H') ∧ ∀ x H', (Ite K a).yld i H x H' → g x σ H' fun σ2 H2 => tb { D with nx := N, ct := N, bk := D.nx } σ2 H2) := by
  refine ⟨fun i m σ H => m = xs.length - i ∧ i ≤ xs.length ∧ Pv i σ H, ⟨xs.length, by simp, Nat.zero_le _, h0⟩, ?_⟩
  rintro i m σ H ⟨rfl, hi, p⟩
  have q := hl i σ H hi p
  by_cases hlt : i < xs.length
  · refine .inr ⟨⟨xs, xs[i], q, by simp [hlt]⟩, Pv (i + 1), fun σ' H' p' => ⟨xs.length - (i + 1), by omega, rfl, hlt, p'⟩, fun x H' y => ?_⟩
    obtain ⟨T, z, rfl, nT, rfl, f⟩ := y
    exact hs i z T σ H (f xs q) p nT
  · obtain rfl : i = xs.length := by omega
    exact .inl ⟨⟨xs, q, Nat.le_refl _⟩, hd σ H p⟩

/-! ### data: what a thing is, whatever it may be -/
inductive Dt where
  | non | bl (b : Bool) | int (i : Int) | str (s : Str) | lst (l : List Dt) | tup (l : List Dt) | dct (l : List (Key × Dt))
mutual
inductive Rp (K : PySem.W.Frag) (H : Hp) : V → Dt → Prop
  | non : Rp K H .non .non
  | bl (b : Bool) : Rp K H (.bl b) (.bl b)
  | int (i : Int) : Rp K H (.int i) (.int i)
  | str (x : Str) : Rp K H (.str x) (.str x)
  | lst {a : Addr} {xs : List V} {ds : List Dt} : SqL K H a xs → RpL K H xs ds → Rp K H (.ref a) (.lst ds)
  | tup {a : Addr} {xs : List V} {ds : List Dt} : SqT K H a xs → RpL K H xs ds → Rp K H (.ref a) (.tup ds)
  | dct {a : Addr} {kvs : List (Key × V)} {ds : List (Key × Dt)} : H a = some (.dK kvs) → RpD K H kvs ds → Rp K H (.ref a) (.dct ds)
inductive RpL (K : PySem.W.Frag) (H : Hp) : List V → List Dt → Prop
  | nil : RpL K H [] []
  | cons {v : V} {vs : List V} {d : Dt} {ds : List Dt} : Rp K H v d → RpL K H vs ds → RpL K H (v :: vs) (d :: ds)
inductive RpD (K : PySem.W.Frag) (H : Hp) : List (Key × V) → List (Key × Dt) → Prop
  | nil : RpD K H [] []
  | cons {k : Key} {v : V} {vs : List (Key × V)} {d : Dt} {ds : List (Key × Dt)} : Rp K H v d → RpD K H vs ds → RpD K H ((k, v) :: vs) ((k, d) :: ds)
end
section
variable {K : PySem.W.Frag} {H H' : Hp}
mutual
theorem Rp.same (s : Same H H') : ∀ {v : V} {d : Dt}, Rp K H v d → Rp K H' v d
  | _, _, .non => .non
  | _, _, .bl b => .bl b
  | _, _, .int i => .int i
  | _, _, .str x => .str x
  | _, _, .lst h r => .lst (s.seq h) (RpL.same s r)
  | _, _, .tup h r => .tup (Same.seqT s h) (RpL.same s r)
  | _, _, .dct h r => .dct (s _ _ h) (RpD.same s r)
theorem RpL.same (s : Same H H') : ∀ {v : List V} {d : List Dt}, RpL K H v d → RpL K H' v d
  | _, _, .nil => .nil
  | _, _, .cons h r => .cons (Rp.same s h) (RpL.same s r)
theorem RpD.same (s : Same H H') : ∀ {v : List (Key × V)} {d : List (Key × Dt)}, RpD K H v d → RpD K H' v d
  | _, _, .nil => .nil
  | _, _, .cons h r => .cons (Rp.same s h) (RpD.same s r)
end
theorem RpL.length : ∀ {v : List V} {d : List Dt}, RpL K H v d → v.length = d.length
  | _, _, .nil => rfl
  | _, _, .cons _ r => congrArg (· + 1) (RpL.length r)
theorem RpL.get : ∀ {v : List V} {d : List Dt} {i : Nat} {x : V}, RpL K H v d → v[i]? = some x → ∃ y, d[i]? = some y ∧ Rp K H x y
  | _, _, _, _, .nil, e => by simp at e
  | _, _, 0, _, .cons h _, e => by
    obtain rfl := Option.some.inj e
    exact ⟨_, rfl, h⟩
  | _, _, i + 1, x, .cons _ r, e => RpL.get (i := i) (x := x) r e
/-- the things that are lists or tuples -/
def Dt.items : Dt → Option (List Dt)
  | .lst l => some l
  | .tup l => some l
  | _ => none
theorem ty_list {a : Addr} {xs : List V} (h : SqL K H a xs) : TyX K H (.ref a) (.type "list") := by
  rcases h with (h | ⟨o, h⟩) | ⟨o, its, n, e, c, _⟩
  · exact .base (.lst h)
  · exact .base (.frz h)
  · exact .kList e c
theorem ty_tuple {a : Addr} {xs : List V} (h : SqT K H a xs) : TyX K H (.ref a) (.type "tuple") := by
  rcases h with (h | ⟨o, h⟩) | ⟨o, its, n, e, c, _⟩
  · exact .base (.tup h)
  · exact .fTuple h
  · exact .kTuple e c
/-- the name of a thing's class -/
def Dt.ty : Dt → String
  | .non => "NoneType"
  | .bl _ => "bool"
  | .int _ => "int"
  | .str _ => "str"
  | .lst _ => "list"
  | .tup _ => "tuple"
  | .dct _ => "dict"
theorem Rp.ty {v : V} {d : Dt} (r : Rp K H v d) : TyX K H v (.type d.ty) := by
  cases r with
  | non => exact .base .non
  | bl b => exact .base (.bl b)
  | int i => exact .base (.int i)
  | str x => exact .base (.str x)
  | lst h _ => exact ty_list h
  | tup h _ => exact ty_tuple h
  | dct h _ => exact .base (.dK h)
theorem Rp.items_some {v : V} {d : Dt} {l : List Dt} (r : Rp K H v d) (e : d.items = some l) : ∃ a xs, v = .ref a ∧ SqV K H a xs ∧ RpL K H xs l := by
  cases r with
  | lst h q =>
    obtain rfl := Option.some.inj e
    exact ⟨_, _, rfl, .inl h, q⟩
  | tup h q =>
    obtain rfl := Option.some.inj e
    exact ⟨_, _, rfl, .inr h, q⟩
  | _ => cases e
end
/-- isinstance of a thing, of one built-in class -/
def Dt.isInt : Dt → Bool
  | .bl _ => true
  | .int _ => true
  | _ => false
def Dt.isBool : Dt → Bool
  | .bl _ => true
  | _ => false
def Dt.isList : Dt → Bool
  | .lst _ => true
  | _ => false
def Dt.isTuple : Dt → Bool
  | .tup _ => true
  | _ => false
theorem isa_int : ∀ d : Dt, kitB d.ty "int" = some d.isInt
  | .non => show kitB "NoneType" "int" = some false by decide +kernel
  | .bl _ => show kitB "bool" "int" = some true by decide +kernel
  | .int _ => show kitB "int" "int" = some true by decide +kernel
  | .str _ => show kitB "str" "int" = some false by decide +kernel
  | .lst _ => show kitB "list" "int" = some false by decide +kernel
  | .tup _ => show kitB "tuple" "int" = some false by decide +kernel
  | .dct _ => show kitB "dict" "int" = some false by decide +kernel
theorem isa_bool : ∀ d : Dt, kitB d.ty "bool" = some d.isBool
  | .non => show kitB "NoneType" "bool" = some false by decide +kernel
  | .bl _ => show kitB "bool" "bool" = some true by decide +kernel
  | .int _ => show kitB "int" "bool" = some false by decide +kernel
  | .str _ => show kitB "str" "bool" = some false by decide +kernel
  | .lst _ => show kitB "list" "bool" = some false by decide +kernel
  | .tup _ => show kitB "tuple" "bool" = some false by decide +kernel
  | .dct _ => show kitB "dict" "bool" = some false by decide +kernel
theorem isa_list : ∀ d : Dt, kitB d.ty "list" = some d.isList
  | .non => show kitB "NoneType" "list" = some false by decide +kernel
  | .bl _ => show kitB "bool" "list" = some false by decide +kernel
  | .int _ => show kitB "int" "list" = some false by decide +kernel
  | .str _ => show kitB "str" "list" = some false by decide +kernel
  | .lst _ => show kitB "list" "list" = some true by decide +kernel
  | .tup _ => show kitB "tuple" "list" = some false by decide +kernel
  | .dct _ => show kitB "dict" "list" = some false by decide +kernel
theorem isa_tuple : ∀ d : Dt, kitB d.ty "tuple" = some d.isTuple
  | .non => show kitB "NoneType" "tuple" = some false by decide +kernel
  | .bl _ => show kitB "bool" "tuple" = some false by decide +kernel
  | .int _ => show kitB "int" "tuple" = some false by decide +kernel
  | .str _ => show kitB "str" "tuple" = some false by decide +kernel
  | .lst _ => show kitB "list" "tuple" = some false by decide +kernel
  | .tup _ => show kitB "tuple" "tuple" = some true by decide +kernel
  | .dct _ => show kitB "dict" "tuple" = some false by decide +kernel
theorem isa_seq {K : PySem.W.Frag} (d : Dt) : PySem.W.kitAny K (.type d.ty) [.type "list", .type "tuple"] = some d.items.isSome := by
  refine kitAny_cons (kit_ty (isa_list d)) (fun e => kitAny_cons (kit_ty (isa_tuple d)) (fun e2 => ?_) fun e2 => ?_) fun e => ?_
  · cases d <;> first | rfl | (cases e; done) | (cases e2; done)
  · cases d <;> first | rfl | cases e2
  · cases d <;> first | rfl | cases e

/-! ### the program's exception classes -/
abbrev veMro : List Value := [.type "ValueError", .type "Exception", .type "BaseException", .type "object"]
structure ExcF (K : PySem.W.Frag) (mg : Str → Option Value) (nm : Str) (C TE : Addr) : Prop where
  g : mg nm = some (.ref C)
  x : PySem.W.excIn K C veMro "ValueError.__new__" = true
  k : PySem.W.keepIn K (.ref C) = true
  t : PySem.W.typeIn K (.ref C) = some (.type "type")
  c : ExcC K C
  m : ∃ cd, PySem.W.clsIn K C = some cd ∧ cd.mro = .ref C :: .ref TE :: veMro
structure ExcB (K : PySem.W.Frag) (mg : Str → Option Value) (nm : Str) (TE : Addr) : Prop where
  g : mg nm = some (.ref TE)
  t : PySem.W.typeIn K (.ref TE) = some (.type "type")
  i : PySem.W.isClsIn K TE = true
  b : PySem.W.subIn K (.ref TE) (.type "BaseException") = some true
section
variable {K : PySem.W.Frag} {mg : Str → Option Value} {n n' : Str} {C D TE : Addr}
theorem ExcF.b (F : ExcF K mg n C TE) : PySem.W.subIn K (.ref C) (.type "BaseException") = some true := F.c.hs
theorem ExcF.is (F : ExcF K mg n C TE) : (PySem.W.clsIn K C).isSome = true := let ⟨cd, e, _⟩ := F.m; by rw [e]; rfl
theorem ExcF.sub (F : ExcF K mg n D TE) (v : Value) : PySem.W.subIn K (.ref D) v = some ((Value.ref D :: .ref TE :: veMro).contains v) := by
  obtain ⟨cd, e, m⟩ := F.m
  show PySem.W.mroIn K D v = _
  unfold PySem.W.mroIn
  rw [e, Option.bind_some, m]
  rfl
theorem kitCls_own (F : ExcF K mg n D TE) (h1 : (PySem.W.clsIn K C).isSome = true) (h2 : PySem.W.typeIn K (.ref C) = some (.type "type")) : PySem.W.kitCls K (.ref D) (.ref C) = some (decide (C = D) || decide (C = TE)) := by
  show (if ((PySem.W.clsIn K C).isSome && PySem.W.typeIn K (.ref C) == some (.type "type")) = true then PySem.W.subIn K (.ref D) (.ref C) else none) = _
  rw [h1, h2, if_pos (by rfl), F.sub]
  congr 1
  have e : ∀ a b : Addr, (Value.ref a == Value.ref b) = decide (a = b) := fun a b => by
    by_cases q : a = b
    · subst q
      simp
    · have : ¬ Value.ref a = Value.ref b := fun z => q (Value.ref.inj z)
      simp [q]
  rw [List.contains_cons, List.contains_cons, e, e, show veMro.contains (Value.ref C) = false from rfl, Bool.or_false]
theorem kit_own (F : ExcF K mg n D TE) (h1 : (PySem.W.clsIn K C).isSome = true) (h2 : PySem.W.typeIn K (.ref C) = some (.type "type")) : PySem.W.kitOne K (.ref D) (.ref C) = some (decide (C = D) || decide (C = TE)) := by
  unfold PySem.W.kitOne
  by_cases q : D = C
  · subst q
    simp
  · rw [if_neg (by simpa using fun z => q z)]
    exact kitCls_own F h1 h2
theorem exm_own (F : ExcF K mg n D TE) (h1 : (PySem.W.clsIn K C).isSome = true) (h2 : PySem.W.typeIn K (.ref C) = some (.type "type")) (h3 : PySem.W.subIn K (.ref C) (.type "BaseException") = some true) : PySem.W.exmOne K (.ref D) (.ref C) = some (decide (C = D) || decide (C = TE)) := by
  unfold PySem.W.exmOne
  rw [h3, if_pos (by rfl)]
  exact kitCls_own F h1 h2
theorem kit_VE (F : ExcF K mg n D TE) : PySem.W.kitOne K (.ref D) (.type "ValueError") = some true := by
  unfold PySem.W.kitOne
  rw [if_neg (by simp)]
  show (if PySem.W.kitMeta "ValueError" = true then PySem.W.subIn K (.ref D) (.type "ValueError") else none) = _
  rw [if_pos (by decide +kernel), F.sub]
  rfl
end
/-- isinstance(e, C) of an exception of one of these classes, C one of them -/
theorem pe_isC {X : Cx} {n : Str} {C TE : Addr} {i : Nat} {x : Str} {p p1 p2 pos : Pos} (G : ExcF X.K X.mg n C TE) (hne : C ≠ TE) (hv : PE X (.Name x p1) (tVar i)) (hc : PE X (.Name n p2) (tC (.ref C))) (hg : Gl X "isinstance") (hm : X.mg "isinstance" = none)
    (he : starEach [.Name x p1, .Name n p2] X.env = (false, eval (.Name x p1) X.env) :: starEach [.Name n p2] X.env := by rfl) (he2 : starEach [.Name n p2] X.env = (false, eval (.Name n p2) X.env) :: starEach [] X.env := by rfl) (hpl : (backTo pos (starEach [.Name n p2] X.env)).any (·.1) = false := by rfl) :
    PE X (.Call (.Name "isinstance" p) [.Name x p1, .Name n p2] [] pos) (fun σ H Q => ∃ (a D : Addr) (m : Str), σ[i]? = some (some (.ref a)) ∧ ExAt H a D ∧ ExcF X.K X.mg m D TE ∧ Q (.bl (decide (C = D))) H) := by
  refine (pe_callB call_isX hg hm (by decide +kernel) (pa_cons hv (pa_cons hc pa_nil he2) he) (by decide) (by decide) he hpl).imp fun σ H Q ⟨a, D, m, e, E, F, q⟩ => ?_
  exact ⟨_, e, a, D, _, _, _, rfl, .own C, E, F.c, kit_own F G.is G.t, by rw [decide_eq_false hne, Bool.or_false]; exact q⟩

/-! ### rules whose reading names the written part, for suites -/
theorem call_isXK {X : Cx} {K : PySem.W.Frag} (hK : X.K = K) : CallR X (.builtin "isinstance") (rIsX K) := hK ▸ call_isX
theorem op_eqDK {X : Cx} {K : PySem.W.Frag} (hK : X.K = K) (hu : X.A.units + 64 < cLine) : OpR X (compareOp .Eq) (rEqD K) := hK ▸ op_eqD hu
theorem op_neDK {X : Cx} {K : PySem.W.Frag} (hK : X.K = K) (hu : X.A.units + 64 < cLine) : OpR X (compareOp .NotEq) (rNeD K) := hK ▸ op_neD hu

/-! ### the end, the loose names told -/
theorem walk_ofG {l : PySem.W.OpenLaw} {n k : Nat} {q : Program} {loose : List Str} {lv : List (Str × PySem.W.WData)} {qp : Program} {YP : World → Heap → Prop} {d : DefRec} {K : Params → PySem.W.Frag} {CX : World → CXT} {sp : World → Sp} {x : Str}
    (hn : l.most = some n) (hn2 : n ≤ sizeLine) (hdf : d.params.defaults = []) (hr : Room k callerA) (hY : ∀ (w : World) (h : Heap), YP w h → (K w.params).In h)
    (F : ∀ (w : World) (mg : Str → Option Value) (fa : Addr) (h : Heap), (K w.params).In h → h.Ns mainGlobals mg → PySem.W.LooseAre lv mg h → mg d.name = some (.ref fa) →
      ∃ fd : FuncData, (∀ (s : Shared) (u : Value), BindsTo s fd ⟨[u], []⟩ [(x, u)]) ∧ ∀ base : Heap, (K w.params).In base → base.Ns mainGlobals mg → FnOk l.prog w (K w.params) mg base (CX w) k fa fd [x] (sp w))
    (hsp : ∀ (w : World) (H : Hp) (a : Addr) (ns : List Int), ns.length ≤ n → (∀ z ∈ ns, Builtin.Int.intBits z ≤ 1048576) → Only H → SqL (K w.params) H a (ns.map V.int) → sp w [.ref a] H (fun v _ => v = .bl true) fun _ _ _ => False)
    (hCX : ∀ (w : World) (H : Hp) (s : Shared) (e : Value) (s' : Shared), CX w [] H s (fun _ _ _ => False) e s' → False) :
    PySem.W.WalkO q loose (PySem.W.XL qp lv) YP l.row.toRowW d [] (fun f vs => PySem.call f vs) := by
  refine Att.attach_callB hn hdf fun w s₀ s₁ mg mb fa o pm cd doc a vs ns G Y ho hd hcd hmg hobj hints hlen hbits hg => ?_
  obtain ⟨fd, hb, hF⟩ := F w mg fa _ (hY w _ Y) G.T.g G.X.2 hmg
  exact law_call (hY w _ Y) G.T.g G.T.b G.T.builtins G.T.nolimit hg hobj hints (Nat.le_trans hlen hn2) hr hF hb (fun H hO hS => hsp w H a ns hlen hbits hO hS) fun H e s' => hCX w H s₁ e s'
theorem loose_int {lv : List (Str × PySem.W.WData)} {mg : Str → Option Value} {h : Heap} {x : Str} {i : Int} (L : PySem.W.LooseAre lv mg h) (hm : (x, PySem.W.WData.int i) ∈ lv) : ∃ t, mg x = some (.int i t) := by
  obtain ⟨v, e, r⟩ := L.val _ hm
  cases r
  exact ⟨_, e⟩
end Vf
set_option Elab.async false
set_option linter.all false
set_option maxRecDepth 100000
set_option maxHeartbeats 4000000
/-! repr of data: it asks that no repr is under way, so the defs that use it are promised with that in hand. -/
namespace Vf
open PySem PySem.Spec PyProof.Rows L2

/-! ### defs that may use repr -/
structure RoomG (k : Nat) (A : Around) : Prop where
  r : Room k A
  g : A.guards = some []
theorem RoomG.mono {j k : Nat} {A : Around} (h : RoomG k A) (e : j ≤ k) : RoomG j A := ⟨h.r.mono e, h.g⟩
theorem RoomG.deeper {k : Nat} {A : Around} (h : RoomG (k + 1) A) (env : Env) : RoomG k (A.deeper env) := ⟨h.r.deeper env, h.g⟩
structure FnG (P : Program) (w : World) (K : PySem.W.Frag) (mg : Str → Option Value) (base : Heap) (k : Nat) (f : Addr) (fd : FuncData) (ps : List Str) (sp : Sp) : Prop where
  len : ∀ vs H Q E, sp vs H Q E → vs.length = ps.length
  run : ∀ (A : Around) (outer : List Env) (s : Shared) (H : Hp) (args : Args) (us : List Value) (vs : List V) (Q : VK) (E : XK), RoomG k A → Env0 P w K mg base A outer s H → BindsTo s fd args (ps.zip us) → Vals vs us → sp vs H Q E →
    codeAny (model P w) A (.call (.ref f) args) (CR CX0 outer P w H s Q E) s
section
variable {P : Program} {w : World} {K : PySem.W.Frag} {mg : Str → Option Value} {base : Heap} {k : Nat} {f : Addr} {fd : FuncData} {ps N : List Str} {sp : Sp}
theorem fn_ofG {name qual : Str} {params : Arguments} {body : List Stmt} {scope : Scope} {dV kV doc pm cdv ct oc : Value} {an od : Option Addr} {osl : Array (Option Value)}
    (lk : K.lookup f = some ⟨oc, od, .func (PySem.W.fnOf name qual params body scope dV kV doc pm an cdv ct), osl⟩) (hcd : PySem.W.codeIn K cdv qual = true) (S : FnScope N ps scope) (len : ∀ vs H Q E, sp vs H Q E → vs.length = ps.length)
    (hbody : ∀ (A : Around) (outer : List Env) (s : Shared) (H : Hp) (vs : List V) (Q : VK) (E : XK), RoomG k (A.deeper (envOfC qual scope s.heap.objs.size f cdv)) → sp vs H Q E →
      ∃ t, PSs (cxOf CX0 P w K mg base N qual scope f cdv A outer s H E).nox body t ∧ t { nx := fun _ H' => Q .non H', rt := Q } (L2.start N vs) H) :
    FnG P w K mg base (k + 1) f (PySem.W.fnOf name qual params body scope dV kV doc pm an cdv ct) ps sp := by
  refine ⟨len, fun A outer s H args us vs Q E room e0 hb rv hsp => ?_⟩
  have kx : K.In s.heap := e0.mod.kin.keeps fun b o e => (e0.bs b o e).1
  have nolim : s.heap.NoLimit := e0.mod.nolimit.keeps fun b o e => (e0.bs b o e).1
  refine codeAny_call_function room.r.depth (kx _ _ lk) rfl S.co S.gen rfl (PySem.W.codeRec_of kx hcd) (hb _ _ _ _ (wpAny_newFunctionEnv_cells S.kind (fun ⟨n, v⟩ hy => ?_) fun env he s1 x => ?_))
  · rcases S.par n (List.of_mem_zip hy).1 with q | q
    · exact .inl q
    · exact .inr ⟨q, PySem.W.cellsFrom_some _ _ _ (.inl q)⟩
  subst he
  refine ⟨nolim.keeps x.toInCall.keep, codeAny_func ?_⟩
  obtain ⟨t, ht, hq⟩ := hbody A outer s H vs Q E (room.deeper _) hsp
  have I := inv_start (CX := CX0) (E := E) (A := A) S room.r.hd e0 (len _ _ _ _ hsp) rv x
  refine wpAny_mono (ht.nox.run [] s1 (L2.start N vs) H _ I hq) (fun fl s' hs => ?_) fun e s' z => z
  cases fl with
  | ret u => exact let ⟨v, σ', H', J, r2, q⟩ := hs; (⟨v, H', J.os, J.bare, J.base, J.hok, r2, q⟩ : CE outer P w H s Q u s')
  | next => exact let ⟨σ', H', J, q⟩ := hs; (⟨V.non, H', J.os, J.bare, J.base, J.hok, rfl, q⟩ : CE outer P w H s Q .none s')
  | brk => exact let ⟨_, _, _, q⟩ := hs; False.elim q
  | cont => exact let ⟨_, _, _, q⟩ := hs; False.elim q
theorem funOkG {x qual : Str} {st : Stmt} (F : Fun K x qual st f fd) (S : FnScope N ps (defScope st)) (len : ∀ vs H Q E, sp vs H Q E → vs.length = ps.length)
    (hbody : ∀ (cdv : Value) (A : Around) (outer : List Env) (s : Shared) (H : Hp) (vs : List V) (Q : VK) (E : XK), RoomG k (A.deeper (envOfC qual (defScope st) s.heap.objs.size f cdv)) → sp vs H Q E →
      ∃ t, PSs (cxOf CX0 P w K mg base N qual (defScope st) f cdv A outer s H E).nox (defBody st) t ∧ t { nx := fun _ H' => Q .non H', rt := Q } (L2.start N vs) H) : FnG P w K mg base (k + 1) f fd ps sp := by
  obtain ⟨oc, od, kV, doc, pm, an, cdv, ct, osl, rfl, lk, hcd⟩ := F.ex
  exact fn_ofG lk hcd S len fun A outer s H vs Q E => hbody cdv A outer s H vs Q E
end
structure CalG (P : Program) (w : World) (K : PySem.W.Frag) (mg : Str → Option Value) (base : Heap) (k : Nat) (x : Str) (ps : List Str) (sp : Sp) : Prop where
  ex : ∃ (f : Addr) (fd : FuncData), mg x = some (.ref f) ∧ PySem.W.keepIn K (.ref f) = true ∧ Binds K fd ps [] ∧ FnG P w K mg base k f fd ps sp
theorem pe_calG {X : Cx} {k : Nat} {ps : List Str} {sp : Sp} {x : Str} {p pos : Pos} {e : Expr} {es : List Expr} {t : TA} (c : CalG X.prog X.w X.K X.mg X.base k x ps sp) (hr : RoomG k X.A) (hg : Gl X x) (ha : PA X (e :: es) t) (hdb : (x == ("__debug__" : Str)) = false := by decide)
    (he : starEach (e :: es) X.env = (false, eval e X.env) :: starEach es X.env := by rfl) (hpl : (backTo pos (starEach es X.env)).any (·.1) = false := by rfl) : PE X (.Call (.Name x p) (e :: es) [] pos) (tCal sp E0 t) := by
  obtain ⟨f, fd, hm, hk, hb, F⟩ := c.ex
  refine ⟨fun pins s σ H Q I h => ?_⟩
  refine wpAny_Call_Name_kw (ld_glob I hg hm (PySem.W.callWith_K (h₀ := X.base) I.ok.mod.kin hk (thn (ha.run pos pins s σ H _ I h) fun us s1 ⟨vs, H1, I1, r, q⟩ => ⟨I1.kIn, ?_⟩) he hpl) hdb)
  have b := hb s1 us I1.kIn (by rw [List.append_nil, ← r.length]; exact F.len _ _ _ _ q)
  rw [List.append_nil] at b
  refine wpAny_call (codeAny_mono (F.run X.A X.stack s1 H1 ⟨us, []⟩ us vs Q E0 hr I1.env0 b r q) fun r' s' hq => ?_)
  cases r' with
  | error e => exact False.elim hq
  | ok fl => cases fl with
    | ret u => exact I1.after hq
    | next => exact False.elim hq
    | brk => exact False.elim hq
    | cont => exact False.elim hq

/-! ### the end for such a law -/
theorem law_callG {P : Program} {w : World} {K : PySem.W.Frag} {mg mb : Str → Option Value} {k : Nat} {fa a : Addr} {fd : FuncData} {x : Str} {sp : Sp} {s₁ : Shared} {vs : List Value} {ns : List Int}
    (KX : K.In s₁.heap) (hns : s₁.heap.Ns mainGlobals mg) (hb : s₁.heap.Ns builtinsNs mb) (hbb : ∀ x : Str, x ≠ "__name__" → mb x = bootBuiltins x) (hlim : s₁.heap.NoLimit) (hg : s₁.gens = #[])
    (ha : s₁.heap.get? a = some { cls := .type "list", data := .seq vs.toArray }) (hi : IntsAre vs ns) (hl : ns.length ≤ sizeLine) (hr : RoomG k callerA)
    (F : ∀ base : Heap, K.In base → base.Ns mainGlobals mg → FnG P w K mg base k fa fd [x] sp) (hbind : ∀ (s : Shared) (u : Value), BindsTo s fd ⟨[u], []⟩ [(x, u)])
    (hsp : ∀ H : Hp, Only H → SqL K H a (ns.map V.int) → sp [.ref a] H (fun v _ => v = .bl true) fun _ _ _ => False) :
    codeAny (model P w) callerA (.call (.ref fa) ⟨[.ref a], []⟩) (fun r s' => r = .ok (.ret (.bool true)) ∧ OldK s₁.heap s'.heap ∧ s'.os = s₁.os ∧ AllBare s'.gens) s₁ := by
  have rv := vals_ints hi
  have lv := hi.length
  have go : ∀ H : Hp, Only H → SqL K H a (ns.map V.int) → HOk P w H s₁.heap → (∀ b u, H b = some u → b = a ∧ K.lookup a = none) →
      codeAny (model P w) callerA (.call (.ref fa) ⟨[.ref a], []⟩) (fun r s' => r = .ok (.ret (.bool true)) ∧ OldK s₁.heap s'.heap ∧ s'.os = s₁.os ∧ AllBare s'.gens) s₁ := by
    intro H hO hS hok hA
    have dicts : ∀ {b : Addr} {o : Obj} {es : Array DictEntry} {ep : Nat}, s₁.heap.get? b = some o → o.data = .dict es ep → H b = none := fun {b o es ep} e d => by
      cases q : H b with
      | none => rfl
      | some u =>
        obtain ⟨rfl, _⟩ := hA b u q
        rw [ha] at e
        cases e
        exact nomatch (show Data.seq vs.toArray _ = Data.dict es ep from d)
    have ns' : ∀ {b : Addr} {m : Str → Option Value}, s₁.heap.Ns b m → (hidT s₁.heap H).Ns b m := fun {b m} ⟨o, es, ep, e, d, r⟩ => ⟨o, es, ep, hidT_get e (dicts e d), d, r⟩
    have kin : K.In (hidT s₁.heap H) := fun b o e => hidT_get (KX b o e) (by
      cases q : H b with
      | none => rfl
      | some u =>
        obtain ⟨rfl, z⟩ := hA b u q
        rw [z] at e
        cases e)
    have e0 : Env0 P w K mg (hidT s₁.heap H) callerA [] s₁ H := ⟨rfl, ⟨kin, ns' hns, ⟨mb, ns' hb, hbb⟩, let ⟨mc, h1, h2⟩ := hlim; ⟨mc, ns' h1, h2⟩⟩, fun b o e => of_hidT e, Nat.le_of_eq (hidT_size _ _), trivial, fun b z => absurd (show b ∈ ([] : List Addr) from z) (by simp), hok, .of_eq hg⟩
    refine codeAny_mono ((F _ kin (ns' hns)).run callerA [] s₁ H ⟨[.ref a], []⟩ [.ref a] [.ref a] _ _ hr e0 (hbind s₁ (.ref a)) (.cons rfl .nil) (hsp H hO hS)) fun r s' h => ?_
    cases r with
    | error e => exact False.elim h
    | ok fl => cases fl with
      | next => exact False.elim h
      | brk => exact False.elim h
      | cont => exact False.elim h
      | ret u =>
        obtain ⟨v, H', os, bare, un, hok', r', q⟩ := h
        obtain rfl : v = .bl true := q
        obtain rfl : u = Value.bool true := r'
        refine ⟨rfl, OldK.of_keep fun b o e => ?_, os, bare⟩
        cases q : H b with
        | none => exact un.keep b o e q (fun z => nomatch z) (fun z => nomatch z)
        | some u =>
          rcases hO b with z | ⟨ob, xs, z⟩
          · rw [q] at z
            cases z
          · have e1 := (hok b _ z).1
            rw [e] at e1
            cases e1
            exact (hok' b _ (un.frzs b _ _ z)).1
  cases hk : K.lookup a with
  | some o =>
    have e := KX a o hk
    rw [ha] at e
    cases e
    exact go (fun _ => none) (fun _ => .inl rfl) (.inr ⟨_, vs.toArray, _, hk, rfl, rfl, rfl, by rw [List.size_toArray, lv]; exact hl, by simpa using rv⟩) (fun b u z => nomatch z) fun b u z => nomatch z
  | none =>
    have at_ : ∀ b u, (if b = a then some (HO.frz { cls := .type "list", data := .seq vs.toArray } (.lst (ns.map V.int))) else none) = some u → b = a ∧ u = HO.frz { cls := .type "list", data := .seq vs.toArray } (.lst (ns.map V.int)) := fun b u z => by
      by_cases h : b = a
      · rw [if_pos h] at z
        exact ⟨h, (Option.some.inj z).symm⟩
      · rw [if_neg h] at z
        cases z
    refine go (fun b => if b = a then some (.frz { cls := .type "list", data := .seq vs.toArray } (.lst (ns.map V.int))) else none) (fun b => ?_) (.inl (.inr ⟨_, if_pos rfl⟩)) (fun b u z => ?_) fun b u z => ⟨(at_ b u z).1, hk⟩
    · by_cases h : b = a
      · exact .inr ⟨_, _, if_pos h⟩
      · exact .inl (if_neg h)
    · obtain ⟨rfl, rfl⟩ := at_ b u z
      exact ⟨ha, by rw [List.length_map]; exact hl, vs, _, rv, ha⟩
theorem walk_ofR {l : PySem.W.OpenLaw} {n k : Nat} {q : Program} {loose : List Str} {lv : List (Str × PySem.W.WData)} {qp : Program} {YP : World → Heap → Prop} {d : DefRec} {K : Params → PySem.W.Frag} {sp : World → Sp} {x : Str}
    (hn : l.most = some n) (hn2 : n ≤ sizeLine) (hdf : d.params.defaults = []) (hr : RoomG k callerA) (hY : ∀ (w : World) (h : Heap), YP w h → (K w.params).In h)
    (F : ∀ (w : World) (mg : Str → Option Value) (fa : Addr) (h : Heap), (K w.params).In h → h.Ns mainGlobals mg → PySem.W.LooseAre lv mg h → mg d.name = some (.ref fa) →
      ∃ fd : FuncData, (∀ (s : Shared) (u : Value), BindsTo s fd ⟨[u], []⟩ [(x, u)]) ∧ ∀ base : Heap, (K w.params).In base → base.Ns mainGlobals mg → FnG l.prog w (K w.params) mg base k fa fd [x] (sp w))
    (hsp : ∀ (w : World) (H : Hp) (a : Addr) (ns : List Int), ns.length ≤ n → Only H → SqL (K w.params) H a (ns.map V.int) → sp w [.ref a] H (fun v _ => v = .bl true) fun _ _ _ => False) :
    PySem.W.WalkO q loose (PySem.W.XL qp lv) YP l.row.toRowW d [] (fun f vs => PySem.call f vs) := by
  refine Att.attach_callB hn hdf fun w s₀ s₁ mg mb fa o pm cd doc a vs ns G Y ho hd hcd hmg hobj hints hlen hbits hg => ?_
  obtain ⟨fd, hb, hF⟩ := F w mg fa _ (hY w _ Y) G.T.g G.X.2 hmg
  exact law_callG (hY w _ Y) G.T.g G.T.b G.T.builtins G.T.nolimit hg hobj hints (Nat.le_trans hlen hn2) hr hF hb fun H hO hS => hsp w H a ns hlen hO hS

/-! ### repr -/
def rRepr (K : PySem.W.Frag) : List V → Hp → VK → Prop := fun xs H Q => ∃ (v : V) (d : PyData), xs = [v] ∧ Dp K H v d ∧ d.showable = true ∧ d.hasDict = false ∧ d.depth ≤ 60 ∧ d.shown.length ≤ sizeLine ∧ Q (.str d.shown) H
theorem call_repr {X : Cx} (hg : X.A.guards = some []) (hu : X.A.units + 64 < cLine) : CallR X (.builtin "repr") (rRepr X.K) := by
  intro pins s σ H xs us Q I r h
  obtain ⟨v, d, rfl, D, hs, hD, hd, hz, q⟩ := h
  obtain ⟨u, rfl, ru⟩ := vals1 r
  cases D with
  | non => cases ru; exact PySem.P.repr_of_none ⟨.str _, H, I.tok _, ⟨_, rfl⟩, q⟩
  | bl b =>
    cases ru
    exact PySem.P.repr_of_bool ⟨.str _, H, I.tok _, ⟨_, rfl⟩, q⟩
  | int i =>
    obtain ⟨t, rfl⟩ := ru
    exact PySem.P.repr_of_int (of_decide_eq_true hs) ⟨.str _, H, I.tok _, ⟨_, rfl⟩, q⟩
  | str x =>
    obtain ⟨t, rfl⟩ := ru
    exact PySem.P.repr_of_str ⟨.str _, H, I.tok _, ⟨_, rfl⟩, q⟩ hz
  | @lst a ys ds h1 h2 =>
    cases ru
    obtain ⟨as, R⟩ := Dp.reads I (.list ds) (.ref a) (.ref a) (.lst h1 h2) rfl
    exact repr_of_reads' R hs (fun z => by rw [hD] at z; cases z) hg (by omega) (fun b o e => e) (fun h' u tk k => ⟨.str _, H, I.kept (t' := tk) k, ⟨_, rfl⟩, q⟩) hz
  | @tup a ys ds h1 h2 =>
    cases ru
    obtain ⟨as, R⟩ := Dp.reads I (.tuple ds) (.ref a) (.ref a) (.tup h1 h2) rfl
    exact repr_of_reads' R hs (fun z => by rw [hD] at z; cases z) hg (by omega) (fun b o e => e) (fun h' u tk k => ⟨.str _, H, I.kept (t' := tk) k, ⟨_, rfl⟩, q⟩) hz

/-! ### data that is small enough to be shown -/
mutual
/-- numbers of at most sixty figures, no texts, no dicts; at most n things, d deep -/
def Nice : PyData → Bool
  | .none => true
  | .bool _ => true
  | .int i => decide (i.natAbs < 10 ^ 60)
  | .str _ => false
  | .list l => NiceL l
  | .tuple l => NiceL l
  | .dict _ => false
def NiceL : List PyData → Bool
  | [] => true
  | d :: r => Nice d && NiceL r
end
mutual
def nodes : PyData → Nat
  | .list l => 1 + nodesL l
  | .tuple l => 1 + nodesL l
  | _ => 1
def nodesL : List PyData → Nat
  | [] => 0
  | d :: r => nodes d + nodesL r
end
theorem textFrom_le : ∀ (ts : List Str) (k : Nat) (acc : Str), (textFrom k acc ts).length ≤ acc.length + piled ts
  | [], k, acc => by simp [textFrom, piled]
  | t :: r, k, acc => by
    have e : (acc ++ (if k > 0 then ", " else "" : String) ++ t).length ≤ acc.length + 2 + t.length := by
      rw [strLen_append, strLen_append]
      have : ((if k > 0 then ", " else "" : String) : Str).length ≤ 2 := by split <;> decide
      omega
    have ih := textFrom_le r (k + 1) (acc ++ (if k > 0 then ", " else "" : String) ++ t)
    show (textFrom (k + 1) _ r).length ≤ _
    rw [piled_cons]
    omega
theorem listText_le (ts : List Str) : (listText ts).length ≤ 2 + piled ts := by
  have h := textFrom_le ts 0 "["
  unfold listText
  rw [strLen_append]
  have e1 : (("[" : String) : Str).length = 1 := rfl
  have e2 : (("]" : String) : Str).length = 1 := rfl
  omega
theorem tupleText_le (ts : List Str) : (tupleText ts).length ≤ 3 + piled ts := by
  unfold tupleText
  rw [strLen_append, strLen_append]
  have e1 : (("(" : String) : Str).length = 1 := rfl
  have e3 : (((if ts.length == 1 then ",)" else ")" : String) : Str)).length ≤ 2 := by split <;> decide
  have e2 : (Str.join ", " ts).length ≤ piled ts := by
    cases ts with
    | nil => decide
    | cons t r =>
      have := join_length_add (t :: r) (by simp)
      omega
  omega
mutual
theorem nice_show : ∀ d : PyData, Nice d = true → d.showable = true ∧ d.hasDict = false ∧ d.shown.length + 2 ≤ 100 * nodes d
  | .none, _ => ⟨rfl, rfl, by decide⟩
  | .bool b, _ => ⟨rfl, rfl, by cases b <;> decide⟩
  | .int i, h => by
    have h : i.natAbs < 10 ^ 60 := of_decide_eq_true h
    refine ⟨?_, rfl, ?_⟩
    · refine decide_eq_true ?_
      by_cases z : i.natAbs = 0
      · rw [z]; decide
      · exact (Nat.log2_lt z).mpr (Nat.lt_of_lt_of_le h (by decide +kernel))
    · have e := int_text_length_le10 (k := 60) (by decide) h
      have e2 : (PyData.shown (.int i)).length = (toString i).length := by
        show (Str.ofString (toString i)).length = _
        rw [PySem.ofString_length]
      rw [e2]
      show _ ≤ 100 * 1
      omega
  | .str _, h => nomatch h
  | .list l, h => by
    obtain ⟨h1, h2, h3⟩ := nice_showL l h
    refine ⟨h1, h2, ?_⟩
    have := listText_le (PyData.shownAll l)
    show (listText (PyData.shownAll l)).length + 2 ≤ 100 * (1 + nodesL l)
    omega
  | .tuple l, h => by
    obtain ⟨h1, h2, h3⟩ := nice_showL l h
    refine ⟨h1, h2, ?_⟩
    have := tupleText_le (PyData.shownAll l)
    show (tupleText (PyData.shownAll l)).length + 2 ≤ 100 * (1 + nodesL l)
    omega
  | .dict _, h => nomatch h
theorem nice_showL : ∀ l : List PyData, NiceL l = true → PyData.showableAll l = true ∧ PyData.hasDictAll l = false ∧ piled (PyData.shownAll l) ≤ 100 * nodesL l
  | [], _ => ⟨rfl, rfl, by decide⟩
  | d :: r, h => by
    have h : (Nice d && NiceL r) = true := h
    rw [Bool.and_eq_true] at h
    obtain ⟨a1, a2, a3⟩ := nice_show d h.1
    obtain ⟨b1, b2, b3⟩ := nice_showL r h.2
    refine ⟨?_, ?_, ?_⟩
    · show (d.showable && PyData.showableAll r) = true
      rw [a1, b1]
      rfl
    · show (d.hasDict || PyData.hasDictAll r) = false
      rw [a2, b2]
      rfl
    · show piled (d.shown :: PyData.shownAll r) ≤ 100 * (nodes d + nodesL r)
      rw [piled_cons]
      omega
end
/-- what repr asks, of nice data of at most 1,000 things -/
theorem repr_ok {K : PySem.W.Frag} {H : Hp} {v : V} {d : PyData} {Q : VK} (D : Dp K H v d) (n : Nice d = true) (h : nodes d ≤ 1000) (hd : d.depth ≤ 60) (q : Q (.str d.shown) H) : rRepr K [v] H Q := by
  obtain ⟨h1, h2, h3⟩ := nice_show d n
  exact ⟨v, d, rfl, D, h1, h2, hd, by rw [sizeLine_eq]; omega, q⟩
end Vf
set_option Elab.async false
set_option linter.all false
set_option maxRecDepth 100000
set_option maxHeartbeats 4000000
namespace Vf
open PySem PySem.Spec PyProof.Rows L2
/-! ### a tuple times one is the tuple itself -/
theorem tuple_mul1 (l : Addr) (items : Array Value) (n : Nat) (dd : Option Addr) (sl : Array (Option Value)) (u : Tok) :
    Meets (Builtin.«tuple.__mul__» ⟨[.ref l, .int 1 u], []⟩) (fun _ R s => s.heap.get? l = some { cls := .type "tuple", dict := dd, data := .seq items n, slots := sl } ∧ R (.ok (.ret (Value.ref l))) s) :=
  .of_wp fun prog w A R s h => by
    obtain ⟨hp, g, d, tk, os⟩ := s
    obtain ⟨hl, h⟩ := h
    have f1 := AutoSeq1.idx_int
    wp_walk using wpAny_loadPart' hl
    exact ⟨_, rfl, h⟩
/-- a tuple times a number from 1 on -/
def rRepU (K : PySem.W.Frag) : R2 := fun x y H Q => ∃ l k xs, x = .ref l ∧ y = .int k ∧ SqT K H l xs ∧ xs ≠ [] ∧ 1 ≤ k ∧ k ≤ 1000 ∧ xs.length ≤ 1000 ∧ ∀ (H' : Hp) (p : Addr), Same H H' → SqT K H' p (List.replicate k.toNat xs).flatten → Q (.ref p) H'
theorem op_repU {X : Cx} : OpR X (binaryOp .Mult) (rRepU X.K) := by
  intro pins s σ H x y v u Q I rx ry h
  obtain ⟨l, k, xs, rfl, rfl, hT, hne, h1, h2, hz, q⟩ := h
  by_cases e : k = 1
  · subst e
    cases rx
    obtain ⟨t, rfl⟩ := ry
    obtain ⟨its, r, ⟨⟨cls, dd, data, sl⟩, ho, hc, n, hd⟩, hs⟩ := I.tuple hT
    simp only at hc hd
    subst hc hd
    refine wpAny_binaryOp_repeat_ref (T := "tuple") (U := "int") (by decide) ⟨_, ho, rfl⟩ (fun s' => typeIs_int s' 1 t) noFill_tuple_mul F.fills_int_mul F.slot_int_rmul repeat_tuple F.slot_int_index.lookup
      (call_meets F.slot_int_rmul (typeIs_int s 1 t) F.entry_int_rmul (F.args_int_rmul_2 _ _) (int_rmul_tuple 1 t l its.toArray n dd sl)
        ⟨ho, rfl, ⟨_, ho, rfl⟩, call_meets F.slot_tuple_mul ⟨_, ho, rfl⟩ F.entry_tuple_mul (F.args_tuple_mul_2 _ _) (tuple_mul1 l its.toArray n dd sl t) ⟨ho, ?_⟩⟩)
    refine ⟨.ref l, H, I, rfl, q H l (Same.refl _) ?_⟩
    have e2 : (List.replicate (Int.toNat 1) xs).flatten = xs := by simp
    rw [e2]
    exact hT
  · exact op_repT pins s σ H _ _ v u Q I rx ry ⟨l, k, xs, rfl, rfl, hT, hne, by omega, h2, hz, fun p np => q _ p (same_upd np) (SqT.of upd_same)⟩
/-! ### the rules that name the written part, with it as a letter -/
section
variable {X : Cx} {K : PySem.W.Frag}
def rTupOf (K : PySem.W.Frag) : List V → Hp → VK → Prop := fun xs H Q => ∃ p ys, xs = [.ref p] ∧ ((SqL K H p ys ∧ ∀ l, H l = none → Q (.ref l) (upd H l (.tup ys))) ∨ (SqT K H p ys ∧ Q (.ref p) H))
def rLstOf (K : PySem.W.Frag) : List V → Hp → VK → Prop := fun xs H Q => ∃ p ys, xs = [.ref p] ∧ (SqL K H p ys ∨ SqT K H p ys) ∧ ∀ l, H l = none → Q (.ref l) (upd H l (.lst ys))
def rLenOf (K : PySem.W.Frag) : List V → Hp → VK → Prop := fun xs H Q => ∃ p ys, xs = [.ref p] ∧ (SqL K H p ys ∨ SqT K H p ys) ∧ Q (.int ys.length) H
theorem tuple_ofK (hK : X.K = K) : CallR X (.type "tuple") (rTupOf K) := by subst hK; exact call_tuple_of
theorem list_ofK (hK : X.K = K) : CallR X (.type "list") (rLstOf K) := by subst hK; exact call_list_of
theorem len_ofK (hK : X.K = K) : CallR X (.builtin "len") (rLenOf K) := by subst hK; exact call_len_seq
theorem ix_listK (hK : X.K = K) : IxR X (rIxL K) := by subst hK; exact ix_list
theorem ix_tupK (hK : X.K = K) : IxR X (rIxT K) := by subst hK; exact ix_tup
theorem isiK (hK : X.K = K) : CallR X (.builtin "isinstance") (rIsi K) := by subst hK; exact call_isi
theorem isiTK (hK : X.K = K) : CallR X (.builtin "isinstance") (rIsiT K) := by subst hK; exact call_isiT
theorem sumK (hK : X.K = K) (hc : X.calm = true) : CallR X (.builtin "sum") (rSum K) := by subst hK; exact cr_sum hc
theorem allK (hK : X.K = K) (hc : X.calm = true) : CallR X (.builtin "all") (rAll K) := by subst hK; exact cr_all hc
theorem reprK (hK : X.K = K) (hg : X.A.guards = some []) (hu : X.A.units + 64 < cLine) : CallR X (.builtin "repr") (rRepr K) := by subst hK; exact call_repr hg hu
theorem repUK (hK : X.K = K) : OpR X (binaryOp .Mult) (rRepU K) := by subst hK; exact op_repU
end
/-! ### for over a list or a tuple -/
def tForS (K : PySem.W.Frag) (tl : TE) (g : TG) (tb : TS) : TS := fun D σ H => tl σ H fun x H1 => ∃ (a : Addr) (xs : List V) (Pv : Nat → L2.St → Hp → Prop), x = .ref a ∧ SqV K H1 a xs ∧ Pv 0 σ H1 ∧
  (∀ i σ2 H2, i ≤ xs.length → Pv i σ2 H2 → (SqL K H1 a xs → SqL K H2 a xs) ∧ (SqT K H1 a xs → SqT K H2 a xs)) ∧
  (∀ i x σ2 H2, xs[i]? = some x → Pv i σ2 H2 → g x σ2 H2 fun σ3 H3 => tb { D with nx := Pv (i + 1), ct := Pv (i + 1), bk := D.nx } σ3 H3) ∧ (∀ σ2 H2, Pv xs.length σ2 H2 → D.nx σ2 H2)
theorem ps_forS {X : Cx} {tg l : Expr} {body : List Stmt} {tl : TE} {g : TG} {tb : TS} {pos : Pos} (hp : PassesOwn (model X.prog X.w) X.A X.env X.xe) (hc : X.calm = true) (hl : PE X l tl) (mo : MonoE tl) (hg : PG X tg g) (hb : PSs X body tb)
    (hs : ∀ x, foldedSetIterable l X.env x = pure x := by intro _; rfl) : PS X (.For tg l body [] pos) (tForS X.K tl g tb) := by
  refine ⟨fun pins s σ H D I h => (ps_for hp hc (pi_seq hl) hg hb hs).run pins s σ H D I (mo _ _ _ _ (fun x H1 q => ?_) h)⟩
  obtain ⟨a, xs, Pv, rfl, hS, h0, hk, hst, hd⟩ := q
  refine ⟨a, rfl, ?_⟩
  rcases hS with hS | hS
  · exact .inl ⟨⟨xs, hS⟩, for_list (K := X.K) (a := a) (xs := xs) (g := g) (tb := tb) (D := D) Pv h0 (fun i σ2 H2 hi p => (hk i σ2 H2 hi p).1 hS) hst hd⟩
  · exact .inr ⟨⟨xs, hS⟩, for_tup (K := X.K) (a := a) (xs := xs) (g := g) (tb := tb) (D := D) Pv h0 (fun i σ2 H2 hi p => (hk i σ2 H2 hi p).2 hS) hst hd⟩
theorem Kp.put {t b : Addr} {o : HO} {H H1 : Hp} (a : Kp t H H1) (n : H b = none) (nt : b ≠ t) : Kp t H (upd H1 b o) := ⟨fun c u e h => by rw [upd_ne (ne_of_none e n)]; exact a.1 c u e h, let ⟨m, e⟩ := a.2; ⟨m, by rw [upd_ne nt.symm]; exact e⟩⟩
section
variable {K : PySem.W.Frag} {H H' : Hp}
mutual
theorem dp_same (s : Same H H') : ∀ {v : V} {d : PyData}, Dp K H v d → Dp K H' v d
  | _, _, .non => .non
  | _, _, .bl b => .bl b
  | _, _, .int i => .int i
  | _, _, .str x => .str x
  | _, _, .lst h r => .lst (s.seq h) (dp_sameL s r)
  | _, _, .tup h r => .tup (Same.seqT s h) (dp_sameL s r)
theorem dp_sameL (s : Same H H') : ∀ {v : List V} {d : List PyData}, DpAll K H v d → DpAll K H' v d
  | _, _, .nil => .nil
  | _, _, .cons h r => .cons (dp_same s h) (dp_sameL s r)
end
end
end Vf
set_option Elab.async false
set_option linter.all false
set_option maxRecDepth 100000
set_option maxHeartbeats 4000000
namespace Vf
open PySem PySem.Spec PyProof.Rows L2
/-! ### methods by their names -/
structure Mth (P : Program) (w : World) (K : PySem.W.Frag) (mg : Str → Option Value) (base : Heap) (CX : CXT) (k : Nat) (C : Addr) (m : Str) (ps : List Str) (sp : Sp) : Prop where
  cl : Cls K C
  ex : ∃ (f : Addr) (fd : FuncData), Meth K C m f ∧ Binds K fd ps [] ∧ FnOk P w K mg base CX k f fd ps sp
def tMth (C : Addr) (m : Str) (sp : Sp) (E : XK) (ta : TE) (t : TA) : TE := fun σ H Q => ta σ H fun x H1 => ∃ a dx fs, x = .ref a ∧ H1 a = some (.ins C dx fs) ∧ fs.lookup m = none ∧ t σ H1 fun vs H2 => sp (x :: vs) H2 Q E
section
variable {X : Cx} {CX : CXT} {k : Nat} {C : Addr} {m : Str} {ps : List Str} {sp : Sp} {E : XK} {o e : Expr} {es : List Expr} {ta : TE} {t : TA} {apos pos : Pos}
theorem pe_mth {pl : Sem Bool} (c : Mth X.prog X.w X.K X.mg X.base CX k C m ps sp) (hr : Room k X.A) (hx : Passes CX X E) (he : PE X o ta) (ha : PA X (e :: es) t)
    (hst : starEach (e :: es) X.env = (false, eval e X.env) :: starEach es X.env := by rfl) (hpl : (backTo pos (starEach es X.env)).any (·.1) = false := by rfl)
    (ht : eval (.Call (.Attribute o m apos) (e :: es) [] pos) X.env = (do
      let ov ← eval o X.env
      standAt apos.atName
      let (f, first) ← holding [ov] (getMethod ov m pl)
      callWith pos f first (backTo pos (starEach (e :: es) X.env)) (backToKw pos (keywordEach [] X.env))) := by rfl) :
    PE X (.Call (.Attribute o m apos) (e :: es) [] pos) (tMth C m sp E ta t) := by
  obtain ⟨f, fd, hm, hb, F⟩ := c.ex
  exact (pe_meth (dvs := []) (pl := pl) he c.cl hm F hr hb .nil hx ha hst hpl ht).imp fun σ H Q q => by
    unfold tMeth
    simp only [List.append_nil]
    exact q
theorem pe_mth0 {pl : Sem Bool} (c : Mth X.prog X.w X.K X.mg X.base CX k C m ps sp) (hr : Room k X.A) (hx : Passes CX X E) (he : PE X o ta)
    (ht : eval (.Call (.Attribute o m apos) [] [] pos) X.env = (do
      let ov ← eval o X.env
      standAt apos.atName
      let (f, first) ← holding [ov] (getMethod ov m pl)
      callWith pos f first (backTo pos (starEach [] X.env)) (backToKw pos (keywordEach [] X.env))) := by rfl) :
    PE X (.Call (.Attribute o m apos) [] [] pos) (tMth C m sp E ta tNil) := by
  obtain ⟨f, fd, hm, hb, F⟩ := c.ex
  exact (pe_meth0 (dvs := []) (pl := pl) he c.cl hm F hr hb .nil hx ht).imp fun σ H Q q => by
    unfold tMeth
    simp only [List.append_nil]
    exact q
end
theorem Same.put {H H1 : Hp} {b : Addr} {o : HO} (s : Same H H1) (n : H b = none) : Same H (upd H1 b o) := fun c u e => by
  rw [upd_ne (ne_of_none e n)]
  exact s c u e
end Vf
set_option Elab.async false
set_option linter.all false
set_option maxRecDepth 100000
set_option maxHeartbeats 4000000
/-! zip of any number of lists and tuples. -/
namespace Vf
open PySem PySem.Spec PyProof.Rows L2
/-- a part of a zip: is it a list's, its iterator, what that goes through -/
structure Pt where
  b : Bool
  it : Addr
  l : Addr
def Pt.ic (p : Pt) : String := match p.b with
  | true => "list_iterator"
  | false => "tuple_iterator"
def Pt.sc (p : Pt) : String := match p.b with
  | true => "list"
  | false => "tuple"
def Pt.At (p : Pt) (h : Heap) (i : Nat) : Prop := ∃ o, h.get? p.it = some o ∧ o.cls = .type p.ic ∧ o.data = .fields #[.ref p.l, .int i 0]
def Pt.Src (p : Pt) (h : Heap) (vs : List Value) : Prop := ∃ o, h.get? p.l = some o ∧ o.cls = .type p.sc ∧ ∃ n, o.data = .seq vs.toArray n
theorem Pt.At.move {p : Pt} {h h' : Heap} {i : Nat} (a : p.At h i) (f : ∀ o, h.get? p.it = some o → h'.get? p.it = some o) : p.At h' i := let ⟨o, e, r⟩ := a; ⟨o, f o e, r⟩
theorem Pt.Src.move {p : Pt} {h h' : Heap} {vs : List Value} (a : p.Src h vs) (f : ∀ o, h.get? p.l = some o → h'.get? p.l = some o) : p.Src h' vs := let ⟨o, e, r⟩ := a; ⟨o, f o e, r⟩
section
variable {prog : Program} {w : World} {A : Around} {E : Value → Shared → Prop} {s : Shared}
theorem Pt.next {p : Pt} {i : Nat} {vs : List Value} {x : Value} {Q : Value → Shared → Prop} (a : p.At s.heap i) (c : p.Src s.heap vs) (hx : vs[i]? = some x)
    (hQ : ∀ h', p.At h' (i + 1) → Heap.SameBut p.it s.heap h' → Q x { s with heap := h' }) : wpAny (model prog w) A (Builtin.SmallTypes.nextOf (.ref p.it)) Q E s := by
  obtain ⟨b, it, l⟩ := p
  have hx' : vs.toArray[i]? = some x := by simpa using hx
  cases b with
  | true => exact wpAny_nextOf_list_item a c hx' hQ
  | false => exact RZ.nextOf_tuple_item a c hx' hQ
theorem Pt.stop {p : Pt} {i : Nat} {vs : List Value} {Q : Value → Shared → Prop} (hh : A.handled = none) (a : p.At s.heap i) (c : p.Src s.heap vs) (hx : vs[i]? = none)
    (hE : ∀ h' e, Heap.ExtBut p.it s.heap h' → (∃ o, h'.get? e = some o ∧ o.cls = .type "StopIteration") → E (.ref e) { s with heap := h' }) : wpAny (model prog w) A (Builtin.SmallTypes.nextOf (.ref p.it)) Q E s := by
  obtain ⟨b, it, l⟩ := p
  have hx' : vs.toArray[i]? = none := by simpa using hx
  cases b with
  | true => exact wpAny_nextOf_list_end hh a c hx' hE
  | false => exact RZ.nextOf_tuple_end hh a c hx' hE
end
/-- all these are apart -/
structure ZAp (z TI TO : Addr) (ps : List Pt) : Prop where
  TIz : TI ≠ z
  TOz : TO ≠ z
  TITO : TI ≠ TO
  i : ∀ p ∈ ps, p.it ≠ z ∧ p.it ≠ TI ∧ p.it ≠ TO
  l : ∀ p ∈ ps, p.l ≠ z ∧ p.l ≠ TO ∧ ∀ q ∈ ps, p.l ≠ q.it
  nd : (ps.map (·.it)).Nodup
abbrev ZO (h : Heap) (z TI TO : Addr) (f0 : Value) (f1 : Bool) : Prop := h.get? z = some { cls := .type "zip", dict := none, data := .fields #[f0, .bool f1, .bool false, .ref TI, .ref TO], slots := #[] }
abbrev TupIs (h : Heap) (T : Addr) (ys : Array Value) : Prop := h.get? T = some { cls := .type "tuple", data := .seq ys }
def Own0 (f0 : Value) : Prop := f0 = .none ∨ ∃ T : Nat, f0 = rawInt T
section
variable {prog : Program} {w : World} {A : Around} {E : Value → Shared → Prop} {s : Shared} {z TI TO : Addr} {f0 : Value} {f1 : Bool}
theorem alive_any {a : Addr} {Q : Option Obj → Shared → Prop} (h : Q (s.heap.get? a) s) : wpAny (model prog w) A (loadIfAlive a) Q E s := fun _ _ _ => h
theorem owned_free {Q : Bool → Shared → Prop} (hz : ZO s.heap z TI TO f0 f1) (hf0 : Own0 f0) (ht : Q true s) (hf : ∀ h', ZO h' z TI TO f0 true → Heap.SameBut z s.heap h' → Q false { s with heap := h' }) :
    wpAny (model prog w) A (Builtin.SmallTypes.ownedTupleIsFree (.ref z)) Q E s := by
  unfold Builtin.SmallTypes.ownedTupleIsFree
  refine wpAny_bind (wpAny_field hz rfl (x := f0) rfl ?_)
  rcases hf0 with rfl | ⟨T, rfl⟩
  · exact wpAny_pure ht
  · show wpAny _ _ (loadIfAlive ((T : Int).toNat) >>= _) _ _ _
    refine wpAny_bind (alive_any ?_)
    cases s.heap.get? ((T : Int).toNat) with
    | none => exact wpAny_pure ht
    | some o =>
      simp only [Option.isNone_some, Bool.false_eq_true, if_false]
      refine wpAny_bind (wpAny_field hz rfl (x := .bool f1) rfl ?_)
      cases f1 with
      | true => exact wpAny_pure (hf s.heap hz (Heap.SameBut.refl _ _))
      | false => exact wpAny_bind (wpAny_setField_rec hz (by simp) fun h1 hz1 hs1 => wpAny_pure (hf h1 hz1 hs1))
/-- what a turn leaves as it was -/
def Still (z TO : Addr) (ps : List Pt) (h h' : Heap) : Prop := ∀ c o, c ≠ z → c ≠ TO → (∀ p ∈ ps, c ≠ p.it) → h.get? c = some o → h'.get? c = some o
theorem wp_putSeq {T : Addr} {ys : Array Value} {k : Nat} {x : Value} {Q : Unit → Shared → Prop} (hT : TupIs s.heap T ys) (hy : ys.size ≤ sizeLine) (h : ∀ h', TupIs h' T (ys.setIfInBounds k x) → Heap.SameBut T s.heap h' → Q () { s with heap := h' }) :
    wpAny (model prog w) A (updateSeq T fun q => q.setIfInBounds k x) Q E s := by
  refine wpAny_updateSeq hT rfl (h _ ?_ (Heap.SameBut.update ..)) hy (by rw [Array.size_setIfInBounds]; omega)
  exact (Heap.get?_update_self _ hT rfl).trans (by simp [Obj.mapSeq])
/-- the parts in the midst of a turn: d are a step on, r not yet -/
structure ZMid (z TI TO : Addr) (ps : List Pt) (i : Nat) (h0 : Heap) (d r : List Pt) (h : Heap) : Prop where
  on : ∀ p ∈ d, p.At h (i + 1)
  off : ∀ p ∈ r, p.At h i
  size : h.objs.size = h0.objs.size
  still : Still z TO ps h0 h
theorem ZMid.start {ps : List Pt} {i : Nat} {h0 h : Heap} (D : ZAp z TI TO ps) (hat : ∀ p ∈ ps, p.At h0 i) (sb : Heap.SameBut z h0 h) : ZMid z TI TO ps i h0 [] ps h :=
  ⟨fun _ m => (nomatch m), fun p m => (hat p m).move fun o e => sb.extBut _ _ (D.i p m).1 e, sb.1, fun c o c1 _ _ e => sb.extBut _ _ c1 e⟩
theorem ZMid.step {ps d r : List Pt} {p : Pt} {i : Nat} {h0 h h' : Heap} (D : ZAp z TI TO ps) (e : ps = d ++ p :: r) (M : ZMid z TI TO ps i h0 d (p :: r) h) (a : p.At h' (i + 1)) (sb : Heap.SameBut p.it h h') : ZMid z TI TO ps i h0 (d ++ [p]) r h' := by
  have nd := D.nd
  rw [e, List.map_append, List.map_cons, List.nodup_append] at nd
  obtain ⟨_, n2, n3⟩ := nd
  rw [List.nodup_cons] at n2
  refine ⟨fun q m => ?_, fun q m => (M.off q (List.mem_cons_of_mem _ m)).move fun o x => sb.extBut _ _ (fun y => n2.1 (y ▸ List.mem_map_of_mem m)) x, sb.1.trans M.size, fun c o c1 c2 c3 x => sb.extBut _ _ (c3 p (by rw [e]; simp)) (M.still c o c1 c2 c3 x)⟩
  rcases List.mem_append.mp m with m | m
  · exact (M.on q m).move fun o x => sb.extBut _ _ (n3 _ (List.mem_map_of_mem m) _ List.mem_cons_self) x
  · obtain rfl : q = p := by simpa using m
    exact a
theorem ZMid.over {ps d r : List Pt} {i : Nat} {h0 h h' : Heap} (D : ZAp z TI TO ps) (hd : ∀ p ∈ d, p ∈ ps) (hr : ∀ p ∈ r, p ∈ ps) (M : ZMid z TI TO ps i h0 d r h) (sb : Heap.SameBut TO h h') : ZMid z TI TO ps i h0 d r h' :=
  ⟨fun q m => (M.on q m).move fun o x => sb.extBut _ _ (D.i q (hd q m)).2.2 x, fun q m => (M.off q m).move fun o x => sb.extBut _ _ (D.i q (hr q m)).2.2 x, sb.1.trans M.size, fun c o c1 c2 c3 x => sb.extBut _ _ c2 (M.still c o c1 c2 c3 x)⟩
theorem ZMid.src {ps d r : List Pt} {p : Pt} {i : Nat} {h0 h : Heap} {vs : List Value} (D : ZAp z TI TO ps) (hp : p ∈ ps) (M : ZMid z TI TO ps i h0 d r h) (c : p.Src h0 vs) : p.Src h vs :=
  c.move fun o e => M.still _ _ (D.l p hp).1 (D.l p hp).2.1 (D.l p hp).2.2 e
theorem take_set {ys : List Value} {dv : List Value} {v : Value} (h : ys.take dv.length = dv) (hl : dv.length < ys.length) : (ys.set dv.length v).take (dv ++ [v]).length = dv ++ [v] := by
  rw [List.length_append, List.length_singleton, List.take_add_one, List.take_set_of_le (Nat.le_refl _), h, List.getElem?_set_self hl]
  rfl
theorem zip_item {ps : List Pt} {vals : List Value} {i : Nat} {ys : Array Value} {Q : Value → Shared → Prop} (D : ZAp z TI TO ps) (hz : ZO s.heap z TI TO f0 f1) (hf0 : Own0 f0) (hTI : TupIs s.heap TI (ps.map fun p => Value.ref p.it).toArray) (hTO : TupIs s.heap TO ys) (hys : ys.size = ps.length)
    (hne : ps ≠ []) (hsz : ps.length ≤ sizeLine) (hat : ∀ p ∈ ps, p.At s.heap i) (hv : Paired (fun p v => ∃ vs, p.Src s.heap vs ∧ vs[i]? = some v) ps vals)
    (hQ : ∀ h' g0 g1 ys', ZO h' z TI TO g0 g1 → Own0 g0 → TupIs h' TO ys' → ys'.size = ps.length → (∀ p ∈ ps, p.At h' (i + 1)) → TupIs h' s.heap.objs.size vals.toArray → h'.objs.size = s.heap.objs.size + 1 → Still z TO ps s.heap h' → Q (.ref s.heap.objs.size) { s with heap := h' }) :
    wpAny (model prog w) A (Builtin.«zip.__next__» ⟨[.ref z], []⟩) (fun fin s' => ∃ v, fin = .done (.ret v) ∧ Q v s') E s := by
  show wpAny _ _ (field (.ref z) 2 >>= _) _ _ _
  refine wpAny_bind (wpAny_field hz rfl (x := .bool false) rfl ?_)
  show wpAny _ _ (field (.ref z) 3 >>= _) _ _ _
  refine wpAny_bind (wpAny_field hz rfl (x := .ref TI) rfl ?_)
  refine wpAny_bind (wpAny_seqItems hTI rfl ?_)
  have hem : (ps.map fun p => Value.ref p.it).toArray.isEmpty = false := by
    cases ps with
    | nil => exact absurd rfl hne
    | cons p r => simp
  simp only [hem, Bool.false_eq_true, if_false]
  have hvl : ps.length = vals.length := Paired.length hv
  refine wpAny_bind (owned_free hz hf0 ?_ fun h1 hz1 hs1 => ?_)
  · simp only [if_true]
    refine wpAny_bind (wpAny_rule (wpAny_bind (wpAny_field hz rfl (x := .ref TO) rfl ?_)))
    refine wpAny_bind (wpAny_setField_rec hz (by simp) fun h1 hz1 hs1 => ?_)
    replace hz1 : ZO h1 z TI TO .ellipsis f1 := hz1
    refine wpAny_bind (wpAny_forIn_list _ (fun rest b s' => ∃ (d r : List Pt) (dv rv : List Value) (ya : Array Value), b = (none, ()) ∧ s' = { s with heap := s'.heap } ∧ ps = d ++ r ∧ vals = dv ++ rv ∧ d.length = dv.length ∧ Paired (fun p v => ∃ vs, p.Src s.heap vs ∧ vs[i]? = some v) r rv ∧
      rest = (r.map fun p => Value.ref p.it).zipIdx d.length ∧ ZO s'.heap z TI TO .ellipsis f1 ∧ TupIs s'.heap TO ya ∧ ya.size = ps.length ∧ ya.toList.take dv.length = dv ∧ ZMid z TI TO ps i s.heap d r s'.heap) _ ?turn ?fin _ _ ?start)
    case start => exact ⟨[], ps, [], vals, ys, rfl, rfl, rfl, rfl, rfl, hv, rfl, hz1, hs1.extBut _ _ D.TOz hTO, hys, rfl, ZMid.start D hat hs1⟩
    case turn =>
      rintro x rest b s' ⟨d, r, dv, rv, ya, rfl, es, ep, ev, el, pr, er, hz2, hT2, hya, htk, M⟩
      cases pr with
      | nil => simp at er
      | @cons p v r rv hp pr =>
        obtain ⟨vs, hsrc, hvi⟩ := hp
        rw [List.map_cons, List.zipIdx_cons] at er
        obtain ⟨rfl, rfl⟩ := List.cons.inj er
        have pm : p ∈ ps := by rw [ep]; simp
        refine wpAny_bind (wpAny_onRaise ?_)
        show wpAny _ _ (Builtin.SmallTypes.nextOf (.ref p.it) >>= _) _ _ _
        refine wpAny_bind (Pt.next (M.off p List.mem_cons_self) (M.src D pm hsrc) hvi fun h3 a3 s3 => wpAny_pure ?_)
        have M3 := M.step D ep a3 s3
        have hT3 : TupIs h3 TO ya := s3.extBut _ _ (D.i p pm).2.2.symm hT2
        refine wpAny_bind (wpAny_seqItems hT3 rfl ?_)
        refine wpAny_bind (wp_putSeq (s := { s' with heap := h3 }) hT3 (by rw [hya]; exact hsz) fun h4 hT4 s4 => ?_)
        refine wpAny_bind (wpAny_letGo (wpAny_pure ?_))
        refine ⟨d ++ [p], r, dv ++ [v], rv, _, rfl, by rw [es], by rw [ep]; simp, by rw [ev]; simp, by simp [el], pr, by rw [List.length_append]; rfl, ?_, hT4, by rw [Array.size_setIfInBounds]; exact hya, ?_, M3.over D (fun q m => ?_) (fun q m => by rw [ep]; simp [m]) s4⟩
        · exact s4.extBut _ _ D.TOz.symm (s3.extBut _ _ (D.i p pm).1.symm hz2)
        · rw [Array.toList_setIfInBounds, el]
          refine take_set htk ?_
          have : ya.toList.length = ps.length := hya
          rw [this, ep, List.length_append, el, List.length_cons]
          omega
        · rcases List.mem_append.mp m with m | m
          · rw [ep]; simp [m]
          · obtain rfl : q = p := by simpa using m
            exact pm
    case fin =>
      rintro b s' ⟨d, r, dv, rv, ya, rfl, es, ep, ev, el, pr, er, hz2, hT2, hya, htk, M⟩
      obtain rfl : r = [] := by
        cases r with
        | nil => rfl
        | cons p r => simp at er
      cases pr
      rw [List.append_nil] at ep ev
      subst ep ev
      refine wpAny_bind (wpAny_seqItems hT2 rfl ?_)
      have hyv : ya.toList = vals := by
        rw [← htk, List.take_of_length_le (by rw [← hvl, ← hya]; exact Nat.le_refl _)]
      refine wpAny_bind (wpAny_newTuple ?_ (by rw [hyv, ← hvl]; exact hsz))
      rw [hyv]
      show wpAny _ _ (Builtin.SmallTypes.ownedTupleHandOut (.ref z) (.ref s'.heap.objs.size) >>= _) _ _ _
      refine wpAny_bind ?_
      unfold Builtin.SmallTypes.ownedTupleHandOut
      have hz3 : ZO (s'.heap.push { cls := .type "tuple", data := .seq vals.toArray }) z TI TO .ellipsis f1 := Heap.get?_push_of_some _ hz2
      refine wpAny_bind (wpAny_setField_rec hz3 (by simp) fun h5 hz5 hs5 => ?_)
      replace hz5 : ZO h5 z TI TO (rawInt s'.heap.objs.size) f1 := hz5
      refine wpAny_setField_rec hz5 (by simp) fun h6 hz6 hs6 => ?_
      replace hz6 : ZO h6 z TI TO (rawInt s'.heap.objs.size) false := hz6
      have up : ∀ c o, c ≠ z → s'.heap.get? c = some o → h6.get? c = some o := fun c o c1 e => hs6.extBut _ _ c1 (hs5.extBut _ _ c1 (Heap.get?_push_of_some _ e))
      have zlt : z < s'.heap.objs.size := Heap.lt_size hz2
      have hT6 : TupIs h6 s'.heap.objs.size vals.toArray := hs6.extBut _ _ (Nat.ne_of_gt zlt) (hs5.extBut _ _ (Nat.ne_of_gt zlt) (Heap.get?_push_size _ rfl))
      have hsz6 : h6.objs.size = s'.heap.objs.size + 1 := by rw [hs6.1, hs5.1, Heap.size_push]
      have hq := hQ h6 _ _ ya hz6 (.inr ⟨_, rfl⟩) (up _ _ D.TOz hT2) hya (fun p m => (M.on p m).move fun o e => up _ o (D.i p m).1 e) (by rw [← M.size]; exact hT6) (by rw [hsz6, M.size]) fun c o c1 c2 c3 e => up c o c1 (M.still c o c1 c2 c3 e)
      rw [← M.size] at hq
      refine wpAny_pure ⟨_, rfl, ?_⟩
      rw [es]
      exact hq
  · simp only [Bool.false_eq_true, if_false]
    refine wpAny_bind (MeetsSeq2.wpAny_forIn_array _ (fun rest b s' => ∃ (d r : List Pt) (dv rv : List Value), b = (none, dv.toArray) ∧ s' = { s with heap := s'.heap } ∧ ps = d ++ r ∧ vals = dv ++ rv ∧ d.length = dv.length ∧ Paired (fun p v => ∃ vs, p.Src s.heap vs ∧ vs[i]? = some v) r rv ∧
      rest = (r.map fun p => Value.ref p.it) ∧ ZO s'.heap z TI TO f0 true ∧ TupIs s'.heap TO ys ∧ ZMid z TI TO ps i s.heap d r s'.heap) _ ?turn ?fin _ _ ?start)
    case start => exact ⟨[], ps, [], vals, rfl, rfl, rfl, rfl, rfl, hv, by simp, hz1, hs1.extBut _ _ D.TOz hTO, ZMid.start D hat hs1⟩
    case turn =>
      rintro x rest b s' ⟨d, r, dv, rv, rfl, es, ep, ev, el, pr, er, hz2, hT2, M⟩
      cases pr with
      | nil => simp at er
      | @cons p v r rv hp pr =>
        obtain ⟨vs, hsrc, hvi⟩ := hp
        rw [List.map_cons] at er
        obtain ⟨rfl, rfl⟩ := List.cons.inj er
        have pm : p ∈ ps := by rw [ep]; simp
        refine wpAny_bind (wpAny_holding ?_)
        show wpAny _ _ (Builtin.SmallTypes.nextOf (.ref p.it) >>= _) _ _ _
        refine wpAny_bind (Pt.next (M.off p List.mem_cons_self) (M.src D pm hsrc) hvi fun h3 a3 s3 => wpAny_pure (wpAny_pure ?_))
        exact ⟨d ++ [p], r, dv ++ [v], rv, by simp, by rw [es], by rw [ep]; simp, by rw [ev]; simp, by simp [el], pr, rfl, s3.extBut _ _ (D.i p pm).1.symm hz2, s3.extBut _ _ (D.i p pm).2.2.symm hT2, M.step D ep a3 s3⟩
    case fin =>
      rintro b s' ⟨d, r, dv, rv, rfl, es, ep, ev, el, pr, er, hz2, hT2, M⟩
      obtain rfl : r = [] := by
        cases r with
        | nil => rfl
        | cons p r => simp at er
      cases pr
      rw [List.append_nil] at ep ev
      subst ep ev
      refine wpAny_bind (wpAny_newTuple ?_ (by show vals.length ≤ sizeLine; rw [← hvl]; exact hsz))
      refine wpAny_pure ⟨_, rfl, ?_⟩
      have hp : TupIs (s'.heap.push { cls := .type "tuple", data := .seq vals.toArray }) s'.heap.objs.size vals.toArray := Heap.get?_push_size _ rfl
      have hq := hQ _ _ _ ys (Heap.get?_push_of_some _ hz2) hf0 (Heap.get?_push_of_some _ hT2) hys (fun p m => (M.on p m).move fun o e => Heap.get?_push_of_some _ e) (by rw [← M.size]; exact hp) (by rw [Heap.size_push, M.size]) fun c o c1 c2 c3 e => Heap.get?_push_of_some _ (M.still c o c1 c2 c3 e)
      rw [← M.size] at hq
      rw [es]
      exact hq
theorem zip_end {p : Pt} {r : List Pt} {i : Nat} {ys : Array Value} {vs : List Value} {Q : PySem.Fin → Shared → Prop} (D : ZAp z TI TO (p :: r)) (hz : ZO s.heap z TI TO f0 f1) (hf0 : Own0 f0) (hTI : TupIs s.heap TI ((p :: r).map fun p => Value.ref p.it).toArray) (hTO : TupIs s.heap TO ys)
    (ha : p.At s.heap i) (hc : p.Src s.heap vs)
    (hend : ∀ (s2 : Shared) (Q2 : Value → Shared → Prop) (E2 : Value → Shared → Prop), Still z TO (p :: r) s.heap s2.heap → p.At s2.heap i → p.Src s2.heap vs → (∀ h' e, Heap.ExtBut p.it s2.heap h' → (∃ o, h'.get? e = some o ∧ o.cls = .type "StopIteration") → E2 (.ref e) { s2 with heap := h' }) →
      wpAny (model prog w) A (Builtin.SmallTypes.nextOf (.ref p.it)) Q2 E2 s2)
    (hE : ∀ h' e, Still z TO (p :: r) s.heap h' → (∃ o, h'.get? e = some o ∧ o.cls = .type "StopIteration") → E (.ref e) { s with heap := h' }) :
    wpAny (model prog w) A (Builtin.«zip.__next__» ⟨[.ref z], []⟩) Q E s := by
  show wpAny _ _ (field (.ref z) 2 >>= _) _ _ _
  refine wpAny_bind (wpAny_field hz rfl (x := .bool false) rfl ?_)
  show wpAny _ _ (field (.ref z) 3 >>= _) _ _ _
  refine wpAny_bind (wpAny_field hz rfl (x := .ref TI) rfl ?_)
  refine wpAny_bind (wpAny_seqItems hTI rfl ?_)
  have hem : ((p :: r).map fun p => Value.ref p.it).toArray.isEmpty = false := by simp
  simp only [hem, Bool.false_eq_true, if_false]
  have pm : p ∈ p :: r := List.mem_cons_self
  have st : ∀ {h1 : Heap}, Heap.SameBut z s.heap h1 → Still z TO (p :: r) s.heap h1 := fun sb c o c1 _ _ e => sb.extBut _ _ c1 e
  refine wpAny_bind (owned_free hz hf0 ?_ fun h1 hz1 hs1 => ?_)
  · simp only [if_true]
    refine wpAny_bind (wpAny_rule (wpAny_bind (wpAny_field hz rfl (x := .ref TO) rfl ?_)))
    refine wpAny_bind (wpAny_setField_rec hz (by simp) fun h1 hz1 hs1 => ?_)
    replace hz1 : ZO h1 z TI TO .ellipsis f1 := hz1
    refine wpAny_bind ?_
    simp only [List.map_cons, List.zipIdx_cons, List.forIn_cons]
    refine wpAny_bind (wpAny_bind (wpAny_onRaise ?_))
    show wpAny _ _ (Builtin.SmallTypes.nextOf (.ref p.it) >>= _) _ _ _
    refine wpAny_bind (hend { s with heap := h1 } _ _ (st hs1) (ha.move fun o e => hs1.extBut _ _ (D.i p pm).1 e) (hc.move fun o e => hs1.extBut _ _ (D.l p pm).1 e) fun h2 e hx he => ?_)
    obtain ⟨oe, hoe, hce⟩ := he
    have hz2 : ZO h2 z TI TO .ellipsis f1 := hx _ _ (D.i p pm).1.symm hz1
    have hez : e ≠ z := fun x => by
      subst x
      rw [hz2] at hoe
      cases hoe
      simp at hce
    exact wpAny_setField_rec hz2 (by simp) fun h3 _ hs3 => hE h3 e (fun c o c1 c2 c3 x => hs3.extBut _ _ c1 (hx _ _ (c3 p pm) (hs1.extBut _ _ c1 x))) ⟨oe, hs3.extBut _ _ hez hoe, hce⟩
  · simp only [Bool.false_eq_true, if_false]
    refine wpAny_bind ?_
    rw [← Array.forIn_toList]
    simp only [List.map_cons, List.forIn_cons]
    refine wpAny_bind (wpAny_bind (wpAny_holding ?_))
    show wpAny _ _ (Builtin.SmallTypes.nextOf (.ref p.it) >>= _) _ _ _
    refine wpAny_bind (hend { s with heap := h1 } _ _ (st hs1) (ha.move fun o e => hs1.extBut _ _ (D.i p pm).1 e) (hc.move fun o e => hs1.extBut _ _ (D.l p pm).1 e) fun h2 e hx he => ?_)
    exact hE h2 e (fun c o c1 c2 c3 x => hx _ _ (c3 p pm) (hs1.extBut _ _ c1 x)) he
theorem pyNext_zip {ps : List Pt} {vals : List Value} {i : Nat} {ys : Array Value} {Q : Option Value → Shared → Prop} (D : ZAp z TI TO ps) (hz : ZO s.heap z TI TO f0 f1) (hf0 : Own0 f0) (hTI : TupIs s.heap TI (ps.map fun p => Value.ref p.it).toArray) (hTO : TupIs s.heap TO ys) (hys : ys.size = ps.length)
    (hne : ps ≠ []) (hsz : ps.length ≤ sizeLine) (hat : ∀ p ∈ ps, p.At s.heap i) (hv : Paired (fun p v => ∃ vs, p.Src s.heap vs ∧ vs[i]? = some v) ps vals)
    (hQ : ∀ h' g0 g1 ys', ZO h' z TI TO g0 g1 → Own0 g0 → TupIs h' TO ys' → ys'.size = ps.length → (∀ p ∈ ps, p.At h' (i + 1)) → TupIs h' s.heap.objs.size vals.toArray → h'.objs.size = s.heap.objs.size + 1 → Still z TO ps s.heap h' → Q (some (.ref s.heap.objs.size)) { s with heap := h' }) :
    wpAny (model prog w) A (pyNext (.ref z)) Q E s := by
  have hT : s.TypeIs (.ref z) "zip" := ⟨_, hz, rfl⟩
  unfold pyNext
  exact wpAny_bind (wpAny_attempt (wpAny_callSpecial?_slot (name := Str.ofString "__next__") hT F.slot_zip_next (wpAny_call_entry F.slot_zip_next hT F.entry_zip_next
    (zip_item D hz hf0 hTI hTO hys hne hsz hat hv fun h' g0 g1 y a1 a2 a3 a4 a5 a6 a7 a8 => wpAny_pure (hQ h' g0 g1 y a1 a2 a3 a4 a5 a6 a7 a8)) (F.args_zip_next_1 _))))
theorem pyNext_zipEnd {p : Pt} {r : List Pt} {i : Nat} {ys : Array Value} {vs : List Value} {Q : Option Value → Shared → Prop} (D : ZAp z TI TO (p :: r)) (hz : ZO s.heap z TI TO f0 f1) (hf0 : Own0 f0) (hTI : TupIs s.heap TI ((p :: r).map fun p => Value.ref p.it).toArray) (hTO : TupIs s.heap TO ys)
    (ha : p.At s.heap i) (hc : p.Src s.heap vs)
    (hend : ∀ (s2 : Shared) (Q2 : Value → Shared → Prop) (E2 : Value → Shared → Prop), Still z TO (p :: r) s.heap s2.heap → p.At s2.heap i → p.Src s2.heap vs → (∀ h' e, Heap.ExtBut p.it s2.heap h' → (∃ o, h'.get? e = some o ∧ o.cls = .type "StopIteration") → E2 (.ref e) { s2 with heap := h' }) →
      wpAny (model prog w) A.in1 (Builtin.SmallTypes.nextOf (.ref p.it)) Q2 E2 s2)
    (hQ : ∀ h', Still z TO (p :: r) s.heap h' → Q none { s with heap := h' }) : wpAny (model prog w) A (pyNext (.ref z)) Q E s := by
  have hT : s.TypeIs (.ref z) "zip" := ⟨_, hz, rfl⟩
  unfold pyNext
  refine wpAny_bind (wpAny_attempt (wpAny_callSpecial?_slot (name := Str.ofString "__next__") hT F.slot_zip_next (wpAny_call_entry F.slot_zip_next hT F.entry_zip_next
    (zip_end D hz hf0 hTI hTO ha hc hend fun h' e hk he => ?_) (F.args_zip_next_1 _))))
  obtain ⟨o, ho, hoc⟩ := he
  exact wpAny_bind (wpAny_isInstance (T := "StopIteration") (b := true) ⟨o, ho, hoc⟩ isSubtype_stop (wpAny_pure (hQ _ hk)))
theorem go_zip {tg : Expr} {T : Addr} {Q : Unit → Shared → Prop} (hz : ZO s.heap z TI TO f0 f1) (hQ : ∀ h' g0, ZO h' z TI TO g0 f1 → (g0 = f0 ∨ g0 = .none) → Heap.SameBut z s.heap h' → Q () { s with heap := h' }) :
    wpAny (model prog w) A (letOwnedTupleGo tg (.ref z) (.ref T)) Q E s := by
  have same : Q () s := hQ s.heap f0 hz (.inl rfl) (Heap.SameBut.refl _ _)
  unfold letOwnedTupleGo
  cases tg <;> first
    | exact wpAny_pure same
    | (refine wpAny_bind (wpAny_load hz ?_)
       show wpAny _ _ (if _ then _ else _) Q E s
       split
       · exact wpAny_bind (wpAny_rule (wpAny_setField_rec hz (by simp) fun h' hz' hs' => hQ h' _ hz' (.inr rfl) hs'))
       · exact wpAny_pure same)
theorem iter_zip {Q : Value → Shared → Prop} (hz : ZO s.heap z TI TO f0 f1) (h : Q (.ref z) s) : wpAny (model prog w) A (pyIter (.ref z)) Q E s := by
  have hT : s.TypeIs (.ref z) "zip" := ⟨_, hz, rfl⟩
  refine wpAny_pyIter_slot hT F.slot_zip_iter (wpAny_call_entry F.slot_zip_iter hT F.entry_zip_iter ?_ (F.args_zip_iter_1 _))
  show wpAny _ _ (ret (.ref z)) _ _ s
  exact wpAny_pure ⟨_, rfl, "zip", _, hT, F.slot_zip_next.lookup, h⟩
end
end Vf
set_option Elab.async false
set_option linter.all false
set_option maxRecDepth 100000
set_option maxHeartbeats 4000000
namespace Vf
open PySem PySem.Spec PyProof.Rows L2
theorem typeCall_zip (l : List Value) : checkTypeCall "zip" ⟨l, []⟩ = pure () := by kernel_rfl
theorem newCall_z1 (a : Value) : checkBuiltinCall "zip.__new__" ⟨.type "zip" :: [a], []⟩ = pure () := by kernel_rfl
theorem newCall_z2 (a b : Value) : checkBuiltinCall "zip.__new__" ⟨.type "zip" :: [a, b], []⟩ = pure () := by kernel_rfl
theorem newCall_z3 (a b c : Value) : checkBuiltinCall "zip.__new__" ⟨.type "zip" :: [a, b, c], []⟩ = pure () := by kernel_rfl
theorem newCall_z4 (a b c d : Value) : checkBuiltinCall "zip.__new__" ⟨.type "zip" :: [a, b, c, d], []⟩ = pure () := by kernel_rfl
theorem newCall_z5 (a b c d e : Value) : checkBuiltinCall "zip.__new__" ⟨.type "zip" :: [a, b, c, d, e], []⟩ = pure () := by kernel_rfl
theorem newCall_z6 (a b c d e f : Value) : checkBuiltinCall "zip.__new__" ⟨.type "zip" :: [a, b, c, d, e, f], []⟩ = pure () := by kernel_rfl
theorem newCall_zip : ∀ l : List Value, l ≠ [] → l.length ≤ 6 → checkBuiltinCall "zip.__new__" ⟨.type "zip" :: l, []⟩ = pure ()
  | [], h, _ => absurd rfl h
  | [a], _, _ => newCall_z1 a
  | [a, b], _, _ => newCall_z2 a b
  | [a, b, c], _, _ => newCall_z3 a b c
  | [a, b, c, d], _, _ => newCall_z4 a b c d
  | [a, b, c, d, e], _, _ => newCall_z5 a b c d e
  | [a, b, c, d, e, f], _, _ => newCall_z6 a b c d e f
  | a :: b :: c :: d :: e :: f :: g :: r, _, h => absurd h (by simp)
theorem args_oinit (o : Value) (l : List Value) : argsOk "object.__init__" ⟨o :: l, []⟩ := by
  unfold argsOk
  rw [signature?_of (id := "object.__init__") (n := ['_', '_', 't', 'i', 'n', 'i', '_', '_']) (o := ['t', 'c', 'e', 'j', 'b', 'o']) (by kernel_rfl) F.owner_object]
  kernel_rfl
end Vf
set_option Elab.async false
set_option linter.all false
set_option maxRecDepth 100000
set_option maxHeartbeats 4000000
/-! zip of any number of lists and tuples: the turns, the making, the rules. -/
namespace Vf
open PySem PySem.Spec PyProof.Rows L2
/-! ### the making -/
/-- the parts of a new zip: the iterators stand from n on -/
def ptsFrom : Nat → List (Bool × Addr) → List Pt
  | _, [] => []
  | n, q :: r => ⟨q.1, n, q.2⟩ :: ptsFrom (n + 1) r
theorem ptsFrom_length : ∀ (n : Nat) (ls : List (Bool × Addr)), (ptsFrom n ls).length = ls.length
  | _, [] => rfl
  | n, _ :: r => congrArg (· + 1) (ptsFrom_length (n + 1) r)
theorem ptsFrom_mem : ∀ {n : Nat} {ls : List (Bool × Addr)} {p : Pt}, p ∈ ptsFrom n ls → @LE.le Nat _ n p.it ∧ @LT.lt Nat _ p.it (n + ls.length) ∧ (p.b, p.l) ∈ ls
  | _, [], _, h => nomatch h
  | n, q :: r, p, h => by
    rcases List.mem_cons.mp h with rfl | h
    · exact ⟨Nat.le_refl _, by simp, by simp⟩
    · obtain ⟨h1, h2, h3⟩ := ptsFrom_mem h
      have e : (q :: r).length = r.length + 1 := rfl
      exact ⟨by omega, by rw [e]; omega, List.mem_cons_of_mem _ h3⟩
theorem ptsFrom_nodup : ∀ (n : Nat) (ls : List (Bool × Addr)), ((ptsFrom n ls).map (·.it)).Nodup
  | _, [] => List.nodup_nil
  | n, q :: r => by
    show (n :: (ptsFrom (n + 1) r).map (·.it)).Nodup
    rw [List.nodup_cons]
    refine ⟨fun h => ?_, ptsFrom_nodup (n + 1) r⟩
    obtain ⟨p, hp, e⟩ := List.mem_map.mp h
    have h1 := (ptsFrom_mem hp).1
    have e : p.it = n := e
    omega
theorem ptsFrom_append : ∀ (n : Nat) (d r : List (Bool × Addr)), ptsFrom n (d ++ r) = ptsFrom n d ++ ptsFrom (n + d.length) r
  | _, [], _ => rfl
  | n, q :: d, r => by
    show _ :: ptsFrom (n + 1) (d ++ r) = _ :: (ptsFrom (n + 1) d ++ _)
    rw [ptsFrom_append (n + 1) d r, List.length_cons]
    congr 3
    omega
theorem ptsFrom_src : ∀ (n : Nat) (ls : List (Bool × Addr)), (ptsFrom n ls).map (fun p => (p.b, p.l)) = ls
  | _, [] => rfl
  | n, q :: r => by
    show (q.1, q.2) :: _ = _
    rw [ptsFrom_src (n + 1) r]
def SrcB (h : Heap) (q : Bool × Addr) : Prop := ∃ vs, (Pt.mk q.1 0 q.2).Src h vs
section
variable {prog : Program} {w : World} {A : Around} {E : Value → Shared → Prop} {s : Shared}
theorem iter_src {q : Bool × Addr} {Q : Value → Shared → Prop} (h : SrcB s.heap q) (hQ : ∀ h', (Pt.mk q.1 s.heap.objs.size q.2).At h' 0 → h'.objs.size = s.heap.objs.size + 1 → (∀ c o, s.heap.get? c = some o → h'.get? c = some o) → Q (.ref s.heap.objs.size) { s with heap := h' }) :
    wpAny (model prog w) A (pyIter (.ref q.2)) Q E s := by
  obtain ⟨b, l⟩ := q
  obtain ⟨vs, hs⟩ := h
  cases b with
  | true => exact wpAny_pyIter_list hs (hQ _ ⟨_, Heap.get?_push_size _ rfl, rfl, rfl⟩ (Heap.size_push ..) fun _ _ e => Heap.get?_push_of_some _ e)
  | false => exact wpAny_pyIter_tuple hs (hQ _ ⟨_, Heap.get?_push_size _ rfl, rfl, rfl⟩ (Heap.size_push ..) fun _ _ e => Heap.get?_push_of_some _ e)
/-- what a new zip has -/
structure ZNew (n : Nat) (ls : List (Bool × Addr)) (h h' : Heap) : Prop where
  at_ : ∀ p ∈ ptsFrom n ls, p.At h' 0
  ti : TupIs h' (n + ls.length) ((ptsFrom n ls).map fun p => Value.ref p.it).toArray
  to : TupIs h' (n + ls.length + 1) (List.replicate ls.length Value.none).toArray
  zo : ZO h' (n + ls.length + 2) (n + ls.length) (n + ls.length + 1) .none false
  keep : ∀ c o, h.get? c = some o → h'.get? c = some o
theorem zip_new {ls : List (Bool × Addr)} {Q : Value → Shared → Prop} (hs : ∀ q ∈ ls, SrcB s.heap q) (hz : ls.length ≤ sizeLine) (hQ : ∀ h', ZNew s.heap.objs.size ls s.heap h' → Q (.ref (s.heap.objs.size + ls.length + 2)) { s with heap := h' }) :
    wpAny (model prog w) A (Builtin.«zip.__new__» ⟨.type "zip" :: ls.map (fun q => Value.ref q.2), []⟩) (fun fin s' => ∃ v, fin = .done (.ret v) ∧ Q v s') E s := by
  unfold Builtin.«zip.__new__» Builtin.SmallTypes.newClass
  have hsub := sub_zip
  wp_walk using wpAny_forIn_list _ (fun rest b s' => ∃ d r : List (Bool × Addr), ls = d ++ r ∧ rest = r.map (fun q => Value.ref q.2) ∧ b = ((ptsFrom s.heap.objs.size d).map fun p => Value.ref p.it).toArray ∧ s' = { s with heap := s'.heap } ∧ s'.heap.objs.size = s.heap.objs.size + d.length ∧ (∀ p ∈ ptsFrom s.heap.objs.size d, p.At s'.heap 0) ∧ ∀ c o, s.heap.get? c = some o → s'.heap.get? c = some o) _
  case turn =>
    rintro x rest b s' ⟨d, r, e, er, rfl, es, sz, ha, hk⟩
    cases r with
    | nil => simp at er
    | cons q r =>
      rw [List.map_cons] at er
      obtain ⟨rfl, rfl⟩ := List.cons.inj er
      refine wpAny_bind (wpAny_holding (iter_src (by
        obtain ⟨vs, hv⟩ := hs q (by rw [e]; simp)
        exact ⟨vs, hv.move fun o x => hk _ _ x⟩) fun h2 a2 z2 k2 => wpAny_pure ?_))
      refine ⟨d ++ [q], r, by rw [e]; simp, rfl, ?_, by rw [es], by rw [List.length_append, List.length_singleton, z2, sz, Nat.add_assoc], fun p hp => ?_, fun c o x => k2 _ _ (hk c o x)⟩
      · rw [ptsFrom_append, List.map_append, sz]
        simp [ptsFrom]
      · rw [ptsFrom_append] at hp
        rcases List.mem_append.mp hp with hp | hp
        · exact (ha p hp).move fun o x => k2 _ _ x
        · obtain rfl : p = _ := by simpa [ptsFrom] using hp
          rw [← sz]
          exact a2
  case fin =>
    rintro b s' ⟨d, r, e, er, rfl, es, sz, ha, hk⟩
    obtain rfl : r = [] := by
      cases r with
      | nil => rfl
      | cons q r => simp at er
    rw [List.append_nil] at e
    subst e
    obtain ⟨hp, g, dr, tk, os⟩ := s'
    simp only [Shared.mk.injEq] at es
    obtain ⟨-, rfl, rfl, rfl, rfl⟩ := es
    show wpAny _ _ (pure _) _ _ _
    refine wpAny_pure ?_
    have hl : (List.map (fun p => Value.ref p.it) (ptsFrom s.heap.objs.size ls)).length = ls.length := by rw [List.length_map, ptsFrom_length]
    have hn : List.map (fun _ : Value => Value.none) (List.map (fun p => Value.ref p.it) (ptsFrom s.heap.objs.size ls)) = List.replicate ls.length Value.none := by
      rw [List.map_const', hl]
    rw [List.toList_toArray, hn]
    refine wpAny_bind (wpAny_newTuple ?_ (by rw [hl]; exact hz))
    refine wpAny_bind (wpAny_newTuple ?_ (by rw [List.length_replicate]; exact hz))
    refine wpAny_bind ?_
    unfold Builtin.SmallTypes.newRecord
    refine wpAny_newObj_type (wpAny_pure ⟨_, rfl, ?_⟩) (show (5 : Nat) ≤ sizeLine + 2 by decide)
    have sz : hp.objs.size = s.heap.objs.size + ls.length := sz
    have z1 : (hp.push { cls := .type "tuple", data := .seq (List.map (fun p => Value.ref p.it) (ptsFrom s.heap.objs.size ls)).toArray }).objs.size = s.heap.objs.size + ls.length + 1 := by rw [Heap.size_push, sz]
    have z2 : ((hp.push { cls := .type "tuple", data := .seq (List.map (fun p => Value.ref p.it) (ptsFrom s.heap.objs.size ls)).toArray }).push { cls := .type "tuple", data := .seq (List.replicate ls.length Value.none).toArray }).objs.size = s.heap.objs.size + ls.length + 2 := by rw [Heap.size_push, z1]
    have up : ∀ {o1 o2 o3 : Obj} c o, hp.get? c = some o → (((hp.push o1).push o2).push o3).get? c = some o := fun c o e => Heap.get?_push_of_some _ (Heap.get?_push_of_some _ (Heap.get?_push_of_some _ e))
    show Q (.ref ((hp.push _).push _).objs.size) _
    refine (congrArg (fun n => Q (.ref n) _) z2.symm).mp (hQ _ ⟨fun p m => (ha p m).move fun o e => up _ _ e, ?_, ?_, ?_, fun c o e => up _ _ (hk c o e)⟩)
    · rw [← sz]
      exact Heap.get?_push_of_some _ (Heap.get?_push_of_some _ (Heap.get?_push_size _ rfl))
    · rw [← z1]
      exact Heap.get?_push_of_some _ (Heap.get?_push_size _ rfl)
    · rw [← z2, ← z1, ← sz]
      exact Heap.get?_push_size _ rfl
  case h => exact ⟨[], ls, rfl, rfl, rfl, rfl, rfl, fun _ h => (nomatch h), fun _ _ e => e⟩
theorem call_zip {ls : List (Bool × Addr)} {Q : Value → Shared → Prop} (hs : ∀ q ∈ ls, SrcB s.heap q) (hne : ls ≠ []) (hz : ls.length ≤ 6) (hQ : ∀ h', ZNew s.heap.objs.size ls s.heap h' → Q (.ref (s.heap.objs.size + ls.length + 2)) { s with heap := h' }) :
    wpAny (model prog w) A (call (.type "zip") (ls.map fun q => Value.ref q.2)) Q E s := by
  refine callType_new (S := fun _ R s' => s' = s ∧ ∀ h', ZNew s.heap.objs.size ls s.heap h' → R (.ok (.ret (.ref (s.heap.objs.size + ls.length + 2)))) { s with heap := h' }) F.called_zip (by decide) (typeCall_zip _) (newCall_zip _ (by simpa using hne) (by rw [List.length_map]; exact hz)) (fun obj => args_oinit obj _) F.entry_zip_new
    (.of_wp fun prog w A R s' h => ?_) ⟨rfl, fun h' N => ⟨⟨_, N.zo, rfl⟩, hQ h' N⟩⟩
  obtain ⟨rfl, h⟩ := h
  exact zip_new (Q := fun v s1 => R (.ok (.ret v)) s1) hs (Nat.le_trans hz (by decide)) h
end
/-! ### the turns -/
def SqB (K : PySem.W.Frag) (H : Hp) (q : Bool × Addr) (xs : List V) : Prop := match q.1 with
  | true => SqL K H q.2 xs
  | false => SqT K H q.2 xs
theorem SqB.same {K : PySem.W.Frag} {H H' : Hp} {q : Bool × Addr} {xs : List V} (s : Same H H') (h : SqB K H q xs) : SqB K H' q xs := by
  obtain ⟨b, a⟩ := q
  cases b with
  | true => exact s.seq h
  | false => exact Same.seqT s h
theorem SqV.toB {K : PySem.W.Frag} {H : Hp} {a : Addr} {xs : List V} (h : SqV K H a xs) : ∃ b, SqB K H (b, a) xs := h.elim (fun z => ⟨true, z⟩) fun z => ⟨false, z⟩
/-- these lists and tuples as they stand at each turn, the items in new tuples; alike in length -/
def ItN (K : PySem.W.Frag) (ls : List (Bool × Addr)) : It :=
  ⟨fun i H => ∃ xss : List (List V), Paired (SqB K H) ls xss ∧ ∀ xs ∈ xss, i < xs.length,
    fun i H v H' => ∃ T ys, v = .ref T ∧ H T = none ∧ H' = upd H T (.tup ys) ∧ ∀ xss, Paired (SqB K H) ls xss → Paired (fun (xs : List V) y => xs[i]? = some y) xss ys,
    fun i H => ∃ q r xs, ls = q :: r ∧ SqB K H q xs ∧ xs.length ≤ i⟩
theorem Paired.uniq {α β : Type} {G : α → β → Prop} (u : ∀ a b b', G a b → G a b' → b = b') : ∀ {l : List α} {m m' : List β}, Paired G l m → Paired G l m' → m = m'
  | _, _, _, .nil, .nil => rfl
  | _, _, _, .cons h r, .cons h' r' => by rw [u _ _ _ h h', Paired.uniq u r r']
section
variable {X : Cx} {pins : List (Addr × Obj)} {σ : L2.St} {H : Hp} {s : Shared}
theorem sqB_src (I : Inv X pins σ H s) {q : Bool × Addr} {n : Addr} {xs : List V} (h : SqB X.K H q xs) : ∃ us, Vals xs us ∧ (Pt.mk q.1 n q.2).Src s.heap us := by
  obtain ⟨b, a⟩ := q
  cases b with
  | true =>
    obtain ⟨its, rv, p, _⟩ := I.list h
    exact ⟨its, rv, p.isList⟩
  | false =>
    obtain ⟨its, rv, p, _⟩ := I.tuple h
    exact ⟨its, rv, p⟩
theorem sqB_inj (I : Inv X pins σ H s) {q : Bool × Addr} {xs ys : List V} (h : SqB X.K H q xs) (h' : SqB X.K H q ys) : xs = ys := by
  obtain ⟨b, a⟩ := q
  cases b with
  | true => exact I.list_inj h h'
  | false => exact I.tuple_inj h h'
/-- the items of a turn -/
theorem zip_vals (I : Inv X pins σ H s) {i : Nat} : ∀ {ps : List Pt} {xss : List (List V)}, Paired (SqB X.K H) (ps.map fun p => (p.b, p.l)) xss → (∀ xs ∈ xss, i < xs.length) →
    ∃ (ys : List V) (us : List Value), Vals ys us ∧ Paired (fun p v => ∃ vs, p.Src s.heap vs ∧ vs[i]? = some v) ps us ∧ Paired (fun (xs : List V) y => xs[i]? = some y) xss ys
  | [], _, .nil, _ => ⟨[], [], .nil, .nil, .nil⟩
  | p :: ps, _, .cons (b := xs) h r, hi => by
    obtain ⟨ys, us, r1, r2, r3⟩ := zip_vals I r fun x hx => hi x (List.mem_cons_of_mem _ hx)
    obtain ⟨vs, rv, hs⟩ := sqB_src (n := p.it) I h
    obtain ⟨u, hu, ru⟩ := rv.get (List.getElem?_eq_getElem (hi xs List.mem_cons_self))
    exact ⟨_ :: ys, u :: us, .cons ru r1, .cons ⟨vs, hs, hu⟩ r2, .cons (List.getElem?_eq_getElem _) r3⟩
end
theorem turn_zipN {P : Program} {w : World} {K : PySem.W.Frag} {tg : Expr} {z TI TO : Addr} {ps : List Pt} (D : ZAp z TI TO ps) (hsz : ps.length ≤ sizeLine) (hne : ps ≠ []) :
    Turn P w K tg (ItN K (ps.map fun p => (p.b, p.l))) (z :: TI :: TO :: ps.map (·.it)) z
      (fun i h => ∃ g0 g1 ys, ZO h z TI TO g0 g1 ∧ Own0 g0 ∧ TupIs h TI (ps.map fun p => Value.ref p.it).toArray ∧ TupIs h TO ys ∧ ys.size = ps.length ∧ ∀ p ∈ ps, p.At h i) where
  mem := List.mem_cons_self
  obj := fun i h st c hc => by
    obtain ⟨g0, g1, ys, hz, _, hTI, hTO, _, hat⟩ := st
    rcases List.mem_cons.mp hc with rfl | hc
    · exact ⟨_, hz, fun v q => nomatch q⟩
    rcases List.mem_cons.mp hc with rfl | hc
    · exact ⟨_, hTI, fun v q => nomatch q⟩
    rcases List.mem_cons.mp hc with rfl | hc
    · exact ⟨_, hTO, fun v q => nomatch q⟩
    obtain ⟨p, hp, rfl⟩ := List.mem_map.mp hc
    obtain ⟨o, e, _, d⟩ := hat p hp
    exact ⟨o, e, fun v q => by rw [d] at q; cases q⟩
  keep := fun i h h' st k => by
    obtain ⟨g0, g1, ys, hz, ho, hTI, hTO, hys, hat⟩ := st
    exact ⟨g0, g1, ys, k z (by simp) _ hz, ho, k TI (by simp) _ hTI, k TO (by simp) _ hTO, hys, fun p hp => (hat p hp).move fun o e => k _ (by simp; exact .inr (.inr (.inr ⟨p, hp, rfl⟩))) o e⟩
  item := by
    intro X hP hw hK hc i pins s σ H E I hf st hg
    subst hP hw hK
    obtain ⟨g0, g1, ya, hz, ho, hTI, hTO, hya, hat⟩ := st
    obtain ⟨xss, pr, hi⟩ := hg
    obtain ⟨ys, us, rv, hv, hy⟩ := zip_vals I pr hi
    have hus : ps.length = us.length := Paired.length hv
    have zlt : z < s.heap.objs.size := Heap.lt_size hz
    refine pyNext_zip D hz ho hTI hTO hya hne hsz hat hv fun h1 k0 k1 yb z1 o1 t1 y1 a1 T1 s1 st1 => ⟨_, rfl, go_zip (s := { s with heap := h1 }) z1 fun h2 m0 z2 o2 sb => ?_⟩
    have hT2 : TupIs h2 s.heap.objs.size us.toArray := (sb.2 _ (Nat.ne_of_gt zlt)).trans T1
    have new : ObjOk X.prog X.w (upd H s.heap.objs.size (.tup ys)) h2 s.heap.objs.size (.tup ys) := ⟨by rw [rv.length, ← hus]; exact hsz, us, rv, ⟨_, hT2, rfl, _, rfl⟩⟩
    have up : ∀ c o, c ∉ z :: TI :: TO :: ps.map (·.it) → s.heap.get? c = some o → h2.get? c = some o := fun c o hb e => by
      have hcz : c ≠ z := fun q => hb (by simp [q])
      exact (sb.2 c hcz).trans (st1 c o hcz (fun q => hb (by simp [q])) (fun p hp q => hb (by simp; exact .inr (.inr (.inr ⟨p, hp, q.symm⟩)))) e)
    have I1 : Inv X pins σ (upd H s.heap.objs.size (.tup ys)) { s with heap := h2 } := I.turnedNew (t' := s.toks) (ch := z :: TI :: TO :: ps.map (·.it)) up hf (Nat.le_refl _) new
    refine ⟨.ref s.heap.objs.size, _, I1, rfl, ⟨_, ys, rfl, I.hok.fresh (Nat.le_refl _), rfl, fun yss pr' => ?_⟩, ⟨m0, k1, yb, z2, ?_, ?_, ?_, y1, fun p hp => (a1 p hp).move fun o e => (sb.2 _ (D.i p hp).1).trans e⟩, fun c hcm => ?_⟩
    · obtain rfl : yss = xss := Paired.uniq (G := SqB X.K H) (fun a b b' h h' => sqB_inj I h h') pr' pr
      exact hy
    · rcases o2 with rfl | rfl
      · exact o1
      · exact .inl rfl
    · exact (sb.2 _ D.TIz).trans (st1 _ _ D.TIz D.TITO (fun p hp => (D.i p hp).2.1.symm) hTI)
    · exact (sb.2 _ D.TOz).trans t1
    · have hlt : c < s.heap.objs.size := by
        rcases List.mem_cons.mp hcm with rfl | hcm
        · exact zlt
        rcases List.mem_cons.mp hcm with rfl | hcm
        · exact Heap.lt_size hTI
        rcases List.mem_cons.mp hcm with rfl | hcm
        · exact Heap.lt_size hTO
        obtain ⟨p, hp, rfl⟩ := List.mem_map.mp hcm
        obtain ⟨o, e, _⟩ := hat p hp
        exact Heap.lt_size e
      rw [upd_ne (Nat.ne_of_lt hlt)]
      exact (hf c hcm).1
  done := by
    intro X hP hw hK hc i pins s σ H E I hf st hg
    subst hP hw hK
    obtain ⟨g0, g1, ya, hz, ho, hTI, hTO, hya, hat⟩ := st
    obtain ⟨q, r, xs, e, hq, hl⟩ := hg
    cases ps with
    | nil => exact absurd rfl hne
    | cons p ps =>
      obtain ⟨rfl, rfl⟩ := List.cons.inj e
      obtain ⟨vs, rv, hs⟩ := sqB_src (n := p.it) I hq
      have hx : vs[i]? = none := List.getElem?_eq_none (by rw [← rv.length]; exact hl)
      refine pyNext_zipEnd D hz ho hTI hTO (hat p List.mem_cons_self) hs (fun s2 Q2 E2 _ a c h => Pt.stop (show X.A.in1.handled = none from I.ok.hd hc) a c hx h) fun h' st' => ⟨rfl, I.turnedL (t' := s.toks) (ch := z :: TI :: TO :: (p :: ps).map (·.it)) (fun c o hb q => ?_) hf⟩
      exact st' c o (fun y => hb (by simp [y])) (fun y => hb (by simp [y])) (fun p' hp y => hb (List.mem_cons_of_mem _ (List.mem_cons_of_mem _ (List.mem_cons_of_mem _ (y ▸ List.mem_map_of_mem hp))))) q
  self := fun A i s Q E st h => let ⟨_, _, _, hz, _⟩ := st; iter_zip hz h
/-! ### the rules -/
theorem zap_new {n : Nat} {ls : List (Bool × Addr)} (h : ∀ q ∈ ls, q.2 < n) : ZAp (n + ls.length + 2) (n + ls.length) (n + ls.length + 1) (ptsFrom n ls) := by
  have key : ∀ p ∈ ptsFrom n ls, @LE.le Nat _ n p.it ∧ @LT.lt Nat _ p.it (n + ls.length) ∧ @LT.lt Nat _ p.l n := fun p hp => let ⟨a, b, c⟩ := ptsFrom_mem hp; ⟨a, b, h _ c⟩
  refine ⟨fun z => ?_, fun z => ?_, fun z => ?_, fun p hp => ⟨fun z => ?_, fun z => ?_, fun z => ?_⟩, fun p hp => ⟨fun z => ?_, fun z => ?_, fun q hq z => ?_⟩, ptsFrom_nodup n ls⟩
  · have z : n + ls.length = n + ls.length + 2 := z
    omega
  · have z : n + ls.length + 1 = n + ls.length + 2 := z
    omega
  · have z : n + ls.length = n + ls.length + 1 := z
    omega
  · have := key p hp
    have z : @Eq Nat p.it (n + ls.length + 2) := z
    omega
  · have := key p hp
    have z : @Eq Nat p.it (n + ls.length) := z
    omega
  · have := key p hp
    have z : @Eq Nat p.it (n + ls.length + 1) := z
    omega
  · have := key p hp
    have z : @Eq Nat p.l (n + ls.length + 2) := z
    omega
  · have := key p hp
    have z : @Eq Nat p.l (n + ls.length + 1) := z
    omega
  · have := key p hp
    have := key q hq
    have z : @Eq Nat p.l (q.it) := z
    omega
def ZipR (K : PySem.W.Frag) (ls : List (Bool × Addr)) (H : Hp) : Prop := ls ≠ [] ∧ ls.length ≤ 6 ∧ ∀ q ∈ ls, ∃ xs, SqB K H q xs
/-- a zip made, and its iterator -/
theorem zip_made {X : Cx} {tg : Expr} {pins : List (Addr × Obj)} {σ : L2.St} {H : Hp} {s : Shared} {R : It → Hp → Prop} {ls : List (Bool × Addr)} (I : Inv X pins σ H s) (h : ZipR X.K ls H) (q : R (ItN X.K ls) H) :
    wpAny (model X.prog X.w) X.A (call (.type "zip") (ls.map fun q => Value.ref q.2)) (fun v s1 => wpAny (model X.prog X.w) X.A (pyIter v) (PIE X pins σ tg R) X.xe s1) X.xe s := by
  obtain ⟨h1, h2, h3⟩ := h
  have src : ∀ q ∈ ls, SrcB s.heap q := fun q hq => by
    obtain ⟨xs, hx⟩ := h3 q hq
    obtain ⟨us, _, hs⟩ := sqB_src (n := 0) I hx
    exact ⟨us, hs⟩
  have low : ∀ q ∈ ls, q.2 < s.heap.objs.size := fun q hq => by
    obtain ⟨us, o, e, _⟩ := src q hq
    exact Heap.lt_size e
  have ne : ptsFrom s.heap.objs.size ls ≠ [] := fun z => h1 (by
    have := ptsFrom_length s.heap.objs.size ls
    rw [z] at this
    exact List.length_eq_zero_iff.mp this.symm)
  refine call_zip src h1 h2 fun h' N => iter_zip N.zo ?_
  have I2 : Inv X pins σ H { s with heap := h' } := I.kept (t' := s.toks) N.keep
  have T := turn_zipN (P := X.prog) (w := X.w) (K := X.K) (tg := tg) (zap_new low) (by rw [ptsFrom_length]; exact Nat.le_trans h2 (by decide)) ne
  rw [ptsFrom_src] at T
  refine ⟨_, _, _, _, H, rfl, I2, T, ⟨.none, false, _, N.zo, .inl rfl, N.ti, N.to, by rw [List.size_toArray, List.length_replicate, ptsFrom_length], N.at_⟩, fun b hb => ?_, q⟩
  have hle : @LE.le Nat _ s.heap.objs.size b := by
    rcases List.mem_cons.mp hb with rfl | hb
    · show s.heap.objs.size ≤ s.heap.objs.size + ls.length + 2
      omega
    rcases List.mem_cons.mp hb with rfl | hb
    · show s.heap.objs.size ≤ s.heap.objs.size + ls.length
      omega
    rcases List.mem_cons.mp hb with rfl | hb
    · show s.heap.objs.size ≤ s.heap.objs.size + ls.length + 1
      omega
    obtain ⟨p, hp, rfl⟩ := List.mem_map.mp hb
    exact (ptsFrom_mem hp).1
  exact I.fpOk hle (I.hok.fresh hle)
theorem refs_of : ∀ {ls : List (Bool × Addr)} {us : List Value}, Vals (ls.map fun q => V.ref q.2) us → us = ls.map fun q => Value.ref q.2
  | [], _, r => by cases r; rfl
  | q :: ls, _, r => by
    cases r with
    | cons h r => rw [List.map_cons, show _ = Value.ref q.2 from h, refs_of r]
def iZipN (K : PySem.W.Frag) (ta : TA) : TI := fun σ H R => ta σ H fun vs H1 => ∃ ls : List (Bool × Addr), vs = ls.map (fun q => V.ref q.2) ∧ ZipR K ls H1 ∧ R (ItN K ls) H1
theorem pi_zipN {X : Cx} {tg e : Expr} {es : List Expr} {ta : TA} {p pos : Pos} (hg : Gl X "zip") (hm : X.mg "zip" = none) (ha : PA X (e :: es) ta) (hs : starEach (e :: es) X.env = (false, eval e X.env) :: starEach es X.env := by rfl) (hpl : (backTo pos (starEach es X.env)).any (·.1) = false := by rfl) :
    PI X tg (.Call (.Name "zip" p) (e :: es) [] pos) (iZipN X.K ta) := by
  refine ⟨fun pins s σ H R I h => ?_⟩
  refine Call_ (ld_blt I hg hm PyProof.Rows.boot_zip (PyProof.Rows.callWith_type1 (thn (ha.run pos pins s σ H _ I h) fun us s1 ⟨vs, H1, I1, r1, ls, ev, hz, q⟩ => ?_) hs hpl))
  subst ev
  rw [refs_of r1]
  exact zip_made I1 hz q
def iZipS (K : PySem.W.Frag) (te : TE) : TI := fun σ H R => te σ H fun x H1 => ∃ (a : Addr) (ls : List (Bool × Addr)), x = .ref a ∧ (SqT K H1 a (ls.map fun q => V.ref q.2) ∨ SqL K H1 a (ls.map fun q => V.ref q.2)) ∧ ZipR K ls H1 ∧ R (ItN K ls) H1
theorem pi_zipS {X : Cx} {tg e : Expr} {te : TE} {p sp pos : Pos} (hg : Gl X "zip") (hm : X.mg "zip" = none) (he : PE X e te) (hs : starEach [.Starred e sp] X.env = [(true, eval e X.env)] := by rfl) :
    PI X tg (.Call (.Name "zip" p) [.Starred e sp] [] pos) (iZipS X.K te) := by
  refine ⟨fun pins s σ H R I h => ?_⟩
  refine Call_ (ld_blt I hg hm PyProof.Rows.boot_zip ?_)
  rw [hs]
  refine PySem.W.ks_call (P := fun _ => True) rfl (fun h _ => ?_) (PySem.W.ks_lone (thn (he.run pins s σ H _ I h) fun v s1 ⟨x, H1, I1, r1, a, ls, ev, hx, hz, q⟩ => ?_))
  · exact ⟨.machine, .inr (.inl rfl), fun _ _ _ _ _ q => wpAny_pure q⟩
  · subst ev
    obtain rfl : v = Value.ref a := r1
    exact StX.star_any I1 hx fun us s2 I2 rv => ⟨trivial, by rw [refs_of rv]; exact zip_made I2 hz q⟩
/-! ### walks -/
theorem lc_zipN {K : PySem.W.Frag} {ls : List (Bool × Addr)} {xss : List (List V)} {n : Nat} {g : TG} {tt : TT} {te : TE} {vs : List Nat} {σ : L2.St} {H1 : Hp} {D : Addr} {Qd : Hp → Prop} (hn : ∀ xs ∈ xss, xs.length = n) (hls : ls ≠ []) (Pv : Nat → Hp → Prop) (h0 : Pv 0 (upd H1 D (.lst []))) (hq : ∀ i H, i ≤ n → Pv i H → Paired (SqB K H) ls xss)
    (hs : ∀ i T ys H, i < n → Paired (fun (xs : List V) y => xs[i]? = some y) xss ys → Pv i H → H T = none → g (.ref T) (wipe σ vs) (upd H T (.tup ys)) fun σ2 H2 => wipe σ2 vs = wipe σ vs ∧ tt σ2 H2 fun b H3 =>
      if b = true then te σ2 H3 fun y H4 => ∃ acc, H4 D = some (.lst acc) ∧ acc.length < sizeLine ∧ Pv (i + 1) (upd H4 D (.lst (acc ++ [y]))) else Pv (i + 1) H3) (hd : ∀ H, Pv n H → Qd H) :
    ∃ W : Nat → Nat → Hp → Prop, (∃ m, W 0 m (upd H1 D (.lst []))) ∧ ∀ i m H, W i m H →
      ((ItN K ls).stop i H ∧ Qd H) ∨ ((ItN K ls).go i H ∧ ∃ Nx : Hp → Prop, (∀ H', Nx H' → ∃ m', m' < m ∧ W (i + 1) m' H') ∧ ∀ x H', (ItN K ls).yld i H x H' → g x (wipe σ vs) H' fun σ2 H2 => wipe σ2 vs = wipe σ vs ∧ tt σ2 H2 fun b H3 =>
        if b = true then te σ2 H3 fun y H4 => ∃ acc, H4 D = some (.lst acc) ∧ acc.length < sizeLine ∧ Nx (upd H4 D (.lst (acc ++ [y]))) else Nx H3) := by
  refine ⟨fun i m H => m = n - i ∧ i ≤ n ∧ Pv i H, ⟨n, by simp, Nat.zero_le _, h0⟩, ?_⟩
  rintro i m H ⟨rfl, hi, p⟩
  have pr := hq i H hi p
  by_cases hlt : i < n
  · refine .inr ⟨⟨xss, pr, fun xs hx => by rw [hn xs hx]; exact hlt⟩, Pv (i + 1), fun H' p' => ⟨n - (i + 1), by omega, rfl, hlt, p'⟩, fun x H' y => ?_⟩
    obtain ⟨T, ys, rfl, nT, rfl, f⟩ := y
    exact hs i T ys H hlt (f xss pr) p nT
  · obtain rfl : i = n := by omega
    cases pr with
    | nil => exact absurd rfl hls
    | cons h r => exact .inl ⟨⟨_, _, _, rfl, h, Nat.le_of_eq (hn _ List.mem_cons_self)⟩, hd H p⟩
theorem for_zipN {K : PySem.W.Frag} {ls : List (Bool × Addr)} {xss : List (List V)} {n : Nat} {g : TG} {tb : TS} {D : Ends} {σ : L2.St} {H : Hp} (hn : ∀ xs ∈ xss, xs.length = n) (hls : ls ≠ []) (Pv : Nat → L2.St → Hp → Prop) (h0 : Pv 0 σ H) (hq : ∀ i σ H, i ≤ n → Pv i σ H → Paired (SqB K H) ls xss)
    (hs : ∀ i T ys σ H, i < n → Paired (fun (xs : List V) y => xs[i]? = some y) xss ys → Pv i σ H → H T = none → g (.ref T) σ (upd H T (.tup ys)) fun σ2 H2 => tb { D with nx := Pv (i + 1), ct := Pv (i + 1), bk := D.nx } σ2 H2) (hd : ∀ σ H, Pv n σ H → D.nx σ H) :
    ∃ W : Nat → Nat → L2.St → Hp → Prop, (∃ m, W 0 m σ H) ∧ ∀ i m σ H, W i m σ H →
      ((ItN K ls).stop i H ∧ D.nx σ H) ∨ ((ItN K ls).go i H ∧ ∃ N : L2.St → Hp → Prop, (∀ σ' H', N σ' H' → ∃ m', m' < m ∧ W (i + 1) m' σ' H') ∧ ∀ x H', (ItN K ls).yld i H x H' → g x σ H' fun σ2 H2 => tb { D with nx := N, ct := N, bk := D.nx } σ2 H2) := by
  refine ⟨fun i m σ H => m = n - i ∧ i ≤ n ∧ Pv i σ H, ⟨n, by simp, Nat.zero_le _, h0⟩, ?_⟩
  rintro i m σ H ⟨rfl, hi, p⟩
  have pr := hq i σ H hi p
  by_cases hlt : i < n
  · refine .inr ⟨⟨xss, pr, fun xs hx => by rw [hn xs hx]; exact hlt⟩, Pv (i + 1), fun σ' H' p' => ⟨n - (i + 1), by omega, rfl, hlt, p'⟩, fun x H' y => ?_⟩
    obtain ⟨T, ys, rfl, nT, rfl, f⟩ := y
    exact hs i T ys σ H hlt (f xss pr) p nT
  · obtain rfl : i = n := by omega
    cases pr with
    | nil => exact absurd rfl hls
    | cons h r => exact .inl ⟨⟨_, _, _, rfl, h, Nat.le_of_eq (hn _ List.mem_cons_self)⟩, hd σ H p⟩
end Vf
set_option Elab.async false
set_option linter.all false
set_option maxRecDepth 100000
set_option maxHeartbeats 4000000
/-! list(reversed(a list)) -/
namespace Vf
open PySem PySem.Spec PyProof.Rows L2
abbrev RevAcc (its : Array Value) (acc : Array Value) : Prop := ItemsOf (fun i v => its[its.size - 1 - i]? = some v) acc its.size
section
variable {prog : Program} {w : World} {A : Around} {E : Value → Shared → Prop} {s : Shared} {I l S : Addr} {its : Array Value}
theorem ext_rev {R : Result → Shared → Prop} {r : Value} (hh : A.handled = none) (hI : s.heap.IsRevIter I l ((its.size : Int) - 1)) (hl : s.heap.IsList l its) (nI : l ≠ I) (SI : S ≠ I) (Sl : S ≠ l) (hn : its.size ≤ sizeLine) {c : Nat}
    (hS : s.heap.get? S = some { cls := .type "list", data := .seq #[] c }) (hR : ∀ h' tk acc c', (∀ b o, b ≠ S → b ≠ I → s.heap.get? b = some o → h'.get? b = some o) → h'.get? S = some { cls := .type "list", dict := none, data := .seq acc c', slots := #[] } → RevAcc its acc → R (.ok (.ret r)) { s with heap := h', toks := tk }) :
    wpAny (model prog w) A.in1 (Builtin.List.listExtendWith (.ref S) (.ref I) r)
      (fun fin s' => match fin with | .done f => R (.ok f) s' | .again c' => c'.quiet = true ∧ codeAny (model prog w) A c' R s') (fun e s' => R (.error e) s') s := by
  have Wk := (Walks.listRev (prog := prog) (w := w) (A := A.in1) hh I l nI its).toS
  have nf : S ∉ [I, l] := by simp [SI, Sl]
  have ty := Heap.IsRevIter.typeIs (s := s) hI
  have ns : Builtin.List.listSameRef (.ref S) (.ref I) = false := by simp [Builtin.List.listSameRef, SI]
  unfold Builtin.List.listExtendWith
  refine wpAny_bind (wpAny_typeOf ty ?_)
  rw [if_neg (by rw [ns]; decide)]
  refine wpAny_bind (wpAny_pyIter_revIter hI (wpAny_bind (wpAny_holding ?_)))
  unfold Builtin.List.listLengthHint
  refine wpAny_bind (wpAny_specialOf ty RT.nolen_lri ?_)
  show wpAny _ A.in1 (specialOf _ (Str.ofString "__length_hint__") >>= _) _ _ _
  refine wpAny_bind (wpAny_specialOf ty RT.hint_lri ?_)
  generalize hid : ("list_reverseiterator.__length_hint__" : String) = nm
  wp_delta
  rw [show splitId nm = some ("list_reverseiterator", "__length_hint__") by subst hid; decide +kernel]
  subst hid
  refine wpAny_bind (wpAny_isInstance (b := true) ty (by rw [isSubtype_type]; kernel_rfl) (wpAny_pure ?_))
  rw [if_neg (by decide)]
  have e0 : ((its.size : Nat) : Int) - 1 - ((0 : Nat) : Int) = (its.size : Int) - 1 := by omega
  refine wpAny_pure ⟨plainId_quiet F.plain_extend_loop _, codeAny_extend_loopS Wk hn _ nf _ its.size 0 _ _ _ rfl (Nat.zero_le _) ⟨Nat.zero_le _, (by rw [e0]; exact hI), hl⟩ hS (ItemsOf.nil _) fun s2 acc c2 mv hS2 hacc => ?_⟩
  rw [Moved.eq_with mv]
  refine hR s2.heap s2.toks acc c2 (fun b o b1 b2 e => mv.heap b o (fun m => ?_) e) hS2 hacc
  rcases List.mem_cons.mp m with z | m
  · exact b1 z
  · exact b2 (List.mem_singleton.mp m)
theorem init_rev {R : Result → Shared → Prop} (hh : A.handled = none) (hI : s.heap.IsRevIter I l ((its.size : Int) - 1)) (hl : s.heap.IsList l its) (nI : l ≠ I) (SI : S ≠ I) (Sl : S ≠ l) (hn : its.size ≤ sizeLine)
    (hS : s.heap.get? S = some { cls := .type "list", data := .seq #[] }) (hR : ∀ h' tk acc c', (∀ b o, b ≠ S → b ≠ I → s.heap.get? b = some o → h'.get? b = some o) → h'.get? S = some { cls := .type "list", dict := none, data := .seq acc c', slots := #[] } → RevAcc its acc → R (.ok (.ret .none)) { s with heap := h', toks := tk }) :
    wpAny (model prog w) A.in1 (Builtin.«list.__init__» ⟨[.ref S, .ref I], []⟩)
      (fun fin s' => match fin with | .done f => R (.ok f) s' | .again c' => c'.quiet = true ∧ codeAny (model prog w) A c' R s') (fun e s' => R (.error e) s') s := by
  show wpAny _ _ (do let old ← Builtin.List.listItems (.ref S); Builtin.List.listUpdate (.ref S) (fun _ => #[]); letGo old.toList.reverse; Builtin.List.listExtendWith (.ref S) (.ref I) .none) _ _ s
  refine wpAny_bind ?_
  unfold Builtin.List.listItems
  refine wpAny_bind (wpAny_seqItems hS rfl (wpAny_pure ?_))
  show wpAny _ _ (updateSeq S (fun _ => #[]) >>= fun _ => letGo (#[] : Array Value).toList.reverse >>= fun _ => Builtin.List.listExtendWith (.ref S) (.ref I) .none) _ _ s
  refine wpAny_bind (wpAny_updateSeq hS rfl (wpAny_bind (wpAny_letGo ?_)))
  have other : ∀ b o, b ≠ S → s.heap.get? b = some o → (s.heap.update S (Obj.mapSeq fun _ => (#[] : Array Value))).get? b = some o := fun b o hb e => (Heap.get?_update_other _ _ (Ne.symm hb)).trans e
  obtain ⟨ol, hol, cl⟩ := id hl
  refine ext_rev (s := { s with heap := s.heap.update S (Obj.mapSeq fun _ => (#[] : Array Value)) }) hh (hI.at fun o e => other I o SI.symm e) ⟨ol, other l ol Sl.symm hol, cl⟩ nI SI Sl hn (Heap.get?_update_self _ hS rfl) fun h' tk acc c' hk hS' hacc => hR h' tk acc c' (fun b o b1 b2 e => hk b o b1 b2 (other b o b1 e)) hS' hacc
theorem call_list_rev {Q : Value → Shared → Prop} (hh : A.handled = none) (hI : s.heap.IsRevIter I l ((its.size : Int) - 1)) (hl : s.heap.IsList l its) (nI : l ≠ I) (hn : its.size ≤ sizeLine)
    (hQ : ∀ h' tk acc c', (∀ b o, b ≠ I → s.heap.get? b = some o → h'.get? b = some o) → h'.get? s.heap.objs.size = some { cls := .type "list", dict := none, data := .seq acc c', slots := #[] } → RevAcc its acc → Q (.ref s.heap.objs.size) { s with heap := h', toks := tk }) :
    wpAny (model prog w) A (call (.type "list") [.ref I]) Q E s := by
  refine callType_codes (Q₁ := fun obj t => obj = .ref s.heap.objs.size ∧ t = { s with heap := s.heap.push { cls := .type "list", data := .seq #[] } }) F.called_list (F.typeCall_list_1 _) F.entry_list_init (code_list_new _ ⟨rfl, rfl⟩) fun obj t ht => ?_
  obtain ⟨rfl, rfl⟩ := ht
  have new : (s.heap.push { cls := .type "list", data := .seq #[] }).get? s.heap.objs.size = some { cls := .type "list", data := .seq #[] } := Heap.get?_push_size _ rfl
  obtain ⟨oi, hoi, _⟩ := id hI
  obtain ⟨ol, hol, _⟩ := id hl
  refine ⟨⟨_, new, rfl⟩, F.args_list_init_2 _ _, init_rev (A := A.in1) (s := { s with heap := s.heap.push { cls := .type "list", data := .seq #[] } }) hh (hI.at fun o e => Heap.get?_push_of_some _ e) (hl.push _) nI (Nat.ne_of_gt (Heap.lt_size hoi)) (Nat.ne_of_gt (Heap.lt_size hol)) hn new fun h' tk acc c' hk hS' hacc => ?_⟩
  exact ⟨rfl, hQ h' tk acc c' (fun b o b1 e => hk b o (Nat.ne_of_lt (Heap.lt_size e)) b1 (Heap.get?_push_of_some _ e)) hS' hacc⟩
end
def tLstRev (K : PySem.W.Frag) (te : TE) : TE := fun σ H Q => te σ H fun v H1 => ∃ (a : Addr) (xs : List V), v = .ref a ∧ SqL K H1 a xs ∧ ∀ q, H1 q = none → Q (.ref q) (upd H1 q (.lst xs.reverse))
theorem pe_lstRev {X : Cx} {e : Expr} {te : TE} {p p2 pos pos2 : Pos} (hc : X.calm = true) (hg : Gl X "list") (hm : X.mg "list" = none) (hg2 : Gl X "reversed") (hm2 : X.mg "reversed" = none) (he : PE X e te)
    (hs : starEach [e] X.env = (false, eval e X.env) :: starEach [] X.env := by rfl) (hs2 : starEach [.Call (.Name "reversed" p2) [e] [] pos2] X.env = (false, eval (.Call (.Name "reversed" p2) [e] [] pos2) X.env) :: starEach [] X.env := by rfl) :
    PE X (.Call (.Name "list" p) [.Call (.Name "reversed" p2) [e] [] pos2] [] pos) (tLstRev X.K te) := by
  refine ⟨fun pins s σ H Q I h => ?_⟩
  refine Call_ (ld_blt I hg hm Pv.boot_list (PyProof.Rows.callWith_type1 (args_cons (Call_ (ld_blt I hg2 hm2 PyProof.Rows.boot_reversed (PyProof.Rows.callWith_type1 (args_cons (thn (he.run pins s σ H _ I h) fun u t ⟨v, H1, I1, r1, q1⟩ => args_nil ?_) hs) hs rfl))) hs2) hs2 rfl))
  obtain ⟨a, xs, ev, hq, q⟩ := q1
  subst ev
  obtain rfl : u = Value.ref a := r1
  obtain ⟨vs, rv, pl, hz⟩ := I1.list hq
  have hl := pl.isList
  refine call_reversed_list hl (args_nil ?_)
  have I2 : Inv X pins σ H1 { t with heap := t.heap.push (revObj a ((vs.toArray.size : Int) - 1)) } := I1.kept (t' := t.toks) fun b o e => Heap.get?_push_of_some _ e
  obtain ⟨f0, f1, f2, f3, f4, f5⟩ := I1.fpOk (H' := H1) (b := t.heap.objs.size) (Nat.le_refl _) (I1.hok.fresh (Nat.le_refl _))
  obtain ⟨ol, hol, _⟩ := id hl
  refine call_list_rev (s := { t with heap := t.heap.push (revObj a ((vs.toArray.size : Int) - 1)) }) (I1.ok.hd hc) ⟨_, Heap.get?_push_size _ rfl, rfl, rfl⟩ (hl.push _) (Nat.ne_of_lt (Heap.lt_size hol)) (by rw [List.size_toArray, ← rv.length]; exact hz) fun h' tk acc c' hk hS' hacc => ?_
  have hn2 : H1 (t.heap.push (revObj a ((vs.toArray.size : Int) - 1))).objs.size = none := I2.hok.fresh (Nat.le_refl _)
  refine ⟨.ref _, upd H1 _ (.lst xs.reverse), ?_, rfl, q _ hn2⟩
  refine I2.turnedNew (t' := tk) (ch := [t.heap.objs.size]) (fun b o hb e => hk b o (fun z => hb (by simp [z])) e) (fun b hb => ?_) (Nat.le_refl _) ⟨by rw [List.length_reverse]; exact hz, acc.toList, c', RT.vals_rev rv hacc, ?_⟩
  · obtain rfl : b = t.heap.objs.size := by simpa using hb
    exact ⟨f0, f1, f2, f3, f4, f5⟩
  · rw [Array.toArray_toList]
    exact hS'
end Vf
namespace Vf
open PySem PySem.Spec PyProof.Rows L2
/-! ### sum of a list or a tuple of ints -/
theorem preSum_take (ns : List Int) : ∀ k : Nat, preSum (fun i => ns.getD i 0) k = (ns.take k).sum
  | 0 => rfl
  | k + 1 => by
    show preSum (fun i => ns.getD i 0) k + ns.getD k 0 = _
    rw [preSum_take ns k, List.take_add_one, List.sum_append, List.getD_eq_getElem?_getD]
    cases ns[k]? <;> simp
theorem ints_at : ∀ {vs : List Value} {ns : List Int} {i : Nat} {v : Value}, IntsAre vs ns → vs[i]? = some v → ∃ n, ns[i]? = some n ∧ ∃ t, v = .int n t
  | _, _, _, _, .nil, e => by simp at e
  | _, _, 0, _, .cons n t _, e => ⟨n, rfl, t, (Option.some.inj e).symm⟩
  | _, _, i + 1, v, .cons _ _ r, e => ints_at (i := i) (v := v) r e
theorem sum_tup {prog : Program} {w : World} {A : Around} {E : Value → Shared → Prop} {s : Shared} {l : Addr} {its : List Value} {ns : List Int} {Q : Value → Shared → Prop} (hh : A.handled = none) (hl : s.heap.IsTuple l its.toArray) (hi : IntsAre its ns)
    (h : ∀ h' tk t', (∀ b o, s.heap.get? b = some o → h'.get? b = some o) → Q (.int ns.sum t') { s with heap := h', toks := tk }) : wpAny (model prog w) A (call (.builtin "sum") [.ref l]) Q E s := by
  obtain ⟨ol, hol, _⟩ := id hl
  have nl : l ≠ s.heap.objs.size := Nat.ne_of_lt (Heap.lt_size hol)
  have len := hi.length
  refine call_sum_walkG (wpAny_pyIter_tuple hl ⟨s.heap.objs.size, [s.heap.objs.size, l], [s.heap.objs.size], _, _, _, (fun i => ns.getD i 0), rfl, Walks.tuple (A := A.in1) hh s.heap.objs.size l nl its.toArray, ⟨⟨_, Heap.get?_push_size _ rfl, rfl, rfl⟩, hl.push _⟩, fun b hb => ?_, fun i v e => ?_, fun h' tk t' hk => ?_⟩)
  · rw [Heap.size_push]
    rcases List.mem_cons.mp hb with rfl | hb
    · exact Nat.lt_succ_self _
    · obtain rfl : b = l := by simpa using hb
      exact Nat.lt_succ_of_lt (Heap.lt_size hol)
  · have e : its[i]? = some v := by simpa using e
    obtain ⟨n, hn, t, rfl⟩ := ints_at hi e
    exact ⟨t, by show _ = Value.int (ns.getD i 0) t; rw [List.getD_eq_getElem?_getD, hn]; rfl⟩
  · rw [preSum_take, List.take_of_length_le (by rw [List.size_toArray, len]; exact Nat.le_refl _)]
    exact h h' tk t' fun b o e => hk b o (fun z => by
      obtain rfl : b = s.heap.objs.size := by simpa using z
      exact absurd (Heap.lt_size e) (Nat.lt_irrefl _)) (Heap.get?_push_of_some _ e)
def rSumV (K : PySem.W.Frag) : List V → Hp → VK → Prop := fun vs H Q => ∃ (a : Addr) (ns : List Int), vs = [V.ref a] ∧ SqV K H a (ns.map V.int) ∧ Q (.int ns.sum) H
def rIxV (K : PySem.W.Frag) : R2 := fun x y H Q => ∃ p xs i v, x = .ref p ∧ y = .int i ∧ SqV K H p xs ∧ atI xs i = some v ∧ Q v H
section
variable {X : Cx} {K : PySem.W.Frag}
theorem sumVK (hK : X.K = K) (hc : X.calm = true) : CallR X (.builtin "sum") (rSumV K) := by
  subst hK
  intro pins s σ H vs us Q I r h
  obtain ⟨a, ns, rfl, hs, q⟩ := h
  rcases hs with hs | hs
  · exact cr_sum hc pins s σ H _ us Q I r ⟨a, ns, rfl, hs, q⟩
  · obtain ⟨its, rv, hl, _⟩ := I.tuple hs
    rw [Vals.ref1 r]
    exact sum_tup (I.ok.hd hc) hl rv.ints fun h' tk t' hk => ⟨.int _, H, I.kept hk, ⟨_, rfl⟩, q⟩
theorem ix_seqK (hK : X.K = K) : IxR X (rIxV K) := by
  subst hK
  intro value slice pins s σ H x y v u Q I rx ry h hs
  obtain ⟨p, xs, i, z, ex, ey, hq, he, q⟩ := h
  rcases hq with hq | hq
  · exact ix_list value slice pins s σ H x y v u Q I rx ry ⟨p, xs, i, z, ex, ey, hq, he, q⟩ hs
  · exact ix_tup value slice pins s σ H x y v u Q I rx ry ⟨p, xs, i, z, ex, ey, hq, he, q⟩ hs
end
theorem pe_lstRevK {X : Cx} {K : PySem.W.Frag} {e : Expr} {te : TE} {p p2 pos pos2 : Pos} (hK : X.K = K) (hc : X.calm = true) (hg : Gl X "list") (hm : X.mg "list" = none) (hg2 : Gl X "reversed") (hm2 : X.mg "reversed" = none) (he : PE X e te)
    (hs : starEach [e] X.env = (false, eval e X.env) :: starEach [] X.env := by rfl) (hs2 : starEach [.Call (.Name "reversed" p2) [e] [] pos2] X.env = (false, eval (.Call (.Name "reversed" p2) [e] [] pos2) X.env) :: starEach [] X.env := by rfl) :
    PE X (.Call (.Name "list" p) [.Call (.Name "reversed" p2) [e] [] pos2] [] pos) (tLstRev K te) := by
  subst hK
  exact pe_lstRev hc hg hm hg2 hm2 he hs hs2
theorem sl_listK {X : Cx} {K : PySem.W.Frag} (hK : X.K = K) : SlR X (rSlL K) := by subst hK; exact sl_list
/-! ### xs[i] op= e of a list -/
def rGetN (K : PySem.W.Frag) : V → V → Hp → VK → Prop := fun o i H Q => ∃ (p : Addr) (xs : List V) (j : Nat) (v : V), o = .ref p ∧ i = .int (j : Int) ∧ SqL K H p xs ∧ xs[j]? = some v ∧ Q v H
theorem get_listN {X : Cx} : PGet X (rGetN X.K) := by
  intro pins s σ H o i ov iv Q I r1 r2 h
  obtain ⟨p, xs, j, v, rfl, rfl, hq, hx, q⟩ := h
  obtain rfl : ov = Value.ref p := r1
  obtain ⟨t, rfl⟩ := r2
  obtain ⟨its, rv, pl, hz⟩ := I.list hq
  obtain ⟨u, hu, ru⟩ := rv.get hx
  have hj : j < xs.length := (List.getElem?_eq_some_iff.mp hx).1
  have ln := line63
  exact wpAny_getItem_list pl.isList (by omega) (by omega) (by rw [Int.toNat_natCast]; simpa using hu) ⟨v, H, I, ru, q⟩
/-! ### walks whose reading names the written part by a letter -/
section
variable {X : Cx} {K : PySem.W.Frag} {tg l : Expr} {tl : TE}
theorem pi_listK (hK : X.K = K) (hl : PE X l tl) : PI X tg l (iList K tl) := by subst hK; exact pi_list hl
theorem pi_seqK (hK : X.K = K) (hl : PE X l tl) : PI X tg l (iSeq K tl) := by subst hK; exact pi_seq hl
end
end Vf
set_option Elab.async false
set_option linter.all false
set_option maxRecDepth 100000
set_option maxHeartbeats 4000000
/-! sorted of a list or a tuple of ints -/
namespace Vf
open PySem PySem.Spec PyProof.Rows L2
section
variable {prog : Program} {w : World} {A : Around} {E : Value → Shared → Prop} {s : Shared}
/-- a tuple gathered into a new list -/
theorem collect_tup {t : Addr} {us : List Value} {R : List Value → Shared → Prop} (ht : s.heap.IsTuple t us.toArray) (hz : us.length ≤ sizeLine)
    (hR : R us { s with heap := (s.heap.push (seqObj "list" #[] 0)).update s.heap.objs.size (Obj.mapSeq (· ++ us.toArray)) }) : wpAny (model prog w) A (collect (.ref t)) R E s := by
  obtain ⟨ot, et, ct, k, dt⟩ := id ht
  unfold collect
  refine wpAny_bind (wpAny_runValue (codeAny_builtin PyProof.Rows.entry_proto_collect' ?_))
  show wpAny _ _ (do again (.builtin "list.__iadd__" ⟨[← newList [], .ref t], []⟩)) _ _ s
  refine wpAny_bind (wpAny_newList (wpAny_pure ⟨Code.quiet_builtin _ (by decide +kernel), codeAny_builtin PyProof.Rows.entry_list_iadd' ?_⟩))
  show wpAny _ _ (Builtin.List.listExtendWith (.ref s.heap.objs.size) (.ref t) (.ref s.heap.objs.size)) _ _ { s with heap := s.heap.push (seqObj "list" #[] 0) }
  unfold Builtin.List.listExtendWith
  have et2 : (s.heap.push (seqObj "list" #[] 0)).get? t = some ot := Heap.get?_push_of_some _ et
  refine wpAny_bind (wpAny_typeOf (T := "tuple") ⟨ot, et2, ct⟩ ?_)
  have hty : (Value.type "tuple" == Value.type "tuple") = true := by rfl
  rw [if_pos (by rw [hty]; simp)]
  refine wpAny_bind (listItems_at et2 dt ?_)
  refine wpAny_bind (listItems_at (n := 0) (xs := #[]) (Heap.get?_push_size _ rfl) rfl ?_)
  rw [if_neg (by simp)]
  refine wpAny_bind (listUpdate_at (n := 0) (xs := #[]) (Heap.get?_push_size _ rfl) rfl ?_ (Nat.zero_le _) ?_)
  rotate_left
  · show (#[] ++ us.toArray).size ≤ sizeLine + 1
    simp only [Array.size_append, List.size_toArray, List.length_nil]
    omega
  refine wpAny_pure ?_
  show wpAny (model prog w) A (do
      let y ← load s.heap.objs.size
      match y.data with
      | .seq ys _ => pure ys.toList
      | _ => unsupported "internal:collect") R E { s with heap := (s.heap.push (seqObj "list" #[] 0)).update s.heap.objs.size (Obj.mapSeq (· ++ us.toArray)) }
  refine wpAny_bind (wpAny_load (get?_update_seq (Heap.get?_push_size _ rfl) _) ?_)
  show wpAny _ _ (pure ((#[] : Array Value) ++ us.toArray).toList) R E _
  have e : ((#[] : Array Value) ++ us.toArray).toList = us := by simp
  rw [e]
  exact wpAny_pure hR
theorem sorted_tup {t : Addr} {us : List Value} {ns : List Int} {R : Value → Shared → Prop} (ht : s.heap.IsTuple t us.toArray) (hI : IntsAre us ns) (hz : us.length ≤ sizeLine)
    (hR : ∀ (out : Array Value) (ms : List Int), IntsAre out.toList ms → ms.Perm ns → ms.Pairwise (· ≤ ·) → R (.ref (s.heap.objs.size + 1)) { s with heap := sortedAll s.heap us out }) :
    wpAny (model prog w) A (call (.builtin "sorted") [.ref t]) R E s := by
  refine Calls.call_function_entry kind_sorted plain_sorted PyProof.Rows.entry_sorted (args_sorted1 _) ?_
  unfold Builtin.«sorted»
  refine wpAny_bind (m := checkCount "sorted" 1 1 _) (wpAny_pure ?_)
  refine wpAny_bind (collect_tup ht hz ?_)
  refine wpAny_bind (wpAny_newList ?_ hz)
  have sz : ((s.heap.push (seqObj "list" #[] 0)).update s.heap.objs.size (Obj.mapSeq (· ++ us.toArray))).objs.size = s.heap.objs.size + 1 := by rw [Heap.size_update, size_push']
  have at1 : (((s.heap.push (seqObj "list" #[] 0)).update s.heap.objs.size (Obj.mapSeq (· ++ us.toArray))).push (seqObj "list" us.toArray 0)).get? (s.heap.objs.size + 1) = some (seqObj "list" us.toArray 0) := by rw [← sz]; exact Heap.get?_push_size _ rfl
  show wpAny _ _ _ _ _ { s with heap := ((s.heap.push (seqObj "list" #[] 0)).update s.heap.objs.size (Obj.mapSeq (· ++ us.toArray))).push (seqObj "list" us.toArray 0) }
  rw [sz]
  refine wpAny_bind (wpAny_holding (wpAny_call_entry slot_list_sort ⟨_, at1, rfl⟩ PyProof.Rows.entry_list_sort (list_sort_treeAny at1 hI hz fun out ms a1 a2 a3 => ⟨_, rfl, ?_⟩) (args_list_sort _)))
  exact wpAny_pure ⟨_, rfl, hR out ms a1 a2 a3⟩
end
def rSortedV (K : PySem.W.Frag) : List V → Hp → VK → Prop := fun vs H Q => ∃ (a : Addr) (ns : List Int), vs = [V.ref a] ∧ SqV K H a (ns.map V.int) ∧ ∀ (ms : List Int) (p : Addr), ms.Perm ns → ms.Pairwise (· ≤ ·) → H p = none → Q (.ref p) (upd H p (.lst (ms.map V.int)))
theorem sortedVK {X : Cx} {K : PySem.W.Frag} (hK : X.K = K) : CallR X (.builtin "sorted") (rSortedV K) := by
  subst hK
  intro pins s σ H vs us Q I r h
  obtain ⟨a, ns, rfl, hs, q⟩ := h
  rcases hs with hs | hs
  · exact cr_sortedI pins s σ H _ us Q I r ⟨a, ns, rfl, hs, q⟩
  · obtain ⟨its, rv, hl, hz⟩ := I.tuple hs
    rw [Vals.ref1 r]
    have hz2 : its.length ≤ sizeLine := by rw [← rv.length]; exact hz
    refine sorted_tup hl rv.ints hz2 fun out ms h1 h2 h3 => ?_
    obtain ⟨ep, he⟩ := PyProof.Rows.sortedAll_at s.heap its out
    have hlen : (ms.map V.int).length ≤ sizeLine := by rw [List.length_map, h2.length_eq, ← rv.ints.length]; exact hz2
    exact ⟨.ref _, upd H (s.heap.objs.size + 1) (.lst (ms.map V.int)), I.laid (t' := s.toks) (fun _ _ => PyProof.Rows.sortedAll_old) (Nat.le_succ _) ⟨hlen, out.toList, ep, vals_of_ints h1, he⟩, rfl, q ms _ h2 h3 (I.hok.fresh (Nat.le_succ _))⟩
/-! ### methods of built-in types, the written part a letter -/
section
variable {X : Cx} {K : PySem.W.Frag} {T id : String} {name : Str} {o e : Expr} {es : List Expr} {to : TE} {t : TA} {r : V → List V → Hp → VK → Prop} {apos cpos : Pos}
theorem pe_bmK (hK : X.K = K) (pa : PlainAttrs T) (slot : Slot T name id) (hty : typeOf (.builtin id) = pure (.type "method_descriptor")) (hm : MtR X id r) (ho : PE X o to) (ha : PA X (e :: es) t)
    (h1 : attributeBase o name X.env (eval o X.env) = eval o X.env := by rfl)
    (h2 : ((backTo cpos (starEach (e :: es) X.env)).all (fun x => !x.1) && (backToKw cpos (keywordEach [] X.env)).all (fun x => x.1.isSome) && decide ((e :: es).length + ([] : List Keyword).length + (if ([] : List Keyword).isEmpty then 0 else 1) < 30)) = true := by rfl)
    (h3 : (apos.endLine == cpos.line) = true := by rfl) (h4 : starEach (e :: es) X.env = (false, eval e X.env) :: starEach es X.env := by rfl) (h5 : (backTo cpos (starEach es X.env)).any (·.1) = false := by rfl) :
    PE X (.Call (.Attribute o name apos) (e :: es) [] cpos) (tBM K T r to t) := by
  subst hK
  exact pe_bm pa slot hty hm ho ha h1 h2 h3 h4 h5
theorem mt_indexK (hK : X.K = K) : MtR X "list.index" (rIndex K) := by subst hK; exact mt_index
end
end Vf
set_option Elab.async false
set_option linter.all false
set_option maxRecDepth 100000
set_option maxHeartbeats 4000000
/-! walks by one word: a list or a tuple, a pair of such zipped; comprehensions with two clauses. -/
namespace Vf
open PySem PySem.Spec PyProof.Rows L2 RZ
section
variable {K : PySem.W.Frag} {a b : Addr} {xs ys : List V} {H1 : Hp}
theorem walk_zipT {n : Nat} (hn : n = min xs.length ys.length) : Walk (ItzT K a b) n (fun H => SqT K H a xs ∧ SqT K H b ys) (YPair (fun i => xs[i]?) (fun i => ys[i]?)) := by
  subst hn
  refine ⟨fun i _ hi q => ?_, fun _ q => ⟨xs, ys, q.1, q.2, by omega⟩, fun i H v H' _ q y => ?_⟩
  · have h1 : i < xs.length := by omega
    have h2 : i < ys.length := by omega
    exact ⟨xs, ys, xs[i], ys[i], q.1, q.2, by simp [h1], by simp [h2]⟩
  · obtain ⟨T, x, z, h1, h2, h3, h4, h5⟩ := y
    exact ⟨T, x, z, h1, h2, h3, h4 xs q.1, h5 ys q.2⟩
/-- what iSeq asks, by any walk over the items -/
theorem seq_of {R : It → Hp → Prop} (h : SqV K H1 a xs) (k : ∀ (J : It) (G : Hp → Prop), Walk J xs.length G (YAt xs) → (∀ H', Same H1 H' → G H') → R J H1) :
    ∃ a', V.ref a = .ref a' ∧ (((∃ xs, SqL K H1 a' xs) ∧ R (Itl K a') H1) ∨ ((∃ xs, SqT K H1 a' xs) ∧ R (Itt K a') H1)) := by
  rcases h with h | h
  · exact ⟨a, rfl, .inl ⟨⟨_, h⟩, k _ _ walk_list fun H' s => s.seq h⟩⟩
  · exact ⟨a, rfl, .inr ⟨⟨_, h⟩, k _ _ walk_tup fun H' s => Same.seqT s h⟩⟩
/-- the same, of a list or a tuple that was there ahead -/
theorem seq_at {H0 : Hp} {R : It → Hp → Prop} (h : SqV K H0 a xs) (s : Same H0 H1) (k : ∀ (J : It) (G : Hp → Prop), Walk J xs.length G (YAt xs) → (∀ H', Same H0 H' → G H') → R J H1) :
    ∃ a', V.ref a = .ref a' ∧ (((∃ xs, SqL K H1 a' xs) ∧ R (Itl K a') H1) ∨ ((∃ xs, SqT K H1 a' xs) ∧ R (Itt K a') H1)) := by
  rcases h with h | h
  · exact ⟨a, rfl, .inl ⟨⟨_, s.seq h⟩, k _ _ walk_list fun H' s => s.seq h⟩⟩
  · exact ⟨a, rfl, .inr ⟨⟨_, Same.seqT s h⟩, k _ _ walk_tup fun H' s => Same.seqT s h⟩⟩
/-- two lists, or two tuples -/
def SqV2 (K : PySem.W.Frag) (H : Hp) (a b : Addr) (xs ys : List V) : Prop := (SqL K H a xs ∧ SqL K H b ys) ∨ (SqT K H a xs ∧ SqT K H b ys)
theorem zip_of {R : It → Hp → Prop} (h : SqV2 K H1 a b xs ys) (k : ∀ (J : It) (G : Hp → Prop), Walk J (min xs.length ys.length) G (YPair (fun i => xs[i]?) (fun i => ys[i]?)) → (∀ H', Same H1 H' → G H') → R J H1) :
    ∃ a' b' xs ys, [V.ref a, V.ref b] = [.ref a', .ref b'] ∧ ((SqL K H1 a' xs ∧ SqL K H1 b' ys ∧ R (Itz K a' b') H1) ∨ (SqT K H1 a' xs ∧ SqT K H1 b' ys ∧ R (ItzT K a' b') H1)) := by
  rcases h with h | h
  · exact ⟨a, b, xs, ys, rfl, .inl ⟨h.1, h.2, k _ _ (walk_zip rfl) fun H' s => ⟨s.seq h.1, s.seq h.2⟩⟩⟩
  · exact ⟨a, b, xs, ys, rfl, .inr ⟨h.1, h.2, k _ _ (walk_zipT rfl) fun H' s => ⟨Same.seqT s h.1, Same.seqT s h.2⟩⟩⟩
/-- a slice of a list or a tuple -/
def rSlV (K : PySem.W.Frag) : V → Option Int → Option Int → Hp → VK → Prop := fun x lo hi H Q => ∃ a xs, x = .ref a ∧ SqV K H a xs ∧ ∀ (H' : Hp) (p : Addr), Same H H' → SqV2 K H' a p xs (cutV xs lo hi) → Q (.ref p) H'
theorem cut_whole {lo hi : Option Int} (h : HT.sIx xs.length 0 lo = 0 ∧ HT.sIx xs.length xs.length hi = xs.length) : cutV xs lo hi = xs := by
  unfold cutV
  rw [h.1, h.2, List.drop_zero, Nat.sub_zero, List.take_length]
theorem sl_seqK {X : Cx} (hK : X.K = K) : SlR X (rSlV K) := by
  subst hK
  intro pins s σ H x v vl vu lo hi sl Q I rx hs pl pu h
  refine (sl_list.or sl_tupA) pins s σ H x v vl vu lo hi sl Q I rx hs pl pu ?_
  obtain ⟨a, xs, rfl, hS, q⟩ := h
  rcases hS with hS | hS
  · exact .inl ⟨a, xs, rfl, hS, fun p np => q _ p (same_upd np) (.inl ⟨(same_upd np).seq hS, SqL.of upd_same⟩)⟩
  · exact .inr ⟨a, xs, rfl, hS, fun e => q _ a (Same.refl _) (.inr ⟨hS, by rw [cut_whole e]; exact hS⟩), fun _ p np => q _ p (same_upd np) (.inr ⟨Same.seqT (same_upd np) hS, SqT.of upd_same⟩)⟩
end
section
variable {J : It} {n : Nat} {G : Hp → Prop} {Y : Nat → Hp → V → Hp → Prop}
theorem lc2_in (w : Walk J n G Y) {g1 : TG} {tt1 : TT} {te : TE} {vs1 : List Nat} {σ2 : L2.St} {H4 : Hp} {D : Addr} {Nx : Hp → Prop} (Pv : Nat → Hp → Prop) (h0 : Pv 0 H4) (hG : ∀ i H, i ≤ n → Pv i H → G H)
    (hs : ∀ i x H H', i < n → Pv i H → Y i H x H' → g1 x (wipe σ2 vs1) H' fun σ3 H5 => wipe σ3 vs1 = wipe σ2 vs1 ∧ tt1 σ3 H5 fun b H6 =>
      if b = true then te σ3 H6 fun y H7 => ∃ acc, H7 D = some (.lst acc) ∧ acc.length < sizeLine ∧ Pv (i + 1) (upd H7 D (.lst (acc ++ [y]))) else Pv (i + 1) H6) (hd : ∀ H, Pv n H → Nx H) :
    ∃ W1 : Nat → Nat → Hp → Prop, (∃ m, W1 0 m H4) ∧ ∀ j k H, W1 j k H →
      (J.stop j H ∧ Nx H) ∨ (J.go j H ∧ ∃ Nx1 : Hp → Prop, (∀ H', Nx1 H' → ∃ k', k' < k ∧ W1 (j + 1) k' H') ∧ ∀ x H', J.yld j H x H' → g1 x (wipe σ2 vs1) H' fun σ3 H5 => wipe σ3 vs1 = wipe σ2 vs1 ∧ tt1 σ3 H5 fun b H6 =>
        if b = true then te σ3 H6 fun y H7 => ∃ acc, H7 D = some (.lst acc) ∧ acc.length < sizeLine ∧ Nx1 (upd H7 D (.lst (acc ++ [y]))) else Nx1 H6) := by
  refine ⟨fun i m H => m = n - i ∧ i ≤ n ∧ Pv i H, ⟨n, by simp, Nat.zero_le _, h0⟩, ?_⟩
  rintro i m H ⟨rfl, hi, p⟩
  have q := hG i H hi p
  by_cases hlt : i < n
  · exact .inr ⟨w.goes i H hlt q, Pv (i + 1), fun H' p' => ⟨n - (i + 1), by omega, rfl, hlt, p'⟩, fun x H' y => hs i x H H' hlt p (w.yields i H x H' hlt q y)⟩
  · have e : i = n := by omega
    subst e
    exact .inl ⟨w.stops H q, hd H p⟩
theorem lc2_it (w : Walk J n G Y) {g : TG} {tt : TT} {wi1 : TI} {g1 : TG} {tt1 : TT} {te : TE} {vs vs1 : List Nat} {σ : L2.St} {H1 : Hp} {D : Addr} {Qd : Hp → Prop} (Pv : Nat → Hp → Prop) (h0 : Pv 0 (upd H1 D (.lst []))) (hG : ∀ i H, i ≤ n → Pv i H → G H)
    (hs : ∀ i x H H', i < n → Pv i H → Y i H x H' → g x (wipe σ vs) H' fun σ2 H2 => wipe σ2 vs = wipe σ vs ∧ tt σ2 H2 fun b H3 =>
      if b = true then wi1 σ2 H3 fun J1 H4 => ∃ W1 : Nat → Nat → Hp → Prop, (∃ m, W1 0 m H4) ∧ ∀ j k H, W1 j k H →
        (J1.stop j H ∧ Pv (i + 1) H) ∨ (J1.go j H ∧ ∃ Nx1 : Hp → Prop, (∀ H', Nx1 H' → ∃ k', k' < k ∧ W1 (j + 1) k' H') ∧ ∀ x H', J1.yld j H x H' → g1 x (wipe σ2 vs1) H' fun σ3 H5 => wipe σ3 vs1 = wipe σ2 vs1 ∧ tt1 σ3 H5 fun b H6 =>
          if b = true then te σ3 H6 fun y H7 => ∃ acc, H7 D = some (.lst acc) ∧ acc.length < sizeLine ∧ Nx1 (upd H7 D (.lst (acc ++ [y]))) else Nx1 H6)
      else Pv (i + 1) H3) (hd : ∀ H, Pv n H → Qd H) :
    ∃ W : Nat → Nat → Hp → Prop, (∃ m, W 0 m (upd H1 D (.lst []))) ∧ ∀ i m H, W i m H →
      (J.stop i H ∧ Qd H) ∨ (J.go i H ∧ ∃ Nx : Hp → Prop, (∀ H', Nx H' → ∃ m', m' < m ∧ W (i + 1) m' H') ∧ ∀ x H', J.yld i H x H' → g x (wipe σ vs) H' fun σ2 H2 => wipe σ2 vs = wipe σ vs ∧ tt σ2 H2 fun b H3 =>
        if b = true then wi1 σ2 H3 fun J1 H4 => ∃ W1 : Nat → Nat → Hp → Prop, (∃ m, W1 0 m H4) ∧ ∀ j k H, W1 j k H →
          (J1.stop j H ∧ Nx H) ∨ (J1.go j H ∧ ∃ Nx1 : Hp → Prop, (∀ H', Nx1 H' → ∃ k', k' < k ∧ W1 (j + 1) k' H') ∧ ∀ x H', J1.yld j H x H' → g1 x (wipe σ2 vs1) H' fun σ3 H5 => wipe σ3 vs1 = wipe σ2 vs1 ∧ tt1 σ3 H5 fun b H6 =>
            if b = true then te σ3 H6 fun y H7 => ∃ acc, H7 D = some (.lst acc) ∧ acc.length < sizeLine ∧ Nx1 (upd H7 D (.lst (acc ++ [y]))) else Nx1 H6)
        else Nx H3) := by
  refine ⟨fun i m H => m = n - i ∧ i ≤ n ∧ Pv i H, ⟨n, by simp, Nat.zero_le _, h0⟩, ?_⟩
  rintro i m H ⟨rfl, hi, p⟩
  have q := hG i H hi p
  by_cases hlt : i < n
  · exact .inr ⟨w.goes i H hlt q, Pv (i + 1), fun H' p' => ⟨n - (i + 1), by omega, rfl, hlt, p'⟩, fun x H' y => hs i x H H' hlt p (w.yields i H x H' hlt q y)⟩
  · have e : i = n := by omega
    subst e
    exact .inl ⟨w.stops H q, hd H p⟩
end
end Vf
set_option Elab.async false
set_option linter.all false
set_option maxRecDepth 100000
set_option maxHeartbeats 4000000
/-! data off some cells that move; comprehensions that grow data. -/
namespace Vf
open PySem PySem.Spec PyProof.Rows L2 RZ
/-- all but S is as it was -/
def Kb (S : List Addr) (H H' : Hp) : Prop := ∀ b o, H b = some o → b ∉ S → H' b = some o
theorem Kb.refl {S : List Addr} {H : Hp} : Kb S H H := fun _ _ e _ => e
theorem Kb.trans {S : List Addr} {H H1 H2 : Hp} (a : Kb S H H1) (b : Kb S H1 H2) : Kb S H H2 := fun c o e n => b c o (a c o e n) n
theorem Kb.ofSame {S : List Addr} {H H1 : Hp} (s : Same H H1) : Kb S H H1 := fun c o e _ => s c o e
theorem Kb.same {S : List Addr} {H H1 H2 : Hp} (a : Kb S H H1) (s : Same H1 H2) : Kb S H H2 := a.trans (.ofSame s)
theorem Kb.mono {S S' : List Addr} {H H1 : Hp} (a : Kb S H H1) (h : ∀ x ∈ S, x ∈ S') : Kb S' H H1 := fun c o e n => a c o e fun z => n (h c z)
theorem Kb.cons {S : List Addr} {x : Addr} {H H1 : Hp} (a : Kb S H H1) : Kb (x :: S) H H1 := a.mono fun _ h => List.mem_cons_of_mem _ h
theorem Kb.put {S : List Addr} {p : Addr} {o : HO} {H H1 : Hp} (a : Kb S H H1) (n : H p = none) : Kb S H (upd H1 p o) := fun c u e h => by
  rw [upd_ne (ne_of_none e n)]; exact a c u e h
theorem Kb.set {S : List Addr} {p : Addr} {o : HO} {H H1 : Hp} (a : Kb S H H1) (h : p ∈ S) : Kb S H (upd H1 p o) := fun c u e n => by
  rw [upd_ne (fun z => n (by rw [z]; exact h))]; exact a c u e n
theorem Kb.drop {S : List Addr} {x : Addr} {H H1 : Hp} (a : Kb (x :: S) H H1) (n : H x = none) : Kb S H H1 := fun c o e h => a c o e fun z => by
  rcases List.mem_cons.mp z with z | z
  · rw [z, n] at e; cases e
  · exact h z
theorem Kb.toSame {H H1 : Hp} (a : Kb [] H H1) : Same H H1 := fun c o e => a c o e fun z => nomatch z
def RpO (S : List Addr) (K : PySem.W.Frag) (H : Hp) (v : V) (d : Dt) : Prop := ∀ H', Kb S H H' → Rp K H' v d
def RpLO (S : List Addr) (K : PySem.W.Frag) (H : Hp) (v : List V) (d : List Dt) : Prop := ∀ H', Kb S H H' → RpL K H' v d
section
variable {S : List Addr} {K : PySem.W.Frag} {H H1 : Hp}
theorem RpO.rp {v : V} {d : Dt} (r : RpO S K H v d) : Rp K H v d := r H .refl
theorem RpLO.rp {v : List V} {d : List Dt} (r : RpLO S K H v d) : RpL K H v d := r H .refl
theorem RpO.kb {v : V} {d : Dt} (r : RpO S K H v d) (k : Kb S H H1) : RpO S K H1 v d := fun H' k' => r H' (k.trans k')
theorem RpLO.kb {v : List V} {d : List Dt} (r : RpLO S K H v d) (k : Kb S H H1) : RpLO S K H1 v d := fun H' k' => r H' (k.trans k')
theorem RpO.less {S' : List Addr} {v : V} {d : Dt} (r : RpO S K H v d) (h : ∀ x ∈ S', x ∈ S) : RpO S' K H v d := fun H' k' => r H' (k'.mono h)
theorem RpLO.less {S' : List Addr} {v : List V} {d : List Dt} (r : RpLO S K H v d) (h : ∀ x ∈ S', x ∈ S) : RpLO S' K H v d := fun H' k' => r H' (k'.mono h)
theorem RpO.int (i : Int) : RpO S K H (.int i) (.int i) := fun _ _ => .int i
theorem RpO.bl (b : Bool) : RpO S K H (.bl b) (.bl b) := fun _ _ => .bl b
theorem RpO.non : RpO S K H .non .non := fun _ _ => .non
theorem RpO.str (z : Str) : RpO S K H (.str z) (.str z) := fun _ _ => .str z
theorem RpO.lst {p : Addr} {xs : List V} {l : List Dt} (hp : H p = some (.lst xs)) (n : p ∉ S) (r : RpLO S K H xs l) : RpO S K H (.ref p) (.lst l) := fun H' k => .lst (SqL.of (k _ _ hp n)) (r H' k)
theorem RpO.tup {p : Addr} {xs : List V} {l : List Dt} (hp : H p = some (.tup xs)) (n : p ∉ S) (r : RpLO S K H xs l) : RpO S K H (.ref p) (.tup l) := fun H' k => .tup (SqT.of (k _ _ hp n)) (r H' k)
theorem RpLO.nil : RpLO S K H [] [] := fun _ _ => .nil
theorem RpLO.cons {v : V} {d : Dt} {vs : List V} {ds : List Dt} (r : RpO S K H v d) (q : RpLO S K H vs ds) : RpLO S K H (v :: vs) (d :: ds) := fun H' k => .cons (r H' k) (q H' k)
theorem rpl_app : ∀ {vs vs' : List V} {ds ds' : List Dt}, RpL K H vs ds → RpL K H vs' ds' → RpL K H (vs ++ vs') (ds ++ ds')
  | _, _, _, _, .nil, r => r
  | _, _, _, _, .cons h q, r => .cons h (rpl_app q r)
theorem RpLO.append {vs vs' : List V} {ds ds' : List Dt} (r : RpLO S K H vs ds) (q : RpLO S K H vs' ds') : RpLO S K H (vs ++ vs') (ds ++ ds') := fun H' k => rpl_app (r H' k) (q H' k)
theorem RpLO.length {vs : List V} {ds : List Dt} (r : RpLO S K H vs ds) : vs.length = ds.length := r.rp.length
theorem rpl_get : ∀ {v : List V} {d : List Dt} {i : Nat} {y : Dt}, RpL K H v d → d[i]? = some y → ∃ x, v[i]? = some x ∧ Rp K H x y
  | _, _, _, _, .nil, e => by simp at e
  | _, _, 0, _, .cons h _, e => by
    obtain rfl := Option.some.inj e
    exact ⟨_, rfl, h⟩
  | _, _, i + 1, y, .cons _ r, e => rpl_get (i := i) (y := y) r e
theorem rpl_intsV : ∀ ns : List Int, RpL K H (ns.map V.int) (ns.map Dt.int)
  | [] => .nil
  | n :: ns => .cons (.int n) (rpl_intsV ns)
theorem RpLO.ints (ns : List Int) : RpLO S K H (ns.map V.int) (ns.map Dt.int) := fun _ _ => rpl_intsV ns
theorem rpl_ints : ∀ {xs : List V} {ns : List Int}, RpL K H xs (ns.map Dt.int) → xs = ns.map V.int
  | _, [], r => by cases r; rfl
  | _, n :: ns, r => by
    cases r with
    | cons h q =>
      cases h
      rw [rpl_ints q]; rfl
theorem rpl_bls : ∀ {xs : List V} {ns : List Bool}, RpL K H xs (ns.map Dt.bl) → xs = ns.map V.bl
  | _, [], r => by cases r; rfl
  | _, n :: ns, r => by
    cases r with
    | cons h q =>
      cases h
      rw [rpl_bls q]; rfl
/-- a list of ints at an address -/
theorem rp_intL {v : V} {ns : List Int} (r : Rp K H v (.lst (ns.map Dt.int))) : ∃ a, v = .ref a ∧ SqL K H a (ns.map V.int) := by
  cases r with
  | lst h q => exact ⟨_, rfl, by rw [← rpl_ints q]; exact h⟩
theorem rp_intT {v : V} {ns : List Int} (r : Rp K H v (.tup (ns.map Dt.int))) : ∃ a, v = .ref a ∧ SqT K H a (ns.map V.int) := by
  cases r with
  | tup h q => exact ⟨_, rfl, by rw [← rpl_ints q]; exact h⟩
theorem rp_lst {v : V} {l : List Dt} (r : Rp K H v (.lst l)) : ∃ a xs, v = .ref a ∧ SqL K H a xs ∧ RpL K H xs l := by
  cases r with
  | lst h q => exact ⟨_, _, rfl, h, q⟩
theorem rp_tup {v : V} {l : List Dt} (r : Rp K H v (.tup l)) : ∃ a xs, v = .ref a ∧ SqT K H a xs ∧ RpL K H xs l := by
  cases r with
  | tup h q => exact ⟨_, _, rfl, h, q⟩
end
theorem list_det {α : Type} {l ds : List α} (hl : l.length = ds.length) (h : ∀ (i : Nat) (d : α), l[i]? = some d → ds[i]? = some d) : l = ds := by
  refine List.ext_getElem hl fun i h1 h2 => ?_
  have := h i _ (List.getElem?_eq_getElem h1)
  rw [List.getElem?_eq_getElem h2] at this
  exact (Option.some.inj this).symm
theorem map_of {α β : Type} {f : α → β} {P : α → Prop} : ∀ {l : List β}, (∀ (j : Nat) (d : β), l[j]? = some d → ∃ c, d = f c ∧ P c) → ∃ m : List α, l = m.map f ∧ ∀ c ∈ m, P c
  | [], _ => ⟨[], rfl, fun _ z => nomatch z⟩
  | b :: l, h => by
    obtain ⟨m, e, hm⟩ := map_of (l := l) fun j d e => h (j + 1) d (by simpa using e)
    obtain ⟨c, rfl, hc⟩ := h 0 b rfl
    refine ⟨c :: m, by rw [e]; rfl, fun x hx => ?_⟩
    rcases List.mem_cons.mp hx with rfl | hx
    · exact hc
    · exact hm x hx
/-- a list at D that grows, its items data -/
def Grow (K : PySem.W.Frag) (S : List Addr) (Iv : Hp → Prop) (P : Nat → Dt → Prop) (D : Addr) (H1 : Hp) (i : Nat) (H' : Hp) : Prop :=
  Kb S H1 H' ∧ Iv H' ∧ ∃ (xs : List V) (l : List Dt), H' D = some (.lst xs) ∧ l.length = i ∧ (∀ (j : Nat) (d : Dt), l[j]? = some d → P j d) ∧ RpLO (D :: S) K H' xs l
section
variable {K : PySem.W.Frag} {S : List Addr} {Iv : Hp → Prop} {P : Nat → Dt → Prop} {D : Addr} {H1 H' H4 : Hp} {i : Nat}
theorem Grow.start (nD : H1 D = none) (iv : Iv (upd H1 D (.lst []))) : Grow K S Iv P D H1 0 (upd H1 D (.lst [])) := ⟨Kb.refl.put nD, iv, [], [], upd_same, rfl, (fun j d e => by simp at e), .nil⟩
theorem Grow.kb (g : Grow K S Iv P D H1 i H') : Kb S H1 H' := g.1
theorem Grow.iv (g : Grow K S Iv P D H1 i H') : Iv H' := g.2.1
theorem Grow.at_ (g : Grow K S Iv P D H1 i H') : ∃ xs, H' D = some (.lst xs) := let ⟨_, _, xs, _, e, _⟩ := g; ⟨xs, e⟩
theorem Grow.ne (g : Grow K S Iv P D H1 i H') {p : Addr} (n : H' p = none) : p ≠ D := fun z => by obtain ⟨xs, e⟩ := g.at_; rw [z, e] at n; cases n
theorem Grow.step (g : Grow K S Iv P D H1 i H') (nD : H1 D = none) (DS : D ∉ S) (hi : i < 1000) (kb4 : Kb S H' H4) {y : V} {d : Dt} (hp : P i d) (r4 : RpO (D :: S) K H4 y d) (iv : ∀ acc, Iv (upd H4 D (.lst acc))) :
    ∃ acc, H4 D = some (.lst acc) ∧ acc.length < sizeLine ∧ Grow K S Iv P D H1 (i + 1) (upd H4 D (.lst (acc ++ [y]))) := by
  obtain ⟨kb, iv', xs, l, hD, hl, hP, hR⟩ := g
  refine ⟨xs, kb4 _ _ hD DS, ?_, (kb.trans kb4).put nD, iv _, xs ++ [y], l ++ [d], upd_same, by rw [List.length_append, hl]; rfl, fun j d' e => ?_, ?_⟩
  · rw [hR.length, hl]
    exact Nat.lt_of_lt_of_le (show i < 1000 by omega) (by decide)
  · by_cases hj : j < l.length
    · rw [List.getElem?_append_left hj] at e
      exact hP j d' e
    · rw [List.getElem?_append_right (by omega)] at e
      have hj0 : j - l.length = 0 := by
        cases q : j - l.length with
        | zero => rfl
        | succ k => rw [q] at e; simp at e
      rw [hj0] at e
      obtain rfl := Option.some.inj e
      have : j = i := by omega
      subst this
      exact hp
  · have k5 : Kb (D :: S) H4 (upd H4 D (.lst (xs ++ [y]))) := Kb.refl.set List.mem_cons_self
    exact ((hR.kb kb4.cons).kb k5).append (.cons (r4.kb k5) .nil)
theorem Grow.fin (g : Grow K S Iv P D H1 i H') : ∃ (xs : List V) (l : List Dt), H' D = some (.lst xs) ∧ l.length = i ∧ (∀ (j : Nat) (d : Dt), l[j]? = some d → P j d) ∧ RpLO (D :: S) K H' xs l := g.2.2
/-- the items are told one by one -/
theorem Grow.det {ds : List Dt} (g : Grow K S Iv (fun i d => ds[i]? = some d) D H1 ds.length H') : ∃ xs : List V, H' D = some (.lst xs) ∧ RpLO (D :: S) K H' xs ds := by
  obtain ⟨xs, l, e, hl, hP, hR⟩ := g.fin
  obtain rfl := list_det hl hP
  exact ⟨xs, e, hR⟩
theorem Grow.detN {ds : List Dt} {n : Nat} (h : n = ds.length) (g : Grow K S Iv (fun i d => ds[i]? = some d) D H1 n H') : ∃ xs : List V, H' D = some (.lst xs) ∧ RpLO (D :: S) K H' xs ds := by
  subst h; exact g.det
end
/-! ### rules that name the written part by a letter -/
section
variable {X : Cx} {K : PySem.W.Frag}
theorem pg_tupK {es : List Expr} {k : Nat} {t : TGs} {n : Nat} {pos : Pos} (hK : X.K = K) (hc : X.calm = true) (h : PGs X es t) (hn : (assignEach es X.env).length = n := by rfl) (hst : (assignEach es X.env).findIdx? (·.1) = none := by rfl) : PG X (.Tuple es k pos) (gTup K n t) := by
  subst hK; exact pg_tup hc h hn hst
theorem op_inK (hK : X.K = K) : OpR X (compareOp .In) (rIn K false) := by subst hK; exact op_in_seq
theorem op_notInK (hK : X.K = K) : OpR X (compareOp .NotIn) (rIn K true) := by subst hK; exact op_notIn_seq
end
def _root_.Vf.Dt.isStr : Dt → Bool
  | .str _ => true
  | _ => false
theorem isa_str : ∀ d : Dt, kitB d.ty "str" = some d.isStr
  | .non => show kitB "NoneType" "str" = some false by decide +kernel
  | .bl _ => show kitB "bool" "str" = some false by decide +kernel
  | .int _ => show kitB "int" "str" = some false by decide +kernel
  | .str _ => show kitB "str" "str" = some true by decide +kernel
  | .lst _ => show kitB "list" "str" = some false by decide +kernel
  | .tup _ => show kitB "tuple" "str" = some false by decide +kernel
  | .dct _ => show kitB "dict" "str" = some false by decide +kernel
/-! ### readings closed under weaker wishes; walks by one word -/
def tmE (t : TE) : TE := fun σ H Q => ∃ Q0 : VK, t σ H Q0 ∧ ∀ x H1, Q0 x H1 → Q x H1
def tmA (t : TA) : TA := fun σ H Q => ∃ Q0 : List V → Hp → Prop, t σ H Q0 ∧ ∀ x H1, Q0 x H1 → Q x H1
theorem pe_mono {X : Cx} {e : Expr} {t : TE} (h : PE X e t) : PE X e (tmE t) := ⟨fun pins s σ H Q I ⟨Q0, q, k⟩ => thn (h.run pins s σ H Q0 I q) fun u s1 ⟨v, H1, I1, r1, q1⟩ => ⟨v, H1, I1, r1, k _ _ q1⟩⟩
theorem pa_mono {X : Cx} {e : List Expr} {t : TA} (h : PA X e t) : PA X e (tmA t) := ⟨fun pos pins s σ H Q I ⟨Q0, q, k⟩ => thn (h.run pos pins s σ H Q0 I q) fun u s1 ⟨v, H1, I1, r1, q1⟩ => ⟨v, H1, I1, r1, k _ _ q1⟩⟩
theorem pi_imp {X : Cx} {tg l : Expr} {t t' : TI} (h : PI X tg l t) (i : ∀ σ H R, t' σ H R → t σ H R) : PI X tg l t' := ⟨fun pins s σ H R I q => h.run pins s σ H R I (i _ _ _ q)⟩
def SeqAsk (K : PySem.W.Frag) (R : It → Hp → Prop) : VK := fun x H1 => ∃ (a : Addr) (xs : List V), x = .ref a ∧ SqV K H1 a xs ∧ ∀ (J : It) (G : Hp → Prop), Walk J xs.length G (YAt xs) → (∀ H', Same H1 H' → G H') → R J H1
def iSeqV (K : PySem.W.Frag) (tl : TE) : TI := fun σ H R => tl σ H (SeqAsk K R)
theorem pi_seqV {X : Cx} {K : PySem.W.Frag} {tg l : Expr} {tl : TE} (hK : X.K = K) (hl : PE X l tl) : PI X tg l (iSeqV K tl) := by
  subst hK
  refine pi_imp (pi_seq (pe_mono hl)) fun σ H R q => ⟨_, q, fun x H1 ⟨a, xs, e, h, k⟩ => ?_⟩
  subst e
  exact seq_of h k
/-- the same, of what was there in an earlier heap -/
def SeqAskW (K : PySem.W.Frag) (R : It → Hp → Prop) : VK := fun x H1 => ∃ (a : Addr) (xs : List V) (H0 : Hp), x = .ref a ∧ SqV K H0 a xs ∧ Same H0 H1 ∧ ∀ (J : It) (G : Hp → Prop), Walk J xs.length G (YAt xs) → (∀ H', Same H0 H' → G H') → R J H1
def iSeqW (K : PySem.W.Frag) (tl : TE) : TI := fun σ H R => tl σ H (SeqAskW K R)
theorem pi_seqW {X : Cx} {K : PySem.W.Frag} {tg l : Expr} {tl : TE} (hK : X.K = K) (hl : PE X l tl) : PI X tg l (iSeqW K tl) := by
  subst hK
  refine pi_imp (pi_seq (pe_mono hl)) fun σ H R q => ⟨_, q, fun x H1 ⟨a, xs, H0, e, h, s, k⟩ => ?_⟩
  subst e
  exact seq_at h s k
def ZipAsk (K : PySem.W.Frag) (R : It → Hp → Prop) : List V → Hp → Prop := fun vs H1 => ∃ (a b : Addr) (xs ys : List V), vs = [.ref a, .ref b] ∧ SqV2 K H1 a b xs ys ∧ ∀ (J : It) (G : Hp → Prop), Walk J (min xs.length ys.length) G (YPair (fun i => xs[i]?) (fun i => ys[i]?)) → (∀ H', Same H1 H' → G H') → R J H1
def iZipV (K : PySem.W.Frag) (ta : TA) : TI := fun σ H R => ta σ H (ZipAsk K R)
theorem pi_zipV {X : Cx} {K : PySem.W.Frag} {e e2 : Expr} {ta : TA} {p pos tpos : Pos} {elts : List Expr} {kk : Nat} (hK : X.K = K) (hg : Gl X "zip") (hm : X.mg "zip" = none) (ha : PA X [e, e2] ta)
    (hs : starEach [e, e2] X.env = (false, eval e X.env) :: starEach [e2] X.env := by rfl) (hpl : (backTo pos (starEach [e2] X.env)).any (·.1) = false := by rfl) : PI X (.Tuple elts kk tpos) (.Call (.Name "zip" p) [e, e2] [] pos) (iZipV K ta) := by
  subst hK
  refine pi_imp (pi_zipA hg hm (pa_mono ha) hs hpl) fun σ H R q => ⟨_, q, fun x H1 ⟨a, b, xs, ys, e, h, k⟩ => ?_⟩
  subst e
  exact zip_of h k
end Vf
set_option Elab.async false
set_option linter.all false
set_option maxRecDepth 100000
set_option maxHeartbeats 4000000
namespace Kp14
open PySem PySem.Spec PyProof.Rows L2 Vf
def topS (i : Nat) : Stmt := PySem.Challenge.pw_exacttable_k14_exchanged_and_joined.main.body.getD i (.Pass ⟨0, 0, 0, 0⟩)
abbrev s_is_whole : Stmt := topS 3
abbrev s_is_count : Stmt := topS 4
abbrev s_is_place : Stmt := topS 5
abbrev s_are_unlike_places : Stmt := topS 6
abbrev s_is_list : Stmt := topS 7
abbrev s_is_short_list : Stmt := topS 8
abbrev s_are_counts : Stmt := topS 9
abbrev s_are_rows : Stmt := topS 10
abbrev s_is_cap : Stmt := topS 20
abbrev s_wanted_sums : Stmt := topS 21
abbrev s_wanted_caps : Stmt := topS 22
abbrev s_Frame_init : Stmt := inClass (topS 23) 0
abbrev s_Frame_rows : Stmt := inClass (topS 23) 1
abbrev s_Frame_columns : Stmt := inClass (topS 23) 2
abbrev s_Frame_caps : Stmt := inClass (topS 23) 3
abbrev s_Frame_cap : Stmt := inClass (topS 23) 4
abbrev s_has_table_form : Stmt := topS 25
abbrev s_wanted_table : Stmt := topS 26
abbrev s_table_sums : Stmt := topS 27
abbrev s_is_within : Stmt := topS 28
abbrev s_is_table : Stmt := topS 29
abbrev s_wanted_order : Stmt := topS 30
abbrev s_exchanged_rows : Stmt := topS 31
abbrev s_exchanged_frame : Stmt := topS 32
abbrev s_exchanged_table : Stmt := topS 33
abbrev s_wanted_columns : Stmt := topS 34
abbrev s_put_together : Stmt := topS 35
abbrev s_joined_counts : Stmt := topS 36
abbrev s_joined_cap : Stmt := topS 37
abbrev s_joined_caps : Stmt := topS 38
abbrev s_joined_frame : Stmt := topS 39
abbrev s_joined_table : Stmt := topS 40
abbrev s_l_cell_at : Stmt := topS 42
abbrev s_l_tape : Stmt := topS 43
abbrev s_l_digit : Stmt := topS 44
abbrev s_l_number : Stmt := topS 45
abbrev s_l_table : Stmt := topS 46
abbrev s_l_rows : Stmt := topS 47
abbrev s_l_columns : Stmt := topS 48
abbrev s_l_as : Stmt := topS 49
abbrev s_l_cap : Stmt := topS 50
abbrev s_l_caps : Stmt := topS 51
abbrev s_l_order : Stmt := topS 52
abbrev s_l_back : Stmt := topS 53
abbrev s_l_put : Stmt := topS 54
abbrev s_l_shown : Stmt := topS 55
abbrev s_l_grid_told : Stmt := topS 56
abbrev s_l_frame_told : Stmt := topS 57
abbrev s_l_exchanged_well : Stmt := topS 58
abbrev s_l_joined : Stmt := topS 59
abbrev s_l_cap_of : Stmt := topS 60
abbrev s_l_joined_well : Stmt := topS 61
abbrev s_l_greatest : Stmt := topS 62
abbrev s_law : Stmt := topS 63
/-! ### what the top has written -/
structure Txt (K : PySem.W.Frag) (mg : Str → Option Value) (C : Nat → Addr) (tG tL : Tok) : Prop where
  c_GREATEST : mg "GREATEST" = some (.int 1000000000000 tG)
  c_LONGEST : mg "LONGEST" = some (.int 6 tL)
  n_isinstance : mg "isinstance" = none
  n_len : mg "len" = none
  n_all : mg "all" = none
  n_range : mg "range" = none
  n_int : mg "int" = none
  n_bool : mg "bool" = none
  n_list : mg "list" = none
  n_tuple : mg "tuple" = none
  n_repr : mg "repr" = none
  n_max : mg "max" = none
  n_min : mg "min" = none
  n_sum : mg "sum" = none
  n_zip : mg "zip" = none
  n_enumerate : mg "enumerate" = none
  n_reversed : mg "reversed" = none
  n_str : mg "str" = none
  n_sorted : mg "sorted" = none
  NoSums : ExcF K mg "NoSums" (C 0) (C 17)
  NoCaps : ExcF K mg "NoCaps" (C 1) (C 17)
  NoTable : ExcF K mg "NoTable" (C 2) (C 17)
  NoOrder : ExcF K mg "NoOrder" (C 3) (C 17)
  NoColumns : ExcF K mg "NoColumns" (C 4) (C 17)
  NoCell : ExcF K mg "NoCell" (C 10) (C 17)
/-! ### the mirror of the checks -/
def isWhole : Dt → Bool
  | .int _ => true
  | _ => false
def isCount : Dt → Bool
  | .int i => decide (0 ≤ i) && decide (i ≤ 1000000000000)
  | _ => false
def isShort (d : Dt) : Bool := match d.items with
  | some l => decide (1 ≤ l.length) && decide (l.length ≤ 6)
  | none => false
def areCounts (d : Dt) : Bool := isShort d && (d.items.getD []).all isCount
theorem isWhole_eq (d : Dt) (e : d.isInt = true) : isWhole d = !d.isBool := by cases d <;> first | rfl | (cases e; done)
theorem isWhole_no (d : Dt) (e : ¬ d.isInt = true) : isWhole d = false := by cases d <;> first | rfl | (exact absurd rfl e)
theorem isCount_no (d : Dt) (e : ¬ isWhole d = true) : isCount d = false := by cases d <;> first | rfl | (exact absurd rfl e)
theorem isWhole_int (d : Dt) (e : isWhole d = true) : ∃ i, d = .int i := by cases d <;> first | exact ⟨_, rfl⟩ | (cases e; done)
theorem isCount_int (d : Dt) (e : isCount d = true) : ∃ i : Int, d = .int i ∧ 0 ≤ i ∧ i ≤ 1000000000000 := by
  cases d with
  | int i =>
    have h : (decide (0 ≤ i) && decide (i ≤ 1000000000000)) = true := e
    rw [Bool.and_eq_true, decide_eq_true_eq, decide_eq_true_eq] at h
    exact ⟨i, rfl, h.1, h.2⟩
  | _ => cases e
theorem all_counts : ∀ {l : List Dt}, l.all isCount = true → ∃ ns : List Int, l = ns.map Dt.int ∧ ∀ n ∈ ns, 0 ≤ n ∧ n ≤ 1000000000000
  | [], _ => ⟨[], rfl, fun _ h => by cases h⟩
  | d :: l, h => by
    rw [List.all_cons, Bool.and_eq_true] at h
    obtain ⟨i, rfl, h1, h2⟩ := isCount_int d h.1
    obtain ⟨ns, rfl, h3⟩ := all_counts h.2
    refine ⟨i :: ns, rfl, fun n hn => ?_⟩
    rcases List.mem_cons.mp hn with rfl | hn
    · exact ⟨h1, h2⟩
    · exact h3 n hn

/-! ### the promises -/
def sp_is_whole (K : PySem.W.Frag) : Sp := fun vs H Q _ => ∃ v d, vs = [v] ∧ Rp K H v d ∧ Q (.bl (isWhole d)) H
def sp_is_count (K : PySem.W.Frag) : Sp := fun vs H Q _ => ∃ v d, vs = [v] ∧ Rp K H v d ∧ Q (.bl (isCount d)) H
def sp_is_list (K : PySem.W.Frag) : Sp := fun vs H Q _ => ∃ v d, vs = [v] ∧ Rp K H v d ∧ ∀ H', Same H H' → Q (.bl d.items.isSome) H'
def sp_is_short_list (K : PySem.W.Frag) : Sp := fun vs H Q _ => ∃ v d, vs = [v] ∧ Rp K H v d ∧ ∀ H', Same H H' → Q (.bl (isShort d)) H'
def sp_are_counts (K : PySem.W.Frag) : Sp := fun vs H Q _ => ∃ v d, vs = [v] ∧ Rp K H v d ∧ ∀ H', Same H H' → Q (.bl (areCounts d)) H'
def sp_wanted_sums (K : PySem.W.Frag) (N0 : Addr) : Sp := fun vs H Q E => ∃ v d, vs = [v] ∧ Rp K H v d ∧ (areCounts d = false → ∀ H', Same H H' → E (.ref N0) none H') ∧
  (areCounts d = true → ∀ (ns : List Int) (H' : Hp) (p : Addr), d.items = some (ns.map Dt.int) → Same H H' → SqT K H' p (ns.map V.int) → Q (.ref p) H')
section
variable {P : Program} {w : World} {K : PySem.W.Frag} {mg : Str → Option Value} {base : Heap} {C : Nat → Addr} {tG tL : Tok}
theorem sc_is_whole : FnScope ["thing"] ["thing"] (defScope s_is_whole) :=
  ⟨rfl, rfl, rfl, by decide +kernel, rfl, by decide +kernel, by decide +kernel⟩
theorem ok_is_whole {f : Addr} {fd : FuncData} (F : Fun K "is_whole" "is_whole" s_is_whole f fd) (T : Txt K mg C tG tL) : FnOk P w K mg base CX0 1 f fd ["thing"] (sp_is_whole K) := by
  refine F.ok sc_is_whole (fun vs H Q E ⟨v, d, e, _⟩ => by rw [e]; rfl) (fun cdv A outer s H vs Q E hr h => ?_)
  obtain ⟨v, d, rfl, R, q⟩ := h
  refine ⟨_, (pss_one (ps_ret (pe_and (pe_callB (isiK (K := K) rfl) (by rfl) T.n_isinstance (by decide +kernel) (pa_cons (pv 0) (pa_cons (pe_bltn (v := .ty "int") (by rfl) T.n_int (by decide +kernel) rfl) pa_nil))) (pe_one (pe_not (pe_callB (isiK (K := K) rfl) (by rfl) T.n_isinstance (by decide +kernel) (pa_cons (pv 0) (pa_cons (pe_bltn (v := .ty "bool") (by rfl) T.n_bool (by decide +kernel) rfl) pa_nil)))))))), ?_⟩
  refine ⟨v, rfl, v, _, _, _, d.isInt, rfl, .ty _, R.ty, kit_ty (isa_int d), _, rfl, ite2 (fun e => ?_) (fun e => ?_)⟩
  · refine ⟨v, rfl, v, _, _, _, d.isBool, rfl, .ty _, R.ty, kit_ty (isa_bool d), _, rfl, ?_⟩
    rw [isWhole_eq d e] at q
    exact q
  · rw [isWhole_no d e] at q
    exact q
theorem sc_is_count : FnScope ["thing"] ["thing"] (defScope s_is_count) :=
  ⟨rfl, rfl, rfl, by decide +kernel, rfl, by decide +kernel, by decide +kernel⟩
theorem ok_is_count {f : Addr} {fd : FuncData} (F : Fun K "is_count" "is_count" s_is_count f fd) (T : Txt K mg C tG tL) (c_is_whole : Cal P w K mg base CX0 1 "is_whole" ["thing"] (sp_is_whole K)) : FnOk P w K mg base CX0 2 f fd ["thing"] (sp_is_count K) := by
  refine F.ok sc_is_count (fun vs H Q E ⟨v, d, e, _⟩ => by rw [e]; rfl) (fun cdv A outer s H vs Q E hr h => ?_)
  obtain ⟨v, d, rfl, R, q⟩ := h
  refine ⟨_, (pss_one (ps_ret (pe_and (pe_cal c_is_whole (hr.mono (by decide)) (by rfl) pass0 (pa_cons (pv 0) pa_nil)) (pe_one (pe_chain op_le op_le pe_int (pv 0) (pe_glob (v := .int 1000000000000) (by rfl) T.c_GREATEST ⟨_, rfl⟩)))))), ?_⟩
  refine ⟨v, rfl, v, d, rfl, R, _, rfl, ite2 (fun e => ?_) (fun e => ?_)⟩
  · obtain ⟨i, rfl⟩ := isWhole_int d e
    cases R
    refine ⟨.int i, rfl, 0, i, rfl, rfl, _, rfl, ite2 (fun e => ?_) (fun e => ?_)⟩
    · refine ⟨i, 1000000000000, rfl, rfl, ?_⟩
      have h : isCount (.int i) = decide (i ≤ 1000000000000) := by show (decide (0 ≤ i) && decide (i ≤ 1000000000000)) = _; rw [e, Bool.true_and]
      rw [h] at q
      exact q
    · have h : isCount (.int i) = false := by
        show (decide (0 ≤ i) && decide (i ≤ 1000000000000)) = _
        rw [Bool.eq_false_iff.mpr e, Bool.false_and]
      rw [h] at q
      exact q
  · rw [isCount_no d e] at q
    exact q
theorem sc_is_list : FnScope ["thing"] ["thing"] (defScope s_is_list) :=
  ⟨rfl, rfl, rfl, by decide +kernel, rfl, by decide +kernel, by decide +kernel⟩
theorem ok_is_list {f : Addr} {fd : FuncData} (F : Fun K "is_list" "is_list" s_is_list f fd) (T : Txt K mg C tG tL) : FnOk P w K mg base CX0 1 f fd ["thing"] (sp_is_list K) := by
  refine F.ok sc_is_list (fun vs H Q E ⟨v, d, e, _⟩ => by rw [e]; rfl) (fun cdv A outer s H vs Q E hr h => ?_)
  obtain ⟨v, d, rfl, R, q⟩ := h
  refine ⟨_, (pss_one (ps_ret (pe_callB (isiTK (K := K) rfl) (by rfl) T.n_isinstance (by decide +kernel) (pa_cons (pv 0) (pa_cons (pe_tup (pa_cons (pe_bltn (v := .ty "list") (by rfl) T.n_list (by decide +kernel) rfl) (pa_cons (pe_bltn (v := .ty "tuple") (by rfl) T.n_tuple (by decide +kernel) rfl) pa_nil))) pa_nil))))), ?_⟩
  refine ⟨v, rfl, (by show 2 ≤ sizeLine; decide), fun p np => ?_⟩
  exact ⟨v, p, _, _, _, _, rfl, upd_same, .cons (.ty "list") (.cons (.ty "tuple") .nil), (R.same (same_upd np)).ty, isa_seq d, q _ (same_upd np)⟩
theorem sc_is_short_list : FnScope ["thing"] ["thing"] (defScope s_is_short_list) :=
  ⟨rfl, rfl, rfl, by decide +kernel, rfl, by decide +kernel, by decide +kernel⟩
theorem ok_is_short_list {f : Addr} {fd : FuncData} (F : Fun K "is_short_list" "is_short_list" s_is_short_list f fd) (T : Txt K mg C tG tL) (c_is_list : Cal P w K mg base CX0 1 "is_list" ["thing"] (sp_is_list K)) : FnOk P w K mg base CX0 2 f fd ["thing"] (sp_is_short_list K) := by
  refine F.ok sc_is_short_list (fun vs H Q E ⟨v, d, e, _⟩ => by rw [e]; rfl) (fun cdv A outer s H vs Q E hr h => ?_)
  obtain ⟨v, d, rfl, R, q⟩ := h
  refine ⟨_, (pss_one (ps_ret (pe_and (pe_cal c_is_list (hr.mono (by decide)) (by rfl) pass0 (pa_cons (pv 0) pa_nil)) (pe_one (pe_chain op_le op_le pe_int (pe_callB (len_ofK (K := K) rfl) (by rfl) T.n_len (by decide +kernel) (pa_cons (pv 0) pa_nil)) (pe_glob (v := .int 6) (by rfl) T.c_LONGEST ⟨_, rfl⟩)))))), ?_⟩
  refine ⟨v, rfl, v, d, rfl, R, fun H1 s1 => ⟨_, rfl, ite2 (fun e => ?_) (fun e => ?_)⟩⟩
  · obtain ⟨l, el⟩ := Option.isSome_iff_exists.mp e
    obtain ⟨a, xs, rfl, hS, hR⟩ := R.items_some el
    have hlen := hR.length
    have hq : isShort d = (decide (1 ≤ l.length) && decide (l.length ≤ 6)) := by unfold isShort; rw [el]
    refine ⟨.ref a, rfl, a, xs, rfl, hS.same s1, 1, _, rfl, rfl, _, rfl, ite2 (fun e => ?_) (fun e => ?_)⟩
    · refine ⟨_, 6, rfl, rfl, ?_⟩
      have e1 : 1 ≤ l.length := by have := of_decide_eq_true e; omega
      have e2 : decide (((xs.length : Nat) : Int) ≤ 6) = decide (l.length ≤ 6) := by rw [hlen]; exact decide_eq_decide.mpr ⟨fun z => by omega, fun z => by omega⟩
      have q2 := q H1 s1
      rw [hq, decide_eq_true e1, Bool.true_and, ← e2] at q2
      exact q2
    · have e1 : ¬ 1 ≤ l.length := fun z => e (decide_eq_true (by omega))
      have q2 := q H1 s1
      rw [hq, decide_eq_false e1, Bool.false_and] at q2
      exact q2
  · have hq : isShort d = false := by
      unfold isShort
      cases z : d.items with
      | none => rfl
      | some l => rw [z] at e; exact absurd rfl e
    have q2 := q H1 s1
    rw [hq] at q2
    exact q2
theorem sc_are_counts : FnScope ["thing", "item"] ["thing"] (defScope s_are_counts) :=
  ⟨rfl, rfl, rfl, by decide +kernel, rfl, by decide +kernel, by decide +kernel⟩
theorem ok_are_counts {f : Addr} {fd : FuncData} (F : Fun K "are_counts" "are_counts" s_are_counts f fd) (T : Txt K mg C tG tL) (c_is_short_list : Cal P w K mg base CX0 2 "is_short_list" ["thing"] (sp_is_short_list K)) (c_is_count : Cal P w K mg base CX0 2 "is_count" ["thing"] (sp_is_count K)) :
    FnOk P w K mg base CX0 3 f fd ["thing"] (sp_are_counts K) := by
  refine F.ok sc_are_counts (fun vs H Q E ⟨v, d, e, _⟩ => by rw [e]; rfl) (fun cdv A outer s H vs Q E hr h => ?_)
  obtain ⟨v, d, rfl, R, q⟩ := h
  refine ⟨_, (pss_one (ps_ret (pe_and (pe_cal c_is_short_list (hr.mono (by decide)) (by rfl) pass0 (pa_cons (pv 0) pa_nil)) (pe_one (pe_callB (allK (K := K) rfl rfl) (by rfl) T.n_all (by decide +kernel) (pa_cons (pe_lcS (own := [("item", 1)]) (by rfl) sc_are_counts.nd (pv 0) mono_var (blkOk_by (own := [("item", 1)]) (N := ["thing", "item"]) (sc := defScope s_are_counts) (by decide +kernel)) (fun _ _ _ _ _ => (pg_name (i := 1) sc_are_counts.nd rfl (by first | exact Or.inl rfl | exact Or.inr rfl))) (fun _ _ _ _ _ => pts_nil) (fun _ _ _ _ _ => (pe_cal c_is_count (hr.mono (by decide)) (by rfl) pass0 (pa_cons (pv 1) pa_nil)))) pa_nil)))))), ?_⟩
  refine ⟨v, rfl, v, d, rfl, R, fun H1 s1 => ⟨_, rfl, ite2 (fun e => ?_) (fun e => ?_)⟩⟩
  · obtain ⟨l, el⟩ : ∃ l, d.items = some l := by
      cases z : d.items with
      | some l => exact ⟨l, rfl⟩
      | none =>
        unfold isShort at e
        rw [z] at e
        cases e
    obtain ⟨a, xs, rfl, hS, hR⟩ := (R.same s1).items_some el
    have hlen := hR.length
    have short : l.length ≤ 6 := by
      unfold isShort at e
      rw [el] at e
      have e : (decide (1 ≤ l.length) && decide (l.length ≤ 6)) = true := e
      rw [Bool.and_eq_true, decide_eq_true_eq, decide_eq_true_eq] at e
      exact e.2
    have hq : areCounts d = l.all isCount := by unfold areCounts; rw [e, el]; rfl
    refine ⟨.ref a, rfl, a, xs, (fun D i H' => Same H1 H' ∧ H' D = some (.lst (((l.take i).map isCount).map V.bl))), rfl, hS, (fun D nD => ⟨same_upd nD, upd_same⟩), (fun D i H' nD _ p => p.1), (fun D i x H' nD hx p => ?_), (fun D H' nD p => ?_)⟩
    · obtain ⟨y, hy, rxy⟩ := hR.get hx
      refine ⟨rfl, x, rfl, x, y, rfl, rxy.same p.1, _, p.2, ?_, ?_, ?_⟩
      · rw [List.length_map, List.length_map, List.length_take]
        exact Nat.lt_of_le_of_lt (Nat.le_trans (Nat.min_le_right _ _) short) (by decide)
      · exact fun b o e => by rw [upd_ne (ne_of_none e nD)]; exact p.1 b o e
      · rw [upd_same, List.take_add_one, hy]
        simp
    · rw [hlen, List.take_length] at p
      refine ⟨D, l.map isCount, rfl, .inl (.inl p.2), ?_⟩
      have q2 := q H' (s1.trans p.1)
      rw [hq] at q2
      rw [List.all_map]
      exact q2
  · have q2 := q H1 s1
    unfold areCounts at q2
    rw [Bool.eq_false_iff.mpr e, Bool.false_and] at q2
    exact q2
theorem sc_wanted_sums : FnScope ["thing"] ["thing"] (defScope s_wanted_sums) :=
  ⟨rfl, rfl, rfl, by decide +kernel, rfl, by decide +kernel, by decide +kernel⟩
theorem ok_wanted_sums {f : Addr} {fd : FuncData} (F : Fun K "wanted_sums" "wanted_sums" s_wanted_sums f fd) (T : Txt K mg C tG tL) (c_are_counts : Cal P w K mg base CX0 3 "are_counts" ["thing"] (sp_are_counts K)) : FnOk P w K mg base (L2.CX P w) 4 f fd ["thing"] (sp_wanted_sums K (C 0)) := by
  refine F.okX sc_wanted_sums (fun vs H Q E ⟨v, d, e, _⟩ => by rw [e]; rfl) (fun cdv A outer s H vs Q E hr h => ?_)
  obtain ⟨v, d, rfl, R, q1, q2⟩ := h
  refine ⟨_, (pss_cons (ps_if (pt_not (pt_val (pe_cal c_are_counts (hr.mono (by decide)) (by rfl) pass0 (pa_cons (pv 0) pa_nil))))
  (pss_one (ps_raise rfl (takes_of rfl rfl rfl rfl) (pmk_own PySem.F.excBase_ValueError T.NoSums.x T.NoSums.g T.NoSums.k (raises_own T.NoSums.b T.NoSums.t) (by exact rfl))))
  pss_nil)
  (pss_one (ps_ret (pe_callTy (tuple_ofK (K := K) rfl) (by rfl) T.n_tuple (by decide +kernel) (pa_cons (pv 0) pa_nil))))), ?_⟩
  refine ⟨v, rfl, v, d, rfl, R, fun H1 s1 => ⟨_, rfl, ?_⟩⟩
  cases e : areCounts d with
  | false => exact iteT (q1 e H1 s1)
  | true =>
    refine iteF ?_
    unfold areCounts at e
    rw [Bool.and_eq_true] at e
    obtain ⟨l, el⟩ : ∃ l, d.items = some l := by
      cases z : d.items with
      | some l => exact ⟨l, rfl⟩
      | none =>
        have e := e.1
        unfold isShort at e
        rw [z] at e
        cases e
    have ec := e.2
    rw [el] at ec
    obtain ⟨ns, rfl, hns⟩ := all_counts (l := l) ec
    obtain ⟨a, xs, rfl, hS, hR⟩ := (R.same s1).items_some el
    have ex : xs = ns.map V.int := by
      clear el ec hS q1 q2 e hns
      induction ns generalizing xs with
      | nil => cases hR; rfl
      | cons n ns ih =>
        cases hR with
        | cons h1 h2 =>
          cases h1
          rw [ih _ h2]
          rfl
    subst ex
    have ac : areCounts d = true := by unfold areCounts; rw [e.1, el]; exact ec
    refine ⟨.ref a, rfl, a, ns.map V.int, rfl, ?_⟩
    rcases hS with hS | hS
    · exact .inl ⟨hS, fun p np => q2 ac ns _ p el (s1.trans (same_upd np)) (SqT.of upd_same)⟩
    · exact .inr ⟨hS, q2 ac ns _ a el s1 hS⟩
end
end Kp14
set_option Elab.async false
set_option linter.all false
set_option maxRecDepth 100000
set_option maxHeartbeats 4000000
namespace Kp14
open PySem PySem.Spec PyProof.Rows L2 Vf
/-! ### caps, frames -/
def capV : Option Int → V
  | none => .non
  | some i => .int i
def isCap : Dt → Bool
  | .non => true
  | d => isCount d
def isCapRow (w : Nat) (d : Dt) : Bool := match d.items with
  | some l => decide (l.length = w) && l.all isCap
  | none => false
def isRow (w : Nat) (d : Dt) : Bool := match d.items with
  | some l => decide (l.length = w)
  | none => false
def areRows (h w : Nat) (d : Dt) : Bool := match d.items with
  | some l => decide (l.length = h) && l.all (isRow w)
  | none => false
theorem isRow_some {w : Nat} {d : Dt} (h : isRow w d = true) : ∃ l, d.items = some l ∧ l.length = w := by
  unfold isRow at h
  cases z : d.items with
  | none => rw [z] at h; cases h
  | some l => rw [z] at h; exact ⟨l, rfl, of_decide_eq_true h⟩
theorem isCapRow_row {w : Nat} {d : Dt} : isCapRow w d = (isRow w d && (d.items.getD []).all isCap) := by
  unfold isCapRow isRow
  cases z : d.items with
  | none => rfl
  | some l => rfl
theorem areRows_some {h w : Nat} {d : Dt} (e : areRows h w d = true) : ∃ l, d.items = some l ∧ l.length = h ∧ l.all (isRow w) = true := by
  unfold areRows at e
  cases z : d.items with
  | none => rw [z] at e; cases e
  | some l =>
    rw [z] at e
    have e : (decide (l.length = h) && l.all (isRow w)) = true := e
    rw [Bool.and_eq_true, decide_eq_true_eq] at e
    exact ⟨l, rfl, e⟩
theorem all_capRow {w : Nat} : ∀ l : List Dt, l.all (isCapRow w) = (l.all (isRow w) && (l.flatMap fun r => r.items.getD []).all isCap)
  | [] => rfl
  | d :: l => by
    rw [List.all_cons, List.all_cons, List.flatMap_cons, List.all_append, all_capRow l, isCapRow_row]
    cases isRow w d <;> cases (d.items.getD []).all isCap <;> cases l.all (isRow w) <;> rfl
def capsOk (d : Dt) (h w : Nat) : Bool := match d with
  | .non => true
  | _ => match d.items with
    | some l => decide (l.length = h) && l.all (isCapRow w)
    | none => false
def capInt : Dt → Option Int
  | .int i => some i
  | _ => none
def capsOf (d : Dt) (h w : Nat) : List (List (Option Int)) := match d with
  | .non => List.replicate h (List.replicate w none)
  | _ => (d.items.getD []).map fun r => (r.items.getD []).map capInt
def isPlace (n : Nat) : Dt → Bool
  | .int i => decide (0 ≤ i) && decide (i < n)
  | _ => false
theorem isCap_capV {K : PySem.W.Frag} {H : Hp} {v : V} {d : Dt} (r : Rp K H v d) (h : isCap d = true) : v = capV (capInt d) := by
  cases d with
  | non => cases r; rfl
  | int i => cases r; rfl
  | _ => cases h
theorem caps_row {K : PySem.W.Frag} {H : Hp} : ∀ {xs : List V} {l : List Dt}, RpL K H xs l → l.all isCap = true → xs = (l.map capInt).map capV
  | _, _, .nil, _ => rfl
  | _, _, .cons h r, e => by
    rw [List.all_cons, Bool.and_eq_true] at e
    rw [isCap_capV h e.1, caps_row r e.2]
    rfl
/-- tuples at ks that hold the rows ms -/
inductive RowsT (K : PySem.W.Frag) (H : Hp) : List Addr → List (List (Option Int)) → Prop
  | nil : RowsT K H [] []
  | cons {k : Addr} {ks : List Addr} {m : List (Option Int)} {ms : List (List (Option Int))} : SqT K H k (m.map capV) → RowsT K H ks ms → RowsT K H (k :: ks) (m :: ms)
section
variable {K : PySem.W.Frag} {H H' : Hp}
theorem RowsT.imp (f : ∀ k xs, SqT K H k xs → SqT K H' k xs) : ∀ {ks : List Addr} {ms : List (List (Option Int))}, RowsT K H ks ms → RowsT K H' ks ms
  | _, _, .nil => .nil
  | _, _, .cons h r => .cons (f _ _ h) (RowsT.imp f r)
theorem RowsT.same (s : Same H H') {ks : List Addr} {ms : List (List (Option Int))} (r : RowsT K H ks ms) : RowsT K H' ks ms := r.imp fun _ _ h => Same.seqT s h
theorem RowsT.length : ∀ {ks : List Addr} {ms : List (List (Option Int))}, RowsT K H ks ms → ks.length = ms.length
  | _, _, .nil => rfl
  | _, _, .cons _ r => congrArg (· + 1) (RowsT.length r)
theorem RowsT.get : ∀ {ks : List Addr} {ms : List (List (Option Int))} {i : Nat} {k : Addr}, RowsT K H ks ms → ks[i]? = some k → ∃ m, ms[i]? = some m ∧ SqT K H k (m.map capV)
  | _, _, _, _, .nil, e => by simp at e
  | _, _, 0, _, .cons h _, e => by
    obtain rfl := Option.some.inj e
    exact ⟨_, rfl, h⟩
  | _, _, i + 1, k, .cons _ r, e => RowsT.get (i := i) (k := k) r e
theorem RowsT.append {ks ks' : List Addr} {ms ms' : List (List (Option Int))} : RowsT K H ks ms → RowsT K H ks' ms' → RowsT K H (ks ++ ks') (ms ++ ms')
  | .nil, r => r
  | .cons h q, r => .cons h (RowsT.append q r)
theorem RowsT.rep {k : Addr} {m : List (Option Int)} (h : SqT K H k (m.map capV)) : ∀ n : Nat, RowsT K H (List.replicate n k) (List.replicate n m)
  | 0 => .nil
  | n + 1 => by rw [List.replicate_succ, List.replicate_succ]; exact .cons h (RowsT.rep h n)
/-- a change at a list or an instance leaves the tuples -/
theorem sqT_upd {k p : Addr} {xs : List V} {u o : HO} (h : SqT K H k xs) (hp : H p = some u) (n1 : ∀ ys, u ≠ .tup ys) (n2 : ∀ ob w, u ≠ .frz ob w) : SqT K (upd H p o) k xs := by
  rcases h with (h | ⟨ob, h⟩) | h
  · exact .inl (.inl (by rw [upd_ne (fun z => by rw [z, hp] at h; exact n1 _ (Option.some.inj h))]; exact h))
  · exact .inl (.inr ⟨ob, by rw [upd_ne (fun z => by rw [z, hp] at h; exact n2 _ _ (Option.some.inj h))]; exact h⟩)
  · exact .inr h
end
/-- lists at ls that hold the rows ms, none of them tracked in H -/
inductive RowsL (H H' : Hp) : List Addr → List (List (Option Int)) → Prop
  | nil : RowsL H H' [] []
  | cons {k : Addr} {ks : List Addr} {m : List (Option Int)} {ms : List (List (Option Int))} : H k = none → H' k = some (.lst (m.map capV)) → RowsL H H' ks ms → RowsL H H' (k :: ks) (m :: ms)
theorem RowsL.keep {H H1 H2 : Hp} : ∀ {ks : List Addr} {ms : List (List (Option Int))}, RowsL H H1 ks ms → (∀ b o, H b = none → H1 b = some (.lst o) → b ∈ ks → H2 b = some (.lst o)) → RowsL H H2 ks ms
  | _, _, .nil, _ => .nil
  | _, _, .cons h1 h2 r, f => .cons h1 (f _ _ h1 h2 List.mem_cons_self) (r.keep fun b o e1 e2 hb => f b o e1 e2 (List.mem_cons_of_mem _ hb))
theorem RowsL.append {H H' : Hp} {ks ks' : List Addr} {ms ms' : List (List (Option Int))} : RowsL H H' ks ms → RowsL H H' ks' ms' → RowsL H H' (ks ++ ks') (ms ++ ms')
  | .nil, r => r
  | .cons h1 h2 q, r => .cons h1 h2 (RowsL.append q r)
theorem RowsL.length {H H' : Hp} : ∀ {ks : List Addr} {ms : List (List (Option Int))}, RowsL H H' ks ms → ks.length = ms.length
  | _, _, .nil => rfl
  | _, _, .cons _ _ r => congrArg (· + 1) (RowsL.length r)
def ff (a b c : V) : List (Str × V) := putF "cell_caps" c (putF "column_sums" b (putF "row_sums" a []))
theorem n_rc : ¬ ("row_sums" : Str) = "column_sums" := by decide +kernel
theorem n_rk : ¬ ("row_sums" : Str) = "cell_caps" := by decide +kernel
theorem n_ck : ¬ ("column_sums" : Str) = "cell_caps" := by decide +kernel
theorem ff_r (a b c : V) : (ff a b c).lookup ("row_sums" : Str) = some a := by unfold ff; rw [lookup_putF, if_neg n_rk, lookup_putF, if_neg n_rc, lookup_putF, if_pos rfl]
theorem ff_c (a b c : V) : (ff a b c).lookup ("column_sums" : Str) = some b := by unfold ff; rw [lookup_putF, if_neg n_ck, lookup_putF, if_pos rfl]
theorem ff_k (a b c : V) : (ff a b c).lookup ("cell_caps" : Str) = some c := by unfold ff; rw [lookup_putF, if_pos rfl]
theorem ff_no (a b c : V) {m : Str} (h1 : ¬ m = "cell_caps") (h2 : ¬ m = "column_sums") (h3 : ¬ m = "row_sums") : (ff a b c).lookup m = none := by
  unfold ff
  rw [lookup_putF, if_neg h1, lookup_putF, if_neg h2, lookup_putF, if_neg h3]
  rfl
/-- the frame at p -/
structure FrameAt (K : PySem.W.Frag) (CF : Addr) (H : Hp) (p : Addr) (rs cs : List Int) (ms : List (List (Option Int))) : Prop where
  ex : ∃ (dx tr tc tk : Addr) (ks : List Addr), H p = some (.ins CF dx (ff (.ref tr) (.ref tc) (.ref tk))) ∧ SqT K H tr (rs.map V.int) ∧ SqT K H tc (cs.map V.int) ∧ SqT K H tk (ks.map V.ref) ∧ RowsT K H ks ms
  high : ms.length = rs.length
  wide : ∀ m ∈ ms, m.length = cs.length
theorem FrameAt.same {K : PySem.W.Frag} {CF : Addr} {H H' : Hp} {p : Addr} {rs cs : List Int} {ms : List (List (Option Int))} (F : FrameAt K CF H p rs cs ms) (s : Same H H') : FrameAt K CF H' p rs cs ms := by
  obtain ⟨dx, tr, tc, tk, ks, h1, h2, h3, h4, h5⟩ := F.ex
  exact ⟨⟨dx, tr, tc, tk, ks, s _ _ h1, Same.seqT s h2, Same.seqT s h3, Same.seqT s h4, h5.same s⟩, F.high, F.wide⟩
structure FrT (K : PySem.W.Frag) (mg : Str → Option Value) (CF : Addr) : Prop where
  g : mg "Frame" = some (.ref CF)
  cl : Cls K CF
  nr : NoAttr K CF "row_sums"
  nc : NoAttr K CF "column_sums"
  nk : NoAttr K CF "cell_caps"
def sp_is_place (K : PySem.W.Frag) : Sp := fun vs H Q _ => ∃ (v : V) (d : Dt) (n : Nat), vs = [v, .int n] ∧ Rp K H v d ∧ Q (.bl (isPlace n d)) H
def sp_is_cap (K : PySem.W.Frag) : Sp := fun vs H Q _ => ∃ v d, vs = [v] ∧ Rp K H v d ∧ Q (.bl (isCap d)) H
def sp_are_rows (K : PySem.W.Frag) : Sp := fun vs H Q _ => ∃ (v : V) (d : Dt) (h w : Nat), vs = [v, .int h, .int w] ∧ Rp K H v d ∧ h ≤ 6 ∧ ∀ H', Same H H' → Q (.bl (areRows h w d)) H'
def sp_wanted_caps (K : PySem.W.Frag) (N1 : Addr) : Sp := fun vs H Q E => ∃ (v : V) (d : Dt) (h w : Nat), vs = [v, .int h, .int w] ∧ Rp K H v d ∧ 1 ≤ h ∧ h ≤ 6 ∧ 1 ≤ w ∧ w ≤ 6 ∧ (capsOk d h w = false → ∀ H', Same H H' → E (.ref N1) none H') ∧
  (capsOk d h w = true → ∀ (H' : Hp) (p : Addr) (ks : List Addr), Same H H' → SqT K H' p (ks.map V.ref) → RowsT K H' ks (capsOf d h w) → Q (.ref p) H')
section
variable {P : Program} {w : World} {K : PySem.W.Frag} {mg : Str → Option Value} {base : Heap} {C : Nat → Addr} {tG tL : Tok}
theorem sc_is_place : FnScope ["thing", "many"] ["thing", "many"] (defScope s_is_place) :=
  ⟨rfl, rfl, rfl, by decide +kernel, rfl, by decide +kernel, by decide +kernel⟩
theorem ok_is_place {f : Addr} {fd : FuncData} (F : Fun K "is_place" "is_place" s_is_place f fd) (T : Txt K mg C tG tL) (c_is_whole : Cal P w K mg base CX0 1 "is_whole" ["thing"] (sp_is_whole K)) : FnOk P w K mg base CX0 2 f fd ["thing", "many"] (sp_is_place K) := by
  refine F.ok sc_is_place (fun vs H Q E ⟨v, d, n, e, _⟩ => by rw [e]; rfl) (fun cdv A outer s H vs Q E hr h => ?_)
  obtain ⟨v, d, n, rfl, R, q⟩ := h
  refine ⟨_, (pss_one (ps_ret (pe_and (pe_cal c_is_whole (hr.mono (by decide)) (by rfl) pass0 (pa_cons (pv 0) pa_nil)) (pe_one (pe_chain op_le op_lt pe_int (pv 0) (pv 1)))))), ?_⟩
  refine ⟨v, rfl, v, d, rfl, R, _, rfl, ite2 (fun e => ?_) (fun e => ?_)⟩
  · obtain ⟨i, rfl⟩ := isWhole_int d e
    cases R
    refine ⟨.int i, rfl, 0, i, rfl, rfl, _, rfl, ite2 (fun e => ?_) (fun e => ?_)⟩
    · refine ⟨.int n, rfl, i, n, rfl, rfl, ?_⟩
      have h : isPlace n (.int i) = decide (i < n) := by show (decide (0 ≤ i) && decide (i < n)) = _; rw [e, Bool.true_and]
      rw [h] at q
      exact q
    · have h : isPlace n (.int i) = false := by
        show (decide (0 ≤ i) && decide (i < n)) = _
        rw [Bool.eq_false_iff.mpr e, Bool.false_and]
      rw [h] at q
      exact q
  · have h : isPlace n d = false := by cases d <;> first | rfl | (exact absurd rfl e)
    rw [h] at q
    exact q
theorem sc_is_cap : FnScope ["thing"] ["thing"] (defScope s_is_cap) :=
  ⟨rfl, rfl, rfl, by decide +kernel, rfl, by decide +kernel, by decide +kernel⟩
theorem ok_is_cap {f : Addr} {fd : FuncData} (F : Fun K "is_cap" "is_cap" s_is_cap f fd) (T : Txt K mg C tG tL) (c_is_count : Cal P w K mg base CX0 2 "is_count" ["thing"] (sp_is_count K)) : FnOk P w K mg base CX0 3 f fd ["thing"] (sp_is_cap K) := by
  refine F.ok sc_is_cap (fun vs H Q E ⟨v, d, e, _⟩ => by rw [e]; rfl) (fun cdv A outer s H vs Q E hr h => ?_)
  obtain ⟨v, d, rfl, R, q⟩ := h
  refine ⟨_, (pss_one (ps_ret (pe_or (pe_cmpR op_isN (pv 0) pe_non (nomark _)) (pe_one (pe_cal c_is_count (hr.mono (by decide)) (by rfl) pass0 (pa_cons (pv 0) pa_nil)))))), ?_⟩
  refine ⟨v, rfl, rfl, _, rfl, ite2 (fun e => ?_) (fun e => ?_)⟩
  · obtain rfl := of_decide_eq_true e
    cases R
    exact q
  · have hn : d ≠ .non := fun z => by
      subst z
      cases R
      exact e (decide_eq_true rfl)
    refine ⟨v, rfl, v, d, rfl, R, ?_⟩
    have h : isCap d = isCount d := by cases d <;> first | rfl | (exact absurd rfl hn)
    rw [h] at q
    exact q
theorem sc_are_rows : FnScope ["thing", "height", "width", "row"] ["thing", "height", "width"] (defScope s_are_rows) :=
  ⟨rfl, rfl, rfl, by decide +kernel, rfl, by decide +kernel, by decide +kernel⟩
theorem ok_are_rows {f : Addr} {fd : FuncData} (F : Fun K "are_rows" "are_rows" s_are_rows f fd) (T : Txt K mg C tG tL) (c_is_list : Cal P w K mg base CX0 1 "is_list" ["thing"] (sp_is_list K)) :
    FnOk P w K mg base CX0 2 f fd ["thing", "height", "width"] (sp_are_rows K) := by
  refine F.ok sc_are_rows (fun vs H Q E ⟨v, d, h, n, e, _⟩ => by rw [e]; rfl) (fun cdv A outer s H vs Q E hr hh => ?_)
  obtain ⟨v, d, h, n, rfl, R, h6, q⟩ := hh
  refine ⟨_, (pss_cons (ps_if (PW.pt (pw_or (pt_not (pt_val (pe_cal c_is_list (hr.mono (by decide)) (by rfl) pass0 (pa_cons (pv 0) pa_nil)))) (pw_or1 (pt_cmpR op_ne (pe_callB (len_ofK (K := K) rfl) (by rfl) T.n_len (by decide +kernel) (pa_cons (pv 0) pa_nil)) (pv 1) (nomark _)))))
  (pss_one (ps_ret pe_bl))
  pss_nil)
  (pss_one (ps_ret (pe_callB (allK (K := K) rfl rfl) (by rfl) T.n_all (by decide +kernel) (pa_cons (pe_lcS (own := [("row", 3)]) (by rfl) sc_are_rows.nd (pv 0) mono_var (blkOk_by (own := [("row", 3)]) (N := ["thing", "height", "width", "row"]) (sc := defScope s_are_rows) (by decide +kernel)) (fun _ _ _ _ _ => (pg_name (i := 3) sc_are_rows.nd rfl (by first | exact Or.inl rfl | exact Or.inr rfl))) (fun _ _ _ _ _ => pts_nil) (fun _ _ _ _ _ => (pe_and (pe_cal c_is_list (hr.mono (by decide)) (by rfl) pass0 (pa_cons (pv 3) pa_nil)) (pe_one (pe_cmpR op_eq (pe_callB (len_ofK (K := K) rfl) (by rfl) T.n_len (by decide +kernel) (pa_cons (pv 3) pa_nil)) (pv 2) (nomark _)))))) pa_nil))))), ?_⟩
  refine ⟨v, rfl, v, d, rfl, R, fun H1 s1 => ⟨_, rfl, ?_⟩⟩
  have no : areRows h n d = false → ∀ H', Same H H' → Q (.bl false) H' := fun e H' s' => by have := q H' s'; rw [e] at this; exact this
  cases ed : d.items with
  | none => exact no (by unfold areRows; rw [ed]) H1 s1
  | some l =>
    obtain ⟨a, xs, rfl, hS, hR⟩ := (R.same s1).items_some ed
    have hlen := hR.length
    have hq : areRows h n d = (decide (l.length = h) && l.all (isRow n)) := by unfold areRows; rw [ed]
    refine ⟨.ref a, rfl, a, xs, rfl, hS, .int h, rfl, rfl, _, rfl, ite2 (fun e => ?_) (fun e => ?_)⟩
    · have en : ¬ l.length = h := fun z => by
        rw [decide_eq_true (by rw [hlen, z])] at e
        cases e
      rw [decide_eq_false en, Bool.false_and] at hq
      exact no hq H1 s1
    · have en : l.length = h := by
        cases z : decide (V.int ((xs.length : Nat) : Int) = V.int h) with
        | true =>
          have := V.int.inj (of_decide_eq_true z)
          omega
        | false =>
          rw [z] at e
          exact absurd rfl e
      rw [decide_eq_true en, Bool.true_and] at hq
      refine ⟨.ref a, rfl, a, xs, (fun D i H' => Same H1 H' ∧ H' D = some (.lst (((l.take i).map (isRow n)).map V.bl))), rfl, hS, (fun D nD => ⟨same_upd nD, upd_same⟩), (fun D i H' nD _ p => p.1), (fun D i x H' nD hx p => ?_), (fun D H2 nD p => ?_)⟩
      · obtain ⟨y, hy, rxy⟩ := hR.get hx
        have fin : ∀ H2, Same H' H2 → ∃ xs1, H2 D = some (.lst xs1) ∧ xs1.length < sizeLine ∧ Same H1 (upd H2 D (.lst (xs1 ++ [.bl (isRow n y)]))) ∧ upd H2 D (.lst (xs1 ++ [.bl (isRow n y)])) D = some (.lst (((l.take (i + 1)).map (isRow n)).map V.bl)) := fun H2 s2 => ⟨_, s2 _ _ p.2, by
            rw [List.length_map, List.length_map, List.length_take]
            exact Nat.lt_of_le_of_lt (Nat.le_trans (Nat.min_le_right _ _) (by omega : l.length ≤ 6)) (by decide), fun b o e => by rw [upd_ne (ne_of_none e nD)]; exact s2 _ _ (p.1 b o e), by
            rw [upd_same, List.take_add_one, hy]
            simp⟩
        refine ⟨rfl, x, rfl, x, y, rfl, rxy.same p.1, fun H2 s2 => ⟨_, rfl, ite2 (fun e => ?_) (fun e => ?_)⟩⟩
        · obtain ⟨ly, ely⟩ := Option.isSome_iff_exists.mp e
          obtain ⟨b, ys, rfl, hSb, hRb⟩ := (rxy.same (p.1.trans s2)).items_some ely
          have hb := hRb.length
          have ey : isRow n y = decide (V.int ((ys.length : Nat) : Int) = V.int n) := by
            unfold isRow
            rw [ely]
            exact decide_eq_decide.mpr ⟨fun z => by rw [hb, z], fun z => by have := V.int.inj z; omega⟩
          have fin := fin H2 s2
          rw [ey] at fin
          exact ⟨.ref b, rfl, b, ys, rfl, hSb, .int n, rfl, rfl, fin⟩
        · have ey : isRow n y = false := by
            unfold isRow
            cases z : y.items with
            | none => rfl
            | some l => rw [z] at e; exact absurd rfl e
          have fin := fin H2 s2
          rw [ey] at fin
          exact fin
      · rw [hlen, List.take_length] at p
        refine ⟨D, l.map (isRow n), rfl, .inl (.inl p.2), ?_⟩
        have q2 := q H2 (s1.trans p.1)
        rw [hq] at q2
        rw [List.all_map]
        exact q2
end
end Kp14
set_option Elab.async false
set_option linter.all false
set_option maxRecDepth 100000
set_option maxHeartbeats 4000000
namespace Kp14
open PySem PySem.Spec PyProof.Rows L2 Vf
/-! ### caps that are wanted, frames made and asked -/
open RZ
theorem capsOk_items {d : Dt} {h n : Nat} (e : d ≠ .non) : capsOk d h n = (match d.items with | some l => decide (l.length = h) && l.all (isCapRow n) | none => false) := by cases d <;> first | rfl | exact absurd rfl e
theorem capsOf_items {d : Dt} {h n : Nat} {l : List Dt} (e : d.items = some l) : capsOf d h n = l.map fun r => (r.items.getD []).map capInt := by
  cases d <;> first | (cases e; done) | (cases e; rfl)
theorem flat_single {α : Type} (x : α) : ∀ n : Nat, (List.replicate n [x]).flatten = List.replicate n x
  | 0 => rfl
  | n + 1 => by rw [List.replicate_succ, List.replicate_succ, List.flatten_cons, flat_single x n]; rfl
theorem rep_non (n : Nat) : List.replicate n V.non = (List.replicate n (none : Option Int)).map capV := by rw [List.map_replicate]; rfl
section
variable {P : Program} {w : World} {K : PySem.W.Frag} {mg : Str → Option Value} {base : Heap} {C : Nat → Addr} {tG tL : Tok}
theorem sc_wanted_caps : FnScope ["thing", "height", "width", "row", "item"] ["thing", "height", "width"] (defScope s_wanted_caps) :=
  ⟨rfl, rfl, rfl, by decide +kernel, rfl, by decide +kernel, by decide +kernel⟩
theorem ok_wanted_caps {f : Addr} {fd : FuncData} (F : Fun K "wanted_caps" "wanted_caps" s_wanted_caps f fd) (T : Txt K mg C tG tL) (c_are_rows : Cal P w K mg base CX0 2 "are_rows" ["thing", "height", "width"] (sp_are_rows K)) (c_is_cap : Cal P w K mg base CX0 3 "is_cap" ["thing"] (sp_is_cap K)) :
    FnOk P w K mg base (L2.CX P w) 5 f fd ["thing", "height", "width"] (sp_wanted_caps K (C 1)) := by
  refine F.okX sc_wanted_caps (fun vs H Q E ⟨v, d, h, n, e, _⟩ => by rw [e]; rfl) (fun cdv A outer s H vs Q E hr hh => ?_)
  obtain ⟨v, d, h, n, rfl, R, h1, h6, n1, n6, qE, qQ⟩ := hh
  refine ⟨_, (pss_cons (ps_if (pt_cmpR op_isN (pv 0) pe_non (nomark _))
  (pss_one (ps_ret (pe_op (repUK (K := K) rfl) (pe_tup (pa_cons (pe_op (repUK (K := K) rfl) (pe_tup (pa_cons pe_non pa_nil)) (pv 2)) pa_nil)) (pv 1))))
  pss_nil)
  (pss_cons (ps_if (PW.pt (pw_or (pt_not (pt_val (pe_cal c_are_rows (hr.mono (by decide)) (by rfl) pass0 (pa_cons (pv 0) (pa_cons (pv 1) (pa_cons (pv 2) pa_nil)))))) (pw_or1 (pt_not (pt_val (pe_callB (allK (K := K) rfl rfl) (by rfl) T.n_all (by decide +kernel) (pa_cons (pe_lc2 (own := [("row", 3), ("item", 4)]) (vs1 := [4]) (by rfl) sc_wanted_caps.nd (pi_seqV (K := K) rfl (pv 0)) (blkOk_by (own := [("row", 3), ("item", 4)]) (N := ["thing", "height", "width", "row", "item"]) (sc := defScope s_wanted_caps) (by decide +kernel)) (by decide) (fun _ _ _ _ _ => (pg_name (i := 3) sc_wanted_caps.nd rfl (by first | exact Or.inl rfl | exact Or.inr rfl))) (fun _ _ _ _ _ => pts_nil) (fun _ _ _ _ _ => (pi_seqW (K := K) rfl (pv 3))) (fun _ _ _ _ _ => (pg_name (i := 4) sc_wanted_caps.nd rfl (by first | exact Or.inl rfl | exact Or.inr rfl))) (fun _ _ _ _ _ => pts_nil) (fun _ _ _ _ _ => (pe_cal c_is_cap (hr.mono (by decide)) (by rfl) pass0 (pa_cons (pv 4) pa_nil)))) pa_nil)))))))
  (pss_one (ps_raise rfl (takes_of rfl rfl rfl rfl) (pmk_own PySem.F.excBase_ValueError T.NoCaps.x T.NoCaps.g T.NoCaps.k (raises_own T.NoCaps.b T.NoCaps.t) (by exact rfl))))
  pss_nil)
  (pss_one (ps_ret (pe_callTy (tuple_ofK (K := K) rfl) (by rfl) T.n_tuple (by decide +kernel) (pa_cons (pe_lc (own := [("row", 3)]) (by rfl) sc_wanted_caps.nd (pi_seqV (K := K) rfl (pv 0)) (blkOk_by (own := [("row", 3)]) (N := ["thing", "height", "width", "row", "item"]) (sc := defScope s_wanted_caps) (by decide +kernel)) (fun _ _ _ _ _ => (pg_name (i := 3) sc_wanted_caps.nd rfl (by first | exact Or.inl rfl | exact Or.inr rfl))) (fun _ _ _ _ _ => pts_nil) (fun _ _ _ _ _ => (pe_callTy (tuple_ofK (K := K) rfl) (by rfl) T.n_tuple (by decide +kernel) (pa_cons (pv 3) pa_nil)))) pa_nil)))))), ?_⟩
  refine ⟨v, rfl, rfl, _, rfl, ite2 (fun e => ?_) (fun e => ?_)⟩
  · obtain rfl := of_decide_eq_true e
    cases R
    refine ⟨(by show 1 ≤ sizeLine; decide), fun p np => ⟨.int n, rfl, p, n, [.non], rfl, rfl, SqT.of upd_same, (by simp), by omega, by omega, by simp, fun H1 p1 s1 hp1 => ?_⟩⟩
    refine ⟨(by show 1 ≤ sizeLine; decide), fun p2 np2 => ⟨.int h, rfl, p2, h, [.ref p1], rfl, rfl, SqT.of upd_same, (by simp), by omega, by omega, by simp, fun H3 p3 s3 hp3 => ?_⟩⟩
    rw [flat_single, Int.toNat_natCast] at hp1 hp3
    rw [rep_non] at hp1
    have s2 := same_upd (o := .tup [V.ref p1]) np2
    refine qQ rfl H3 p3 (List.replicate h p1) (((same_upd np).trans s1).trans (s2.trans s3)) ?_ (RowsT.rep (Same.seqT (s2.trans s3) hp1) h)
    rw [List.map_replicate]
    exact hp3
  · have hn : d ≠ .non := fun z => by
      subst z
      cases R
      exact e (decide_eq_true rfl)
    have hq := capsOk_items (h := h) (n := n) hn
    refine ⟨v, rfl, .int h, rfl, .int n, rfl, v, d, h, n, rfl, R, h6, fun H1 s1 => ⟨_, rfl, ?_⟩⟩
    cases er : areRows h n d with
    | false =>
      refine qE ?_ H1 s1
      rw [hq]
      unfold areRows at er
      cases ed : d.items with
      | none => rfl
      | some l =>
        rw [ed] at er
        have er : (decide (l.length = h) && l.all (isRow n)) = false := er
        show (decide (l.length = h) && l.all (isCapRow n)) = false
        rw [all_capRow, ← Bool.and_assoc, er, Bool.false_and]
    | true =>
      obtain ⟨l, ed, en, erow⟩ := areRows_some er
      rw [ed] at hq
      obtain ⟨a, xs, rfl, hS, hR⟩ := (R.same s1).items_some ed
      have hlen := hR.length
      have hq : capsOk d h n = (decide (l.length = h) && l.all (isCapRow n)) := hq
      rw [decide_eq_true en, Bool.true_and] at hq
      have lrow : ∀ y ∈ l, isRow n y = true := fun y hy => List.all_eq_true.mp erow y hy
      have cellsLen : ∀ i, ((l.take i).flatMap fun r => r.items.getD []).length ≤ (l.take i).length * n := fun i => by
        have : ∀ y ∈ l.take i, isRow n y = true := fun y hy => lrow y (List.mem_of_mem_take hy)
        generalize l.take i = lt at this
        clear erow lrow hlen hR hq ed en
        induction lt with
        | nil => simp
        | cons y lt ih =>
          obtain ⟨ly, e1, e2⟩ := isRow_some (this y List.mem_cons_self)
          have := ih fun z hz => this z (List.mem_cons_of_mem _ hz)
          rw [List.flatMap_cons, List.length_append, List.length_cons, Nat.succ_mul, e1]
          show ly.length + _ ≤ _
          omega
      refine ⟨.ref a, rfl, a, xs, rfl, hS, fun J G wk hG => fun D nD => ?_⟩
      refine lc2_it wk (fun i H' => Same H1 H' ∧ H' D = some (.lst ((((l.take i).flatMap fun r => r.items.getD []).map isCap).map V.bl))) ⟨same_upd nD, upd_same⟩ (fun i H' _ p => hG _ p.1) (fun i x H' H'' hi p y => ?_) (fun H2 p => ?_)
      · obtain ⟨rfl, hx⟩ := y
        obtain ⟨y, hy, rxy⟩ := hR.get hx
        obtain ⟨ly, ely, eln⟩ := isRow_some (lrow y (List.mem_of_getElem? hy))
        obtain ⟨b, ys, rfl, hSb, hRb⟩ := rxy.items_some ely
        have hb := hRb.length
        have hi6 : (l.take i).length ≤ 6 := by rw [List.length_take]; omega
        have cl := cellsLen i
        refine ⟨rfl, .ref b, rfl, b, ys, H1, rfl, hSb, p.1, fun J2 G2 wk2 hG2 => ?_⟩
        refine lc2_in wk2 (fun j H3 => Same H1 H3 ∧ H3 D = some (.lst (((((l.take i).flatMap fun r => r.items.getD []) ++ ly.take j).map isCap).map V.bl))) ⟨p.1, by rw [p.2, List.take_zero, List.append_nil]⟩ (fun j H3 _ p3 => hG2 _ p3.1) (fun j x H3 H4 hj p3 y3 => ?_) (fun H3 p3 => ?_)
        · obtain ⟨rfl, hx3⟩ := y3
          obtain ⟨z, hz, rz⟩ := hRb.get hx3
          refine ⟨rfl, x, rfl, x, z, rfl, rz.same p3.1, _, p3.2, ?_, fun b' o e' => ?_, ?_⟩
          · rw [List.length_map, List.length_map, List.length_append, List.length_take]
            have : (l.take i).length * n ≤ 6 * 6 := Nat.mul_le_mul hi6 n6
            exact Nat.lt_of_le_of_lt (show _ ≤ 100 by omega) (by decide)
          · rw [upd_ne (ne_of_none e' nD)]
            exact p3.1 b' o e'
          · rw [upd_same, List.take_add_one, hz]
            simp
        · refine ⟨p3.1, ?_⟩
          rw [p3.2, hb, List.take_length, List.take_add_one, hy, List.flatMap_append]
          simp [ely]
      · rw [hlen, List.take_length] at p
        refine ⟨D, (l.flatMap fun r => r.items.getD []).map isCap, rfl, .inl (.inl p.2), _, rfl, ?_⟩
        have ea : ((l.flatMap fun r => r.items.getD []).map isCap).all id = capsOk d h n := by rw [hq, List.all_map, all_capRow, erow, Bool.true_and]; rfl
        rw [ea]
        cases ec : capsOk d h n with
        | false => exact qE ec H2 (s1.trans p.1)
        | true =>
          rw [hq] at ec
          have hS2 := hS.same p.1
          have hR2 := hR.same p.1
          refine ⟨.ref a, rfl, a, xs, rfl, hS2, fun J3 G3 wk3 hG3 => fun D nD => ?_⟩
          refine lc_it wk3 (fun i H' => Same H2 H' ∧ ∃ ks : List Addr, H' D = some (.lst (ks.map V.ref)) ∧ RowsT K H' ks ((capsOf d h n).take i)) ⟨same_upd nD, [], upd_same, .nil⟩ (fun i H' _ p => hG3 _ p.1) (fun i x H9 H' hi p y => ?_) (fun H' p => ?_)
          · obtain ⟨rfl, hx⟩ := y
            obtain ⟨y, hy, rxy⟩ := hR2.get hx
            have yrow : isCapRow n y = true := List.all_eq_true.mp ec y (List.mem_of_getElem? hy)
            obtain ⟨sm, ks, hks, hrows⟩ := p
            obtain ⟨ly, ely⟩ : ∃ ly, y.items = some ly := by
              cases z : y.items with
              | some l => exact ⟨l, rfl⟩
              | none => unfold isCapRow at yrow; rw [z] at yrow; cases yrow
            have ycaps : ly.all isCap = true := by
              unfold isCapRow at yrow
              rw [ely] at yrow
              have yrow : (decide (ly.length = n) && ly.all isCap) = true := yrow
              rw [Bool.and_eq_true] at yrow
              exact yrow.2
            obtain ⟨b, ys, rfl, hSb, hRb⟩ := (rxy.same sm).items_some ely
            have eys := caps_row hRb ycaps
            have et : (capsOf d h n).take (i + 1) = (capsOf d h n).take i ++ [ly.map capInt] := by
              rw [capsOf_items ed, List.take_add_one, List.getElem?_map, hy]
              show _ ++ [(y.items.getD []).map capInt] = _
              rw [ely]
              rfl
            refine ⟨rfl, .ref b, rfl, b, ys, rfl, ?_⟩
            have small : (ks.map V.ref).length < sizeLine := by
              rw [List.length_map, hrows.length, List.length_take]
              refine Nat.lt_of_le_of_lt (Nat.min_le_right _ _) ?_
              rw [capsOf_items ed, List.length_map, en]
              exact Nat.lt_of_le_of_lt h6 (by decide)
            rcases hSb with hL | hT
            · refine .inl ⟨hL, fun l nl => ?_⟩
              have k1 := same_upd (o := .tup ys) nl
              refine ⟨_, k1 _ _ hks, small, fun b' o e' => ?_, ks ++ [l], by rw [upd_same, List.map_append]; rfl, ?_⟩
              · rw [upd_ne (ne_of_none e' nD)]
                exact k1 _ _ (sm b' o e')
              · rw [et]
                have g : ∀ k xs, SqT K (upd H' l (.tup ys)) k xs → SqT K (upd (upd H' l (.tup ys)) D (.lst (ks.map V.ref ++ [.ref l]))) k xs := fun k xs z => sqT_upd z (k1 _ _ hks) (fun _ z => nomatch z) fun _ _ z => nomatch z
                exact ((hrows.same k1).imp g).append (.cons (g _ _ (by rw [← eys]; exact SqT.of upd_same)) .nil)
            · refine .inr ⟨hT, _, hks, small, fun b' o e' => ?_, ks ++ [b], by rw [upd_same, List.map_append]; rfl, ?_⟩
              · rw [upd_ne (ne_of_none e' nD)]
                exact sm b' o e'
              · rw [et]
                have g : ∀ k xs, SqT K H' k xs → SqT K (upd H' D (.lst (ks.map V.ref ++ [.ref b]))) k xs := fun k xs z => sqT_upd z hks (fun _ z => nomatch z) fun _ _ z => nomatch z
                exact (hrows.imp g).append (.cons (g _ _ (by rw [← eys]; exact hT)) .nil)
          · obtain ⟨sm, ks, hks, hrows⟩ := p
            have ef : (capsOf d h n).take xs.length = capsOf d h n := by
              refine List.take_of_length_le ?_
              rw [capsOf_items ed, List.length_map, hlen]
              exact Nat.le_refl _
            rw [ef] at hrows
            refine ⟨D, ks.map V.ref, rfl, .inl ⟨SqL.of hks, fun l nl => ?_⟩⟩
            have k1 := same_upd (o := .tup (ks.map V.ref)) nl
            exact qQ (by rw [hq]; exact ec) _ l ks ((s1.trans p.1).trans (sm.trans k1)) (SqT.of upd_same) (hrows.same k1)
end
/-! ### the frame's own defs -/
def lenD (d : Dt) : Nat := (d.items.getD []).length
def sp_initF (K : PySem.W.Frag) (CF : Addr) (C : Nat → Addr) : Sp := fun vs H Q E => ∃ (p dx : Addr) (v c g : V) (d e m : Dt), vs = [.ref p, v, c, g] ∧ H p = some (.ins CF dx []) ∧ Rp K H v d ∧ Rp K H c e ∧ Rp K H g m ∧
  ((areCounts d && areCounts e) = false → ∀ H', Same H H' → E (.ref (C 0)) none H') ∧
  ((areCounts d && areCounts e) = true → capsOk m (lenD d) (lenD e) = false → ∀ H', Same H H' → E (.ref (C 1)) none H') ∧
  ((areCounts d && areCounts e) = true → capsOk m (lenD d) (lenD e) = true → ∀ (rs cs : List Int) (H' : Hp), d.items = some (rs.map Dt.int) → e.items = some (cs.map Dt.int) → (∀ b o, H b = some o → b ≠ p → H' b = some o) →
    FrameAt K CF H' p rs cs (capsOf m rs.length cs.length) → Q .non H')
def sp_rows (K : PySem.W.Frag) (CF : Addr) : Sp := fun vs H Q _ => ∃ (p : Addr) (rs cs : List Int) (ms : List (List (Option Int))), vs = [.ref p] ∧ FrameAt K CF H p rs cs ms ∧ ∀ l, H l = none → Q (.ref l) (upd H l (.lst (rs.map V.int)))
def sp_columns (K : PySem.W.Frag) (CF : Addr) : Sp := fun vs H Q _ => ∃ (p : Addr) (rs cs : List Int) (ms : List (List (Option Int))), vs = [.ref p] ∧ FrameAt K CF H p rs cs ms ∧ ∀ l, H l = none → Q (.ref l) (upd H l (.lst (cs.map V.int)))
def sp_caps (K : PySem.W.Frag) (CF : Addr) : Sp := fun vs H Q _ => ∃ (p : Addr) (rs cs : List Int) (ms : List (List (Option Int))), vs = [.ref p] ∧ FrameAt K CF H p rs cs ms ∧ rs.length ≤ 6 ∧ ∀ (H' : Hp) (D : Addr) (ls : List Addr), Same H H' → H D = none → H' D = some (.lst (ls.map V.ref)) → RowsL H H' ls ms → (∀ l ∈ ls, l ≠ D) → Q (.ref D) H'
def sp_cap (K : PySem.W.Frag) (CF : Addr) (C : Nat → Addr) : Sp := fun vs H Q E => ∃ (p : Addr) (rs cs : List Int) (ms : List (List (Option Int))) (v u : V) (d e : Dt), vs = [.ref p, v, u] ∧ FrameAt K CF H p rs cs ms ∧ Rp K H v d ∧ Rp K H u e ∧
  ((isPlace rs.length d && isPlace cs.length e) = false → E (.ref (C 10)) none H) ∧
  (∀ (i j : Nat) (m : List (Option Int)) (c : Option Int), d = .int i → e = .int j → ms[i]? = some m → m[j]? = some c → Q (capV c) H)
theorem counts_len {d : Dt} (h : areCounts d = true) : 1 ≤ lenD d ∧ lenD d ≤ 6 := by
  unfold areCounts at h
  rw [Bool.and_eq_true] at h
  have h := h.1
  unfold isShort at h
  unfold lenD
  cases z : d.items with
  | none => rw [z] at h; cases h
  | some l =>
    rw [z] at h
    have h : (decide (1 ≤ l.length) && decide (l.length ≤ 6)) = true := h
    rw [Bool.and_eq_true, decide_eq_true_eq, decide_eq_true_eq] at h
    exact h
theorem caps_shape {m : Dt} {h n : Nat} (e : capsOk m h n = true) : (capsOf m h n).length = h ∧ ∀ r ∈ capsOf m h n, r.length = n := by
  by_cases z : m = .non
  · subst z
    exact ⟨List.length_replicate, fun r hr => by rw [(List.mem_replicate.mp hr).2, List.length_replicate]⟩
  · rw [capsOk_items z] at e
    cases q : m.items with
    | none => rw [q] at e; cases e
    | some l =>
      rw [q] at e
      have e : (decide (l.length = h) && l.all (isCapRow n)) = true := e
      rw [Bool.and_eq_true, decide_eq_true_eq] at e
      rw [capsOf_items q]
      refine ⟨by rw [List.length_map]; exact e.1, fun r hr => ?_⟩
      obtain ⟨y, hy, rfl⟩ := List.mem_map.mp hr
      have hy := List.all_eq_true.mp e.2 y hy
      unfold isCapRow at hy
      cases q2 : y.items with
      | none => rw [q2] at hy; cases hy
      | some l2 =>
        rw [q2] at hy
        have hy : (decide (l2.length = n) && l2.all isCap) = true := hy
        rw [Bool.and_eq_true, decide_eq_true_eq] at hy
        show ((some l2).getD [] |>.map capInt).length = n
        rw [List.length_map]
        exact hy.1
section
variable {P : Program} {w : World} {K : PySem.W.Frag} {mg : Str → Option Value} {base : Heap} {C : Nat → Addr} {tG tL : Tok} {CF : Addr}
theorem sc_Frame_init : FnScope ["self", "rows", "columns", "caps", "row_sums", "column_sums", "cell_caps"] ["self", "rows", "columns", "caps"] (defScope s_Frame_init) :=
  ⟨rfl, rfl, rfl, by decide +kernel, rfl, by decide +kernel, by decide +kernel⟩
theorem ok_initF {f : Addr} {fd : FuncData} {dvs : List V} (F : FunD K "__init__" "Frame.__init__" (defArgs s_Frame_init) (defBody s_Frame_init) (defScope s_Frame_init) dvs [] f fd) (T : Txt K mg C tG tL) (FT : FrT K mg CF) (c_wanted_sums : Cal P w K mg base (L2.CX P w) 4 "wanted_sums" ["thing"] (sp_wanted_sums K (C 0)))
    (c_wanted_caps : Cal P w K mg base (L2.CX P w) 5 "wanted_caps" ["thing", "height", "width"] (sp_wanted_caps K (C 1))) : FnOk P w K mg base (L2.CX P w) 6 f fd ["self", "rows", "columns", "caps"] (sp_initF K CF C) := by
  refine F.ok sc_Frame_init (fun vs H Q E ⟨p, dx, v, c, g, d, e, m, z, _⟩ => by rw [z]; rfl) (fun cdv A outer s H vs Q E hr h => ?_)
  obtain ⟨p, dx, v, c, g, d, e, m, rfl, hp, Rv, Rc, Rg, q1, q2, q3⟩ := h
  refine ⟨_, (pss_cons (ps_set (i := 4) sc_Frame_init.nd rfl (by first | exact Or.inl rfl | exact Or.inr rfl) (pe_cal c_wanted_sums (hr.mono (by decide)) (by rfl) (passes_call (takes_of rfl rfl rfl rfl) (fun _ _ _ _ h => h)) (pa_cons (pv 1) pa_nil)))
  (pss_cons (ps_set (i := 5) sc_Frame_init.nd rfl (by first | exact Or.inl rfl | exact Or.inr rfl) (pe_cal c_wanted_sums (hr.mono (by decide)) (by rfl) (passes_call (takes_of rfl rfl rfl rfl) (fun _ _ _ _ h => h)) (pa_cons (pv 2) pa_nil)))
  (pss_cons (ps_set (i := 6) sc_Frame_init.nd rfl (by first | exact Or.inl rfl | exact Or.inr rfl) (pe_cal c_wanted_caps (hr.mono (by decide)) (by rfl) (passes_call (takes_of rfl rfl rfl rfl) (fun _ _ _ _ h => h)) (pa_cons (pv 3) (pa_cons (pe_callB (len_ofK (K := K) rfl) (by rfl) T.n_len (by decide +kernel) (pa_cons (pv 4) pa_nil)) (pa_cons (pe_callB (len_ofK (K := K) rfl) (by rfl) T.n_len (by decide +kernel) (pa_cons (pv 5) pa_nil)) pa_nil)))))
  (pss_cons (ps_fld (pv 0) (pv 4) rfl)
  (pss_cons (ps_fld (pv 0) (pv 5) rfl)
  (pss_one (ps_fld (pv 0) (pv 6) rfl))))))), ?_⟩
  refine ⟨v, rfl, v, d, rfl, Rv, fun hd H' s' => q1 (by rw [hd]; rfl) H' s', fun hd rs H1 tr el s1 htr => ?_⟩
  refine ⟨c, rfl, c, e, rfl, Rc.same s1, fun he H' s' => q1 (by rw [he, Bool.and_false]) H' (s1.trans s'), fun he cs H2 tc el2 s2 htc => ?_⟩
  have lr : rs.length = lenD d := by unfold lenD; rw [el]; simp
  have lc : cs.length = lenD e := by unfold lenD; rw [el2]; simp
  have b1 := counts_len hd
  have b2 := counts_len he
  refine ⟨g, rfl, .ref tr, rfl, tr, _, rfl, .inr (Same.seqT s2 htr), .ref tc, rfl, tc, _, rfl, .inr htc, ?_⟩
  refine ⟨g, m, rs.length, cs.length, by rw [List.length_map, List.length_map], Rg.same (s1.trans s2), by omega, by omega, by omega, by omega, fun hm H' s' => q2 (by rw [hd, he]; rfl) (by rw [← lr, ← lc]; exact hm) H' ((s1.trans s2).trans s'), fun hm H3 tk ks s3 htk hks => ?_⟩
  have sA := (s1.trans s2).trans s3
  have hp3 := sA _ _ hp
  refine ⟨_, rfl, _, rfl, p, CF, dx, _, rfl, hp3, FT.cl, FT.nr, (by show 0 < 1000; decide), ?_⟩
  refine ⟨_, rfl, _, rfl, p, CF, dx, _, rfl, upd_same, FT.cl, FT.nc, (by show 1 < 1000; decide), ?_⟩
  have l2 : (putF "column_sums" (.ref tc) (putF "row_sums" (.ref tr) [])).length < 1000 := Nat.lt_of_le_of_lt (length_putF _ _ _) (by show 1 + 1 < 1000; decide)
  refine ⟨_, rfl, _, rfl, p, CF, dx, _, rfl, upd_same, FT.cl, FT.nk, l2, ?_⟩
  rw [upd_upd, upd_upd]
  have g4 : ∀ k xs, SqT K H3 k xs → SqT K (upd H3 p (.ins CF dx (ff (.ref tr) (.ref tc) (.ref tk)))) k xs := fun k xs z => sqT_upd z hp3 (fun _ z => nomatch z) fun _ _ z => nomatch z
  have sh := caps_shape hm
  refine q3 (by rw [hd, he]; rfl) (by rw [← lr, ← lc]; exact hm) rs cs _ el el2 (fun b o e' nb => ?_) ⟨⟨dx, tr, tc, tk, ks, upd_same, g4 _ _ (Same.seqT (s2.trans s3) htr), g4 _ _ (Same.seqT s3 htc), g4 _ _ htk, hks.imp g4⟩, sh.1, sh.2⟩
  rw [upd_ne nb]
  exact sA _ _ e'
theorem sc_Frame_rows : FnScope ["self"] ["self"] (defScope s_Frame_rows) :=
  ⟨rfl, rfl, rfl, by decide +kernel, rfl, by decide +kernel, by decide +kernel⟩
theorem ok_rows {f : Addr} {fd : FuncData} (F : Fun K "rows" "Frame.rows" s_Frame_rows f fd) (T : Txt K mg C tG tL) (FT : FrT K mg CF) : FnOk P w K mg base CX0 1 f fd ["self"] (sp_rows K CF) := by
  refine F.ok sc_Frame_rows (fun vs H Q E ⟨p, rs, cs, ms, e, _⟩ => by rw [e]; rfl) (fun cdv A outer s H vs Q E hr h => ?_)
  obtain ⟨p, rs, cs, ms, rfl, FA, q⟩ := h
  obtain ⟨dx, tr, tc, tk, ks, h1, h2, h3, h4, h5⟩ := FA.ex
  refine ⟨_, (pss_one (ps_ret (pe_callTy (list_ofK (K := K) rfl) (by rfl) T.n_list (by decide +kernel) (pa_cons (pe_fld (pv 0) rfl) pa_nil)))), ?_⟩
  exact ⟨.ref p, rfl, p, CF, dx, _, _, rfl, h1, FT.cl, FT.nr, ff_r _ _ _, tr, _, rfl, .inr h2, fun l nl => q l nl⟩
theorem sc_Frame_columns : FnScope ["self"] ["self"] (defScope s_Frame_columns) :=
  ⟨rfl, rfl, rfl, by decide +kernel, rfl, by decide +kernel, by decide +kernel⟩
theorem ok_columns {f : Addr} {fd : FuncData} (F : Fun K "columns" "Frame.columns" s_Frame_columns f fd) (T : Txt K mg C tG tL) (FT : FrT K mg CF) : FnOk P w K mg base CX0 1 f fd ["self"] (sp_columns K CF) := by
  refine F.ok sc_Frame_columns (fun vs H Q E ⟨p, rs, cs, ms, e, _⟩ => by rw [e]; rfl) (fun cdv A outer s H vs Q E hr h => ?_)
  obtain ⟨p, rs, cs, ms, rfl, FA, q⟩ := h
  obtain ⟨dx, tr, tc, tk, ks, h1, h2, h3, h4, h5⟩ := FA.ex
  refine ⟨_, (pss_one (ps_ret (pe_callTy (list_ofK (K := K) rfl) (by rfl) T.n_list (by decide +kernel) (pa_cons (pe_fld (pv 0) rfl) pa_nil)))), ?_⟩
  exact ⟨.ref p, rfl, p, CF, dx, _, _, rfl, h1, FT.cl, FT.nc, ff_c _ _ _, tc, _, rfl, .inr h3, fun l nl => q l nl⟩
theorem sc_Frame_caps : FnScope ["self", "row"] ["self"] (defScope s_Frame_caps) :=
  ⟨rfl, rfl, rfl, by decide +kernel, rfl, by decide +kernel, by decide +kernel⟩
theorem ok_caps {f : Addr} {fd : FuncData} (F : Fun K "caps" "Frame.caps" s_Frame_caps f fd) (T : Txt K mg C tG tL) (FT : FrT K mg CF) : FnOk P w K mg base CX0 1 f fd ["self"] (sp_caps K CF) := by
  refine F.ok sc_Frame_caps (fun vs H Q E ⟨p, rs, cs, ms, e, _⟩ => by rw [e]; rfl) (fun cdv A outer s H vs Q E hr h => ?_)
  obtain ⟨p, rs, cs, ms, rfl, FA, h6, q⟩ := h
  obtain ⟨dx, tr, tc, tk, ks, h1, h2, h3, h4, h5⟩ := FA.ex
  have hlen := h5.length
  have high := FA.high
  refine ⟨_, (pss_one (ps_ret (pe_lc (own := [("row", 1)]) (by rfl) sc_Frame_caps.nd (pi_tup (pe_fld (pv 0) rfl)) (blkOk_by (own := [("row", 1)]) (N := ["self", "row"]) (sc := defScope s_Frame_caps) (by decide +kernel)) (fun _ _ _ _ _ => (pg_name (i := 1) sc_Frame_caps.nd rfl (by first | exact Or.inl rfl | exact Or.inr rfl))) (fun _ _ _ _ _ => pts_nil) (fun _ _ _ _ _ => (pe_callTy (list_ofK (K := K) rfl) (by rfl) T.n_list (by decide +kernel) (pa_cons (pv 1) pa_nil)))))), ?_⟩
  refine ⟨.ref p, rfl, p, CF, dx, _, _, rfl, h1, FT.cl, FT.nk, ff_k _ _ _, tk, rfl, ⟨_, h4⟩, fun D nD => ?_⟩
  refine lc_tup (K := K) (xs := ks.map V.ref) (fun i H' => Same H H' ∧ ∃ ls : List Addr, H' D = some (.lst (ls.map V.ref)) ∧ RowsL H H' ls (ms.take i) ∧ ∀ l ∈ ls, l ≠ D) ⟨same_upd nD, [], upd_same, .nil, fun _ z => nomatch z⟩ (fun i H' _ p => Same.seqT p.1 h4) (fun i x H' hx p => ?_) (fun H' p => ?_)
  · obtain ⟨sm, ls, hls, hrows, hne⟩ := p
    obtain ⟨k, hk, rfl⟩ : ∃ k, ks[i]? = some k ∧ x = V.ref k := by
      rw [List.getElem?_map] at hx
      cases e : ks[i]? with
      | none => rw [e] at hx; cases hx
      | some b => rw [e] at hx; exact ⟨b, rfl, (Option.some.inj hx).symm⟩
    obtain ⟨m, hm, hT⟩ := h5.get hk
    refine ⟨rfl, .ref k, rfl, k, _, rfl, .inr (Same.seqT sm hT), fun l nl => ?_⟩
    have nlD : l ≠ D := fun z => by rw [z, hls] at nl; cases nl
    have k1 := same_upd (o := .lst (m.map capV)) nl
    refine ⟨_, k1 _ _ hls, ?_, fun b o e => ?_, ls ++ [l], by rw [upd_same, List.map_append]; rfl, ?_, fun y hy => ?_⟩
    · rw [List.length_map, hrows.length, List.length_take]
      exact Nat.lt_of_le_of_lt (Nat.le_trans (Nat.min_le_right _ _) (by omega : ms.length ≤ 6)) (by decide)
    · rw [upd_ne (ne_of_none e nD)]
      exact k1 _ _ (sm b o e)
    · rw [List.take_add_one, hm]
      refine (hrows.keep fun b o e1 e2 hb => ?_).append (.cons (sm.free nl) ?_ .nil)
      · rw [upd_ne (hne b hb)]
        exact k1 _ _ e2
      · rw [upd_ne nlD, upd_same]
    · rcases List.mem_append.mp hy with z | z
      · exact hne y z
      · obtain rfl : y = l := by simpa using z
        exact nlD
  · obtain ⟨sm, ls, hls, hrows, hne⟩ := p
    rw [List.length_map, hlen, List.take_length] at hrows
    exact q H' D ls sm nD hls hrows hne
theorem sc_Frame_cap : FnScope ["self", "row", "column"] ["self", "row", "column"] (defScope s_Frame_cap) :=
  ⟨rfl, rfl, rfl, by decide +kernel, rfl, by decide +kernel, by decide +kernel⟩
theorem ok_cap {f : Addr} {fd : FuncData} (F : Fun K "cap" "Frame.cap" s_Frame_cap f fd) (T : Txt K mg C tG tL) (FT : FrT K mg CF) (c_is_place : Cal P w K mg base CX0 2 "is_place" ["thing", "many"] (sp_is_place K)) : FnOk P w K mg base (L2.CX P w) 3 f fd ["self", "row", "column"] (sp_cap K CF C) := by
  refine F.okX sc_Frame_cap (fun vs H Q E ⟨p, rs, cs, ms, v, u, d, e, z, _⟩ => by rw [z]; rfl) (fun cdv A outer s H vs Q E hr h => ?_)
  obtain ⟨p, rs, cs, ms, v, u, d, e, rfl, FA, Rv, Ru, qE, qQ⟩ := h
  obtain ⟨dx, tr, tc, tk, ks, h1, h2, h3, h4, h5⟩ := FA.ex
  refine ⟨_, (pss_cons (ps_if (PW.pt (pw_or (pt_not (pt_val (pe_cal c_is_place (hr.mono (by decide)) (by rfl) pass0 (pa_cons (pv 1) (pa_cons (pe_callB (len_ofK (K := K) rfl) (by rfl) T.n_len (by decide +kernel) (pa_cons (pe_fld (pv 0) rfl) pa_nil)) pa_nil))))) (pw_or1 (pt_not (pt_val (pe_cal c_is_place (hr.mono (by decide)) (by rfl) pass0 (pa_cons (pv 2) (pa_cons (pe_callB (len_ofK (K := K) rfl) (by rfl) T.n_len (by decide +kernel) (pa_cons (pe_fld (pv 0) rfl) pa_nil)) pa_nil))))))))
  (pss_one (ps_raise rfl (takes_of rfl rfl rfl rfl) (pmk_own PySem.F.excBase_ValueError T.NoCell.x T.NoCell.g T.NoCell.k (raises_own T.NoCell.b T.NoCell.t) (by exact rfl))))
  pss_nil)
  (pss_one (ps_ret (pe_ix (ix_tupK (K := K) rfl) (pe_ix (ix_tupK (K := K) rfl) (pe_fld (pv 0) rfl) (pv 1) (fun _ _ => rfl)) (pv 2) (fun _ _ => rfl))))), ?_⟩
  refine ⟨v, rfl, .ref p, rfl, p, CF, dx, _, _, rfl, h1, FT.cl, FT.nr, ff_r _ _ _, tr, _, rfl, .inr h2, v, d, rs.length, by rw [List.length_map], Rv, _, rfl, ?_⟩
  cases e1 : isPlace rs.length d with
  | false => exact qE (by rw [e1]; rfl)
  | true =>
    refine ⟨u, rfl, .ref p, rfl, p, CF, dx, _, _, rfl, h1, FT.cl, FT.nc, ff_c _ _ _, tc, _, rfl, .inr h3, u, e, cs.length, by rw [List.length_map], Ru, _, rfl, ?_⟩
    cases e2 : isPlace cs.length e with
    | false => exact qE (by rw [e1, e2]; rfl)
    | true =>
      obtain ⟨i, rfl, hi⟩ : ∃ i : Nat, d = .int i ∧ i < rs.length := by
        cases d with
        | int z =>
          have e1 : (decide (0 ≤ z) && decide (z < (rs.length : Nat))) = true := e1
          rw [Bool.and_eq_true, decide_eq_true_eq, decide_eq_true_eq] at e1
          exact ⟨z.toNat, by rw [Int.toNat_of_nonneg e1.1], by omega⟩
        | _ => cases e1
      obtain ⟨j, rfl, hj⟩ : ∃ i : Nat, e = .int i ∧ i < cs.length := by
        cases e with
        | int z =>
          have e2 : (decide (0 ≤ z) && decide (z < (cs.length : Nat))) = true := e2
          rw [Bool.and_eq_true, decide_eq_true_eq, decide_eq_true_eq] at e2
          exact ⟨z.toNat, by rw [Int.toNat_of_nonneg e2.1], by omega⟩
        | _ => cases e2
      cases Rv
      cases Ru
      have hik : i < ks.length := by rw [h5.length, FA.high]; exact hi
      obtain ⟨m, hm, hT⟩ := h5.get (List.getElem?_eq_getElem hik)
      have hjm : j < m.length := by rw [FA.wide m (List.mem_of_getElem? hm)]; exact hj
      refine ⟨.ref p, rfl, p, CF, dx, _, _, rfl, h1, FT.cl, FT.nk, ff_k _ _ _, .int i, rfl, tk, _, i, .ref ks[i], rfl, rfl, h4, atI_nat (by rw [List.getElem?_map, List.getElem?_eq_getElem hik]; rfl), ?_⟩
      exact ⟨.int j, rfl, ks[i], _, j, capV m[j], rfl, rfl, hT, atI_nat (by rw [List.getElem?_map, List.getElem?_eq_getElem hjm]; rfl), qQ i j m m[j] rfl rfl hm (List.getElem?_eq_getElem hjm)⟩
end
end Kp14
set_option Elab.async false
set_option linter.all false
set_option maxRecDepth 100000
set_option maxHeartbeats 4000000
namespace Kp14
open PySem PySem.Spec PyProof.Rows L2 Vf
/-! ### the law's own draws -/
def sp_cell_at (K : PySem.W.Frag) : Sp := fun vs H Q _ => ∃ (a : Addr) (ns : List Int) (k : Nat), vs = [.ref a, .int k] ∧ SqL K H a (ns.map V.int) ∧ Q (.int (ns.getD k 0)) H
def sp_tape : Sp := fun vs H Q _ => ∃ z : Int, vs = [.int z] ∧ ∀ (H' : Hp) (p : Addr) (n : Int), Same H H' → H p = none → H' p = some (.lst [.int n]) → Q (.ref p) H'
def sp_digit : Sp := fun vs H Q _ => ∃ (t : Addr) (n m : Int), vs = [.ref t, .int m] ∧ H t = some (.lst [.int n]) ∧ 0 < m ∧ m < 1000000000000000000000000 ∧ ∀ d n' : Int, 0 ≤ d → d < m → Q (.int d) (upd H t (.lst [.int n']))
section
variable {P : Program} {w : World} {K : PySem.W.Frag} {mg : Str → Option Value} {base : Heap} {C : Nat → Addr} {tG tL : Tok}
theorem sc_l_cell_at : FnScope ["_law_script", "_law_k"] ["_law_script", "_law_k"] (defScope s_l_cell_at) :=
  ⟨rfl, rfl, rfl, by decide +kernel, rfl, by decide +kernel, by decide +kernel⟩
theorem ok_cell_at {f : Addr} {fd : FuncData} (F : Fun K "_law_cell_at" "_law_cell_at" s_l_cell_at f fd) (T : Txt K mg C tG tL) : FnOk P w K mg base CX0 1 f fd ["_law_script", "_law_k"] (sp_cell_at K) := by
  refine F.ok sc_l_cell_at (fun vs H Q E ⟨a, ns, k, e, _⟩ => by rw [e]; rfl) (fun cdv A outer s H vs Q E hr h => ?_)
  obtain ⟨a, ns, k, rfl, hS, q⟩ := h
  refine ⟨_, (pss_cons (ps_if (pt_cmpR op_lt (pv 1) (pe_callB (len_ofK (K := K) rfl) (by rfl) T.n_len (by decide +kernel) (pa_cons (pv 0) pa_nil)) (nomark _))
  (pss_one (ps_ret (pe_ix (ix_listK (K := K) rfl) (pv 0) (pv 1) (fun _ _ => rfl))))
  pss_nil)
  (pss_one (ps_ret pe_int))), ?_⟩
  refine ⟨.int k, rfl, .ref a, rfl, a, _, rfl, .inl hS, k, _, rfl, rfl, _, rfl, ite2 (fun e => ?_) (fun e => ?_)⟩
  · have h : k < ns.length := by
      have := of_decide_eq_true e
      rw [List.length_map] at this
      omega
    refine ⟨.ref a, rfl, .int k, rfl, a, _, k, .int ns[k], rfl, rfl, hS, atI_nat (by rw [List.getElem?_map, List.getElem?_eq_getElem h]; rfl), ?_⟩
    rw [List.getD_eq_getElem?_getD, List.getElem?_eq_getElem h] at q
    exact q
  · have h : ns.length ≤ k := by
      rcases Nat.lt_or_ge k ns.length with z | z
      · exact absurd (decide_eq_true (by rw [List.length_map]; omega)) e
      · exact z
    rw [List.getD_eq_getElem?_getD, List.getElem?_eq_none h] at q
    exact q
theorem sc_l_digit : FnScope ["_law_tape_here", "_law_size", "_law_digit_here"] ["_law_tape_here", "_law_size"] (defScope s_l_digit) :=
  ⟨rfl, rfl, rfl, by decide +kernel, rfl, by decide +kernel, by decide +kernel⟩
theorem ok_digit {f : Addr} {fd : FuncData} (F : Fun K "_law_digit" "_law_digit" s_l_digit f fd) (T : Txt K mg C tG tL) : FnOk P w K mg base CX0 1 f fd ["_law_tape_here", "_law_size"] sp_digit := by
  refine F.ok sc_l_digit (fun vs H Q E ⟨t, n, m, e, _⟩ => by rw [e]; rfl) (fun cdv A outer s H vs Q E hr h => ?_)
  obtain ⟨t, n, m, rfl, ht, m0, m1, q⟩ := h
  refine ⟨_, (pss_cons (ps_set (i := 2) sc_l_digit.nd rfl (by first | exact Or.inl rfl | exact Or.inr rfl) (pe_op op_mod (pe_ix (ix_listK (K := K) rfl) (pv 0) pe_int (fun _ _ => rfl)) (pv 1)))
  (pss_cons (ps_asg (pe_op op_fdivW (pe_ix (ix_listK (K := K) rfl) (pv 0) pe_int (fun _ _ => rfl)) (pv 1)) (pg_sub (pv 0) pe_int set_list))
  (pss_one (ps_ret (pv 2))))), ?_⟩
  refine ⟨.ref t, rfl, t, _, 0, .int n, rfl, rfl, SqL.of ht, atI_nat (j := 0) rfl, .int m, rfl, n, m, rfl, rfl, m0, ?_⟩
  refine ⟨.ref t, rfl, t, _, 0, .int n, rfl, rfl, SqL.of ht, atI_nat (j := 0) rfl, .int m, rfl, n, m, rfl, rfl, wide_div m0 (b := 100) ?_ (by decide) (by decide), ?_⟩
  · have e : (2 : Nat) ^ 100 = 1267650600228229401496703205376 := by decide +kernel
    rw [e]
    omega
  · exact ⟨.ref t, rfl, t, _, 0, 0, rfl, rfl, ht, rfl, _, rfl, q _ _ (Int.emod_nonneg _ (by omega)) (Int.emod_lt_of_pos _ m0)⟩
theorem sc_l_tape : FnScope ["_law_cell", "_law_number_here", "_law_found", "_law_k"] ["_law_cell"] (defScope s_l_tape) :=
  ⟨rfl, rfl, rfl, by decide +kernel, rfl, by decide +kernel, by decide +kernel⟩
theorem ok_tape {f : Addr} {fd : FuncData} (F : Fun K "_law_tape" "_law_tape" s_l_tape f fd) (T : Txt K mg C tG tL) : FnOk P w K mg base CX0 1 f fd ["_law_cell"] sp_tape := by
  refine F.ok sc_l_tape (fun vs H Q E ⟨z, e, _⟩ => by rw [e]; rfl) (fun cdv A outer s H vs Q E hr h => ?_)
  obtain ⟨z, rfl, q⟩ := h
  have pw : CPow 10 18 := ⟨by decide, by decide, by decide⟩
  refine ⟨_, (pss_cons (ps_if (pt_cmpR op_ge (pv 0) (pe_op op_pow pe_int pe_int) (nomark _))
  (pss_one (ps_ret (pe_lst (pa_cons (pe_op op_sub (pv 0) (pe_op op_pow pe_int pe_int)) pa_nil))))
  pss_nil)
  (pss_cons (ps_set (i := 1) sc_l_tape.nd rfl (by first | exact Or.inl rfl | exact Or.inr rfl) (pe_op op_mod (pe_op op_add (pe_op op_mul (pe_op op_mod (pv 0) pe_int) pe_int) pe_int) pe_int))
  (pss_cons (ps_set (i := 2) sc_l_tape.nd rfl (by first | exact Or.inl rfl | exact Or.inr rfl) pe_int)
  (pss_cons (ps_for PassesOwn.never rfl (pi_range1 (by rfl) T.n_range (pa_cons pe_int pa_nil))
  (pg_name (i := 3) sc_l_tape.nd rfl (by first | exact Or.inl rfl | exact Or.inr rfl))
  (pss_cons (ps_set (i := 1) sc_l_tape.nd rfl (by first | exact Or.inl rfl | exact Or.inr rfl) (pe_op op_mod (pe_op op_add (pe_op op_add (pe_op op_mul (pv 1) pe_int) (pv 3)) pe_int) pe_int))
  (pss_one (ps_set (i := 2) sc_l_tape.nd rfl (by first | exact Or.inl rfl | exact Or.inr rfl) (pe_op op_add (pe_op op_mul (pv 2) pe_int) (pv 1))))))
  (pss_one (ps_ret (pe_lst (pa_cons (pv 2) pa_nil)))))))), ?_⟩
  refine ⟨.int z, rfl, 10, 18, rfl, rfl, pw, z, _, rfl, rfl, _, rfl, ite2 (fun e => ?_) (fun e => ?_)⟩
  · exact ⟨.int z, rfl, 10, 18, rfl, rfl, pw, z, _, rfl, rfl, (by show 1 ≤ sizeLine; decide), fun p np => q _ p _ (same_upd np) np upd_same⟩
  · refine ⟨.int z, rfl, z, _, rfl, rfl, (by show (0 : Int) < 2147483629; decide), _, _, rfl, rfl, .inr ⟨by decide, by decide⟩, _, _, rfl, rfl, _, _, rfl, rfl, (by show (0 : Int) < 2147483647; decide), ?_⟩
    refine ⟨32, rfl, by decide, by decide, for_range (n := 32) (fun i σ H' => H' = H ∧ ∃ (a b : Int) (v : Option V), σ = [some (.int z), some (.int a), some (.int b), v]) ⟨rfl, _, _, none, rfl⟩ (fun i σ H' hi p => ?_) (fun σ H' p => ?_)⟩
    · obtain ⟨rfl, a, b, v, rfl⟩ := p
      refine ⟨.int a, rfl, a, _, rfl, rfl, .inr ⟨by decide, by decide⟩, _, rfl, _, _, rfl, rfl, _, _, rfl, rfl, _, _, rfl, rfl, (by show (0 : Int) < 2147483647; decide), ?_⟩
      refine ⟨.int b, rfl, b, _, rfl, rfl, .inr ⟨by decide, by decide⟩, _, rfl, _, _, rfl, rfl, rfl, _, _, _, rfl⟩
    · obtain ⟨rfl, a, b, v, rfl⟩ := p
      exact ⟨.int b, rfl, (by show 1 ≤ sizeLine; decide), fun p np => q _ p _ (same_upd np) np upd_same⟩
end
end Kp14
set_option Elab.async false
set_option linter.all false
set_option maxRecDepth 100000
set_option maxHeartbeats 4000000
namespace Kp14
open PySem PySem.Spec PyProof.Rows L2 Vf
/-! ### tables: their form -/
def toI : Dt → Int
  | .int i => i
  | _ => 0
def rowI (d : Dt) : List Int := (d.items.getD []).map toI
def formOf (d : Dt) : List (List Int) := (d.items.getD []).map rowI
def isForm (d : Dt) : Bool := isShort d && (d.items.getD []).all areCounts && (d.items.getD []).all fun r => decide (lenD r = lenD ((d.items.getD []).headD .non))
theorem short_some {d : Dt} (h : isShort d = true) : ∃ l, d.items = some l ∧ 1 ≤ l.length ∧ l.length ≤ 6 := by
  unfold isShort at h
  cases z : d.items with
  | none => rw [z] at h; cases h
  | some l =>
    rw [z] at h
    have h : (decide (1 ≤ l.length) && decide (l.length ≤ 6)) = true := h
    rw [Bool.and_eq_true, decide_eq_true_eq, decide_eq_true_eq] at h
    exact ⟨l, rfl, h.1, h.2⟩
theorem toI_int (ns : List Int) : (ns.map Dt.int).map toI = ns := by
  rw [List.map_map]
  exact (List.map_congr_left fun c _ => rfl).trans (List.map_id ns)
/-- a row of counts, as it stands -/
theorem counts_row {K : PySem.W.Frag} {H : Hp} {v : V} {d : Dt} (R : Rp K H v d) (h : areCounts d = true) : ∃ a, v = .ref a ∧ SqV K H a ((rowI d).map V.int) ∧ d.items = some ((rowI d).map Dt.int) ∧ (rowI d).length = lenD d ∧ ∀ n ∈ rowI d, 0 ≤ n ∧ n ≤ 1000000000000 := by
  unfold areCounts at h
  rw [Bool.and_eq_true] at h
  obtain ⟨l, el, _, _⟩ := short_some h.1
  rw [el] at h
  obtain ⟨ns, e, hb⟩ := all_counts (show l.all isCount = true from h.2)
  obtain ⟨a, xs, rfl, hS, hR⟩ := R.items_some el
  have er : rowI d = ns := by unfold rowI; rw [el, e]; exact toI_int ns
  have ex : xs = ns.map V.int := by
    rw [e] at hR
    clear hS el h er e
    induction ns generalizing xs with
    | nil => cases hR; rfl
    | cons n ns ih =>
      cases hR with
      | cons h r =>
        cases h
        rw [ih (fun x hx => hb x (List.mem_cons_of_mem _ hx)) _ r]
        rfl
  rw [ex] at hS
  refine ⟨a, rfl, by rw [er]; exact hS, by rw [er, el, e], ?_, by rw [er]; exact hb⟩
  rw [er]
  unfold lenD
  rw [el, e]
  simp
/-- the form, taken apart -/
structure FormAt (d : Dt) (l : List Dt) (wd : Nat) : Prop where
  el : d.items = some l
  l1 : 1 ≤ l.length
  l6 : l.length ≤ 6
  rows : ∀ r ∈ l, areCounts r = true ∧ lenD r = wd
  w1 : 1 ≤ wd
  w6 : wd ≤ 6
theorem form_at {d : Dt} (h : isForm d = true) : ∃ l wd, FormAt d l wd := by
  unfold isForm at h
  rw [Bool.and_eq_true, Bool.and_eq_true] at h
  obtain ⟨⟨h1, h2⟩, h3⟩ := h
  obtain ⟨l, el, l1, l6⟩ := short_some h1
  rw [el] at h2 h3
  have h2 : l.all areCounts = true := h2
  have h3 : (l.all fun r => decide (lenD r = lenD (l.headD .non))) = true := h3
  cases l with
  | nil => exact absurd l1 (by decide)
  | cons r0 l =>
    have a0 := List.all_eq_true.mp h2 r0 List.mem_cons_self
    refine ⟨_, lenD r0, el, l1, l6, fun r hr => ⟨List.all_eq_true.mp h2 r hr, of_decide_eq_true (List.all_eq_true.mp h3 r hr)⟩, (counts_len a0).1, (counts_len a0).2⟩
theorem FormAt.form {d : Dt} {l : List Dt} {wd : Nat} (F : FormAt d l wd) : formOf d = l.map rowI := by unfold formOf; rw [F.el]; rfl
/-- rows, each a list or a tuple of ints -/
inductive RowsS (K : PySem.W.Frag) (H : Hp) : List Addr → List (List Int) → Prop
  | nil : RowsS K H [] []
  | cons {a : Addr} {as : List Addr} {r : List Int} {tb : List (List Int)} : SqV K H a (r.map V.int) → RowsS K H as tb → RowsS K H (a :: as) (r :: tb)
theorem RowsS.same {K : PySem.W.Frag} {H H' : Hp} (s : Same H H') : ∀ {as : List Addr} {tb : List (List Int)}, RowsS K H as tb → RowsS K H' as tb
  | _, _, .nil => .nil
  | _, _, .cons h r => .cons (h.same s) (RowsS.same s r)
theorem RowsS.length {K : PySem.W.Frag} {H : Hp} : ∀ {as : List Addr} {tb : List (List Int)}, RowsS K H as tb → as.length = tb.length
  | _, _, .nil => rfl
  | _, _, .cons _ r => congrArg (· + 1) (RowsS.length r)
theorem RowsS.get {K : PySem.W.Frag} {H : Hp} : ∀ {as : List Addr} {tb : List (List Int)} {i : Nat} {a : Addr}, RowsS K H as tb → as[i]? = some a → ∃ r, tb[i]? = some r ∧ SqV K H a (r.map V.int)
  | _, _, _, _, .nil, e => by simp at e
  | _, _, 0, _, .cons h _, e => by
    obtain rfl := Option.some.inj e
    exact ⟨_, rfl, h⟩
  | _, _, i + 1, a, .cons _ r, e => RowsS.get (i := i) (a := a) r e
theorem rows_form {K : PySem.W.Frag} {H : Hp} {wd : Nat} : ∀ {xs : List V} {l : List Dt}, RpL K H xs l → (∀ r ∈ l, areCounts r = true ∧ lenD r = wd) → ∃ as : List Addr, xs = as.map V.ref ∧ RowsS K H as (l.map rowI) ∧ ∀ r ∈ l.map rowI, r.length = wd ∧ ∀ n ∈ r, 0 ≤ n ∧ n ≤ 1000000000000
  | _, _, .nil, _ => ⟨[], rfl, .nil, fun _ h => by cases h⟩
  | _, _, .cons h r, f => by
    obtain ⟨as, e, R, g⟩ := rows_form r fun x hx => f x (List.mem_cons_of_mem _ hx)
    obtain ⟨a, rfl, hS, _, hl, hb⟩ := counts_row h (f _ List.mem_cons_self).1
    refine ⟨a :: as, by rw [e]; rfl, .cons hS R, fun q hq => ?_⟩
    rcases List.mem_cons.mp hq with rfl | hq
    · exact ⟨hl.trans (f _ List.mem_cons_self).2, hb⟩
    · exact g q hq
/-- a form as it stands -/
structure TabAt (K : PySem.W.Frag) (H : Hp) (v : V) (tb : List (List Int)) (wd : Nat) : Prop where
  ex : ∃ (a : Addr) (as : List Addr), v = .ref a ∧ SqV K H a (as.map V.ref) ∧ RowsS K H as tb
  h1 : 1 ≤ tb.length
  h6 : tb.length ≤ 6
  w1 : 1 ≤ wd
  w6 : wd ≤ 6
  row : ∀ r ∈ tb, r.length = wd ∧ ∀ n ∈ r, 0 ≤ n ∧ n ≤ 1000000000000
theorem tab_at {K : PySem.W.Frag} {H : Hp} {v : V} {d : Dt} (R : Rp K H v d) (h : isForm d = true) : ∃ wd, TabAt K H v (formOf d) wd := by
  obtain ⟨l, wd, F⟩ := form_at h
  obtain ⟨a, xs, rfl, hS, hR⟩ := R.items_some F.el
  obtain ⟨as, rfl, RS, g⟩ := rows_form hR F.rows
  refine ⟨wd, ⟨a, as, rfl, hS, by rw [F.form]; exact RS⟩, by rw [F.form, List.length_map]; exact F.l1, by rw [F.form, List.length_map]; exact F.l6, F.w1, F.w6, by rw [F.form]; exact g⟩
theorem TabAt.same {K : PySem.W.Frag} {H H' : Hp} {v : V} {tb : List (List Int)} {wd : Nat} (T : TabAt K H v tb wd) (s : Same H H') : TabAt K H' v tb wd := by
  obtain ⟨a, as, e, hS, hR⟩ := T.ex
  exact ⟨⟨a, as, e, hS.same s, hR.same s⟩, T.h1, T.h6, T.w1, T.w6, T.row⟩
/-- new lists that hold rows -/
inductive RowsF (H H' : Hp) : List Addr → List (List V) → Prop
  | nil : RowsF H H' [] []
  | cons {k : Addr} {ks : List Addr} {m : List V} {ms : List (List V)} : H k = none → H' k = some (.lst m) → RowsF H H' ks ms → RowsF H H' (k :: ks) (m :: ms)
theorem RowsF.keep {H H1 H2 : Hp} : ∀ {ks : List Addr} {ms : List (List V)}, RowsF H H1 ks ms → (∀ b o, H b = none → H1 b = some (.lst o) → b ∈ ks → H2 b = some (.lst o)) → RowsF H H2 ks ms
  | _, _, .nil, _ => .nil
  | _, _, .cons h1 h2 r, f => .cons h1 (f _ _ h1 h2 List.mem_cons_self) (r.keep fun b o e1 e2 hb => f b o e1 e2 (List.mem_cons_of_mem _ hb))
theorem RowsF.append {H H' : Hp} {ks ks' : List Addr} {ms ms' : List (List V)} : RowsF H H' ks ms → RowsF H H' ks' ms' → RowsF H H' (ks ++ ks') (ms ++ ms')
  | .nil, r => r
  | .cons h1 h2 q, r => .cons h1 h2 (RowsF.append q r)
theorem RowsF.length {H H' : Hp} : ∀ {ks : List Addr} {ms : List (List V)}, RowsF H H' ks ms → ks.length = ms.length
  | _, _, .nil => rfl
  | _, _, .cons _ _ r => congrArg (· + 1) (RowsF.length r)
theorem RowsF.get {H H' : Hp} : ∀ {ks : List Addr} {ms : List (List V)} {i : Nat} {k : Addr}, RowsF H H' ks ms → ks[i]? = some k → ∃ m, ms[i]? = some m ∧ H k = none ∧ H' k = some (.lst m)
  | _, _, _, _, .nil, e => by simp at e
  | _, _, 0, _, .cons h1 h2 _, e => by
    obtain rfl := Option.some.inj e
    exact ⟨_, rfl, h1, h2⟩
  | _, _, i + 1, k, .cons _ _ r, e => RowsF.get (i := i) (k := k) r e
theorem RowsF.fresh {H H' : Hp} : ∀ {ks : List Addr} {ms : List (List V)}, RowsF H H' ks ms → ∀ k ∈ ks, H k = none ∧ ∃ o, H' k = some o
  | _, _, .nil, _, z => nomatch z
  | _, _, .cons h1 h2 r, k, z => by
    rcases List.mem_cons.mp z with rfl | z
    · exact ⟨h1, _, h2⟩
    · exact r.fresh k z
def rowsV (tb : List (List Int)) : List (List V) := tb.map (·.map V.int)
theorem zip_items {i : Nat} : ∀ {tb : List (List Int)} {ys : List V}, (∀ r ∈ tb, i < r.length) → Paired (fun (xs : List V) y => xs[i]? = some y) (rowsV tb) ys → ys = (tb.map fun r => r.getD i 0).map V.int
  | [], _, _, h => by cases h; rfl
  | r :: tb, _, f, h => by
    cases h with
    | cons h q =>
      rw [List.map_cons, List.map_cons, zip_items (fun x hx => f x (List.mem_cons_of_mem _ hx)) q]
      congr 1
      have hi := f r List.mem_cons_self
      rw [List.getElem?_map, List.getElem?_eq_getElem hi] at h
      rw [List.getD_eq_getElem?_getD, List.getElem?_eq_getElem hi]
      exact (Option.some.inj h).symm
def rowSums (tb : List (List Int)) : List Int := tb.map List.sum
def colSums (tb : List (List Int)) (wd : Nat) : List Int := (List.range wd).map fun j => (tb.map fun r => r.getD j 0).sum
/-! ### the promises -/
def sp_has_form (K : PySem.W.Frag) : Sp := fun vs H Q _ => ∃ v d, vs = [v] ∧ Rp K H v d ∧ ∀ H', Same H H' → Q (.bl (isForm d)) H'
def sp_wanted_table (K : PySem.W.Frag) (N2 : Addr) : Sp := fun vs H Q E => ∃ v d, vs = [v] ∧ Rp K H v d ∧ (isForm d = false → ∀ H', Same H H' → E (.ref N2) none H') ∧
  (isForm d = true → ∀ (H' : Hp) (D : Addr) (ls : List Addr), Same H H' → H D = none → H' D = some (.lst (ls.map V.ref)) → RowsF H H' ls (rowsV (formOf d)) → (∀ l ∈ ls, l ≠ D) → Q (.ref D) H')
def sp_table_sums (K : PySem.W.Frag) (N2 : Addr) : Sp := fun vs H Q E => ∃ v d, vs = [v] ∧ Rp K H v d ∧ (isForm d = false → ∀ H', Same H H' → E (.ref N2) none H') ∧
  (isForm d = true → ∀ (H' : Hp) (T a b : Addr) (wd : Nat), (∀ r ∈ formOf d, r.length = wd) → Same H H' → H T = none → H a = none → H b = none → H' T = some (.tup [.ref a, .ref b]) → H' a = some (.lst ((rowSums (formOf d)).map V.int)) → H' b = some (.lst ((colSums (formOf d) wd).map V.int)) → a ≠ b → Q (.ref T) H')
section
variable {P : Program} {w : World} {K : PySem.W.Frag} {mg : Str → Option Value} {base : Heap} {C : Nat → Addr} {tG tL : Tok}
theorem sc_has_table_form : FnScope ["thing", "row"] ["thing"] (defScope s_has_table_form) :=
  ⟨rfl, rfl, rfl, by decide +kernel, rfl, by decide +kernel, by decide +kernel⟩
theorem ok_has_form {f : Addr} {fd : FuncData} (F : Fun K "has_table_form" "has_table_form" s_has_table_form f fd) (T : Txt K mg C tG tL) (c_is_short_list : Cal P w K mg base CX0 2 "is_short_list" ["thing"] (sp_is_short_list K)) (c_are_counts : Cal P w K mg base CX0 3 "are_counts" ["thing"] (sp_are_counts K)) :
    FnOk P w K mg base CX0 4 f fd ["thing"] (sp_has_form K) := by
  refine F.ok sc_has_table_form (fun vs H Q E ⟨v, d, e, _⟩ => by rw [e]; rfl) (fun cdv A outer s H vs Q E hr h => ?_)
  obtain ⟨v, d, rfl, R, q⟩ := h
  refine ⟨_, (pss_cons (ps_if (PW.pt (pw_or (pt_not (pt_val (pe_cal c_is_short_list (hr.mono (by decide)) (by rfl) pass0 (pa_cons (pv 0) pa_nil)))) (pw_or1 (pt_not (pt_val (pe_callB (allK (K := K) rfl rfl) (by rfl) T.n_all (by decide +kernel) (pa_cons (pe_lcS (own := [("row", 1)]) (by rfl) sc_has_table_form.nd (pv 0) mono_var (blkOk_by (own := [("row", 1)]) (N := ["thing", "row"]) (sc := defScope s_has_table_form) (by decide +kernel)) (fun _ _ _ _ _ => (pg_name (i := 1) sc_has_table_form.nd rfl (by first | exact Or.inl rfl | exact Or.inr rfl))) (fun _ _ _ _ _ => pts_nil) (fun _ _ _ _ _ => (pe_cal c_are_counts (hr.mono (by decide)) (by rfl) pass0 (pa_cons (pv 1) pa_nil)))) pa_nil)))))))
  (pss_one (ps_ret pe_bl))
  pss_nil)
  (pss_one (ps_ret (pe_callB (allK (K := K) rfl rfl) (by rfl) T.n_all (by decide +kernel) (pa_cons (pe_lcS (own := [("row", 1)]) (by rfl) sc_has_table_form.nd (pv 0) mono_var (blkOk_by (own := [("row", 1)]) (N := ["thing", "row"]) (sc := defScope s_has_table_form) (by decide +kernel)) (fun _ _ _ _ _ => (pg_name (i := 1) sc_has_table_form.nd rfl (by first | exact Or.inl rfl | exact Or.inr rfl))) (fun _ _ _ _ _ => pts_nil) (fun _ _ _ _ _ => (pe_cmpR op_eq (pe_callB (len_ofK (K := K) rfl) (by rfl) T.n_len (by decide +kernel) (pa_cons (pv 1) pa_nil)) (pe_callB (len_ofK (K := K) rfl) (by rfl) T.n_len (by decide +kernel) (pa_cons (pe_ix (ix_seqK (K := K) rfl) (pv 0) pe_int (fun _ _ => rfl)) pa_nil)) (nomark _)))) pa_nil))))), ?_⟩
  refine ⟨v, rfl, v, d, rfl, R, fun H1 s1 => ⟨_, rfl, ?_⟩⟩
  cases e1 : isShort d with
  | false =>
    have hq : isForm d = false := by unfold isForm; rw [e1]; rfl
    have q2 := q H1 s1
    rw [hq] at q2
    exact q2
  | true =>
    obtain ⟨l, el, l1, l6⟩ := short_some e1
    obtain ⟨a, xs, rfl, hS, hR⟩ := (R.same s1).items_some el
    have hlen := hR.length
    refine ⟨.ref a, rfl, a, xs, (fun D i H' => Same H1 H' ∧ H' D = some (.lst (((l.take i).map areCounts).map V.bl))), rfl, hS, (fun D nD => ⟨same_upd nD, upd_same⟩), (fun D i H' nD _ p => p.1), (fun D i x H' nD hx p => ?_), (fun D H' nD p => ?_)⟩
    · obtain ⟨y, hy, rxy⟩ := hR.get hx
      refine ⟨rfl, x, rfl, x, y, rfl, rxy.same p.1, fun H2 s2 => ⟨_, s2 _ _ p.2, ?_, ?_, ?_⟩⟩
      · rw [List.length_map, List.length_map, List.length_take]
        exact Nat.lt_of_le_of_lt (Nat.le_trans (Nat.min_le_right _ _) l6) (by decide)
      · exact fun b o e => by rw [upd_ne (ne_of_none e nD)]; exact s2 _ _ (p.1 b o e)
      · rw [upd_same, List.take_add_one, hy]
        simp
    · rw [hlen, List.take_length] at p
      refine ⟨D, l.map areCounts, rfl, .inl (.inl p.2), _, rfl, ?_⟩
      rw [List.all_map]
      cases e2 : l.all (id ∘ areCounts) with
      | false =>
        have e2' : l.all areCounts = false := e2
        have hq : isForm d = false := by
          unfold isForm
          rw [el]
          show (isShort d && l.all areCounts && _) = false
          rw [e2', Bool.and_false, Bool.false_and]
        have q2 := q H' (s1.trans p.1)
        rw [hq] at q2
        exact q2
      | true =>
        have e2' : l.all areCounts = true := e2
        cases l with
        | nil => exact absurd l1 (by decide)
        | cons r0 l =>
          have s2 := s1.trans p.1
          have hS2 := hS.same p.1
          have hR2 := hR.same p.1
          have rlen : ∀ x y, Rp K H' x y → areCounts y = true → ∃ b, x = .ref b ∧ SqV K H' b ((rowI y).map V.int) ∧ ((rowI y).map V.int).length = lenD y := fun x y r h => by
            obtain ⟨b, e, hb, _, hl, _⟩ := counts_row r h
            exact ⟨b, e, hb, by rw [List.length_map]; exact hl⟩
          obtain ⟨x0, xs, rfl⟩ : ∃ x0 xs', xs = x0 :: xs' := by cases hR2 with | cons h r => exact ⟨_, _, rfl⟩
          have r0 := (hR2.get (i := 0) rfl)
          obtain ⟨y0, ey0, ry0⟩ := r0
          obtain rfl : r0 = y0 := Option.some.inj ey0
          obtain ⟨b0, rfl, hb0, hl0⟩ := rlen _ _ ry0 (List.all_eq_true.mp e2' _ List.mem_cons_self)
          refine ⟨.ref a, rfl, a, _, (fun D2 i H2 => Same H' H2 ∧ H2 D2 = some (.lst ((((r0 :: l).take i).map fun r => decide (lenD r = lenD r0)).map V.bl))), rfl, hS2, (fun D2 nD2 => ⟨same_upd nD2, upd_same⟩), (fun D2 i H2 nD2 _ p2 => p2.1), (fun D2 i x H2 nD2 hx p2 => ?_), (fun D2 H2 nD2 p2 => ?_)⟩
          · obtain ⟨y, hy, rxy⟩ := hR2.get hx
            obtain ⟨b, rfl, hb, hl⟩ := rlen _ _ rxy (List.all_eq_true.mp e2' _ (List.mem_of_getElem? hy))
            refine ⟨rfl, .ref b, rfl, b, _, rfl, hb.same p2.1, .ref a, rfl, a, _, 0, .ref b0, rfl, rfl, hS2.same p2.1, atI_nat (j := 0) rfl, b0, _, rfl, hb0.same p2.1, rfl, _, p2.2, ?_, ?_, ?_⟩
            · rw [List.length_map, List.length_map, List.length_take]
              exact Nat.lt_of_le_of_lt (Nat.le_trans (Nat.min_le_right _ _) l6) (by decide)
            · exact fun c o e => by rw [upd_ne (ne_of_none e nD2)]; exact p2.1 c o e
            · have ed : decide (V.int (((rowI y).map V.int).length : Nat) = V.int (((rowI r0).map V.int).length : Nat)) = decide (lenD y = lenD r0) := by
                rw [hl, hl0]
                exact decide_eq_decide.mpr ⟨fun z => by have := V.int.inj z; omega, fun z => by rw [z]⟩
              rw [upd_same, List.take_add_one, hy, ed]
              simp
          · rw [← hR2.length] at *
            rw [show (V.ref b0 :: xs).length = (r0 :: l).length from hR2.length, List.take_length] at p2
            refine ⟨D2, _, rfl, .inl (.inl p2.2), ?_⟩
            have hq : isForm d = (r0 :: l).all fun r => decide (lenD r = lenD r0) := by
              unfold isForm
              rw [e1, el]
              show (true && (r0 :: l).all areCounts && (r0 :: l).all fun r => decide (lenD r = lenD r0)) = _
              rw [e2']; rfl
            have q2 := q H2 (s2.trans p2.1)
            rw [hq] at q2
            rw [List.all_map]
            exact q2
end
end Kp14
set_option Elab.async false
set_option linter.all false
set_option maxRecDepth 100000
set_option maxHeartbeats 4000000
namespace Kp14
open PySem PySem.Spec PyProof.Rows L2 Vf
/-! ### tables copied, added up, held against a frame -/
def cellOk (z : Int × Option Int) : Bool := match z.2 with
  | none => true
  | some c => decide (z.1 ≤ c)
def rowWithin (r : List Int) (m : List (Option Int)) : Bool := (r.zip m).all cellOk
def within (tb : List (List Int)) (ms : List (List (Option Int))) : Bool := (tb.zip ms).all fun z => rowWithin z.1 z.2
def widthOf (tb : List (List Int)) : Nat := (tb.headD []).length
def isTab (d : Dt) (rs cs : List Int) (ms : List (List (Option Int))) : Bool := isForm d && (decide (rowSums (formOf d) = rs) && decide (colSums (formOf d) (widthOf (formOf d)) = cs)) && within (formOf d) ms
/-- caps, each row a list -/
inductive RowsM (K : PySem.W.Frag) (H : Hp) : List Addr → List (List (Option Int)) → Prop
  | nil : RowsM K H [] []
  | cons {k : Addr} {ks : List Addr} {m : List (Option Int)} {ms : List (List (Option Int))} : SqL K H k (m.map capV) → RowsM K H ks ms → RowsM K H (k :: ks) (m :: ms)
theorem RowsM.same {K : PySem.W.Frag} {H H' : Hp} (s : Same H H') : ∀ {ks : List Addr} {ms : List (List (Option Int))}, RowsM K H ks ms → RowsM K H' ks ms
  | _, _, .nil => .nil
  | _, _, .cons h r => .cons (s.seq h) (RowsM.same s r)
theorem RowsM.length {K : PySem.W.Frag} {H : Hp} : ∀ {ks : List Addr} {ms : List (List (Option Int))}, RowsM K H ks ms → ks.length = ms.length
  | _, _, .nil => rfl
  | _, _, .cons _ r => congrArg (· + 1) (RowsM.length r)
theorem RowsM.get {K : PySem.W.Frag} {H : Hp} : ∀ {ks : List Addr} {ms : List (List (Option Int))} {i : Nat} {k : Addr}, RowsM K H ks ms → ks[i]? = some k → ∃ m, ms[i]? = some m ∧ SqL K H k (m.map capV)
  | _, _, _, _, .nil, e => by simp at e
  | _, _, 0, _, .cons h _, e => by
    obtain rfl := Option.some.inj e
    exact ⟨_, rfl, h⟩
  | _, _, i + 1, k, .cons _ r, e => RowsM.get (i := i) (k := k) r e
theorem RowsM.ofL {K : PySem.W.Frag} {H H' : Hp} : ∀ {ks : List Addr} {ms : List (List (Option Int))}, RowsL H H' ks ms → RowsM K H' ks ms
  | _, _, .nil => .nil
  | _, _, .cons _ h r => .cons (SqL.of h) (RowsM.ofL r)
def sp_is_within (K : PySem.W.Frag) : Sp := fun vs H Q _ => ∃ (v : V) (b : Addr) (bs : List Addr) (tb : List (List Int)) (wd : Nat) (ms : List (List (Option Int))), vs = [v, .ref b] ∧ TabAt K H v tb wd ∧ SqL K H b (bs.map V.ref) ∧ RowsM K H bs ms ∧ ms.length = tb.length ∧ (∀ m ∈ ms, m.length = wd) ∧ ∀ H', Same H H' → Q (.bl (within tb ms)) H'
def sp_is_table (K : PySem.W.Frag) (CF : Addr) : Sp := fun vs H Q _ => ∃ (fr : Addr) (rs cs : List Int) (ms : List (List (Option Int))) (v : V) (d : Dt), vs = [.ref fr, v] ∧ FrameAt K CF H fr rs cs ms ∧ rs.length ≤ 6 ∧ cs.length ≤ 6 ∧ Rp K H v d ∧ ∀ H', Same H H' → Q (.bl (isTab d rs cs ms)) H'
theorem some_get {α : Type} {xs : List α} {i : Nat} {f : α → V} {x : V} (h : (xs.map f)[i]? = some x) : ∃ y, xs[i]? = some y ∧ x = f y := by
  rw [List.getElem?_map] at h
  cases e : xs[i]? with
  | none => rw [e] at h; cases h
  | some y => rw [e] at h; exact ⟨y, rfl, (Option.some.inj h).symm⟩
theorem take_all {α : Type} {f : α → Bool} {l : List α} {i : Nat} (hi : i < l.length) (h : (l.take i).all f = true) : (l.take (i + 1)).all f = f l[i] := by
  rw [List.take_add_one, List.all_append, h, List.getElem?_eq_getElem hi]
  simp
theorem all_false {α : Type} {f : α → Bool} {l : List α} {i : Nat} (hi : i < l.length) (h : f l[i] = false) : l.all f = false := by
  rw [Bool.eq_false_iff]
  intro z
  rw [List.all_eq_true.mp z _ (List.getElem_mem hi)] at h
  cases h
section
variable {P : Program} {w : World} {K : PySem.W.Frag} {mg : Str → Option Value} {base : Heap} {C : Nat → Addr} {tG tL : Tok} {CF : Addr}
theorem sc_wanted_table : FnScope ["thing", "row"] ["thing"] (defScope s_wanted_table) :=
  ⟨rfl, rfl, rfl, by decide +kernel, rfl, by decide +kernel, by decide +kernel⟩
theorem ok_wanted_table {f : Addr} {fd : FuncData} (F : Fun K "wanted_table" "wanted_table" s_wanted_table f fd) (T : Txt K mg C tG tL) (c_has_table_form : Cal P w K mg base CX0 4 "has_table_form" ["thing"] (sp_has_form K)) :
    FnOk P w K mg base (L2.CX P w) 5 f fd ["thing"] (sp_wanted_table K (C 2)) := by
  refine F.okX sc_wanted_table (fun vs H Q E ⟨v, d, e, _⟩ => by rw [e]; rfl) (fun cdv A outer s H vs Q E hr h => ?_)
  obtain ⟨v, d, rfl, R, qE, qQ⟩ := h
  refine ⟨_, (pss_cons (ps_if (pt_not (pt_val (pe_cal c_has_table_form (hr.mono (by decide)) (by rfl) pass0 (pa_cons (pv 0) pa_nil))))
  (pss_one (ps_raise rfl (takes_of rfl rfl rfl rfl) (pmk_own PySem.F.excBase_ValueError T.NoTable.x T.NoTable.g T.NoTable.k (raises_own T.NoTable.b T.NoTable.t) (by exact rfl))))
  pss_nil)
  (pss_one (ps_ret (pe_lcS (own := [("row", 1)]) (by rfl) sc_wanted_table.nd (pv 0) mono_var (blkOk_by (own := [("row", 1)]) (N := ["thing", "row"]) (sc := defScope s_wanted_table) (by decide +kernel)) (fun _ _ _ _ _ => (pg_name (i := 1) sc_wanted_table.nd rfl (by first | exact Or.inl rfl | exact Or.inr rfl))) (fun _ _ _ _ _ => pts_nil) (fun _ _ _ _ _ => (pe_callTy (list_ofK (K := K) rfl) (by rfl) T.n_list (by decide +kernel) (pa_cons (pv 1) pa_nil))))))), ?_⟩
  refine ⟨v, rfl, v, d, rfl, R, fun H1 s1 => ⟨_, rfl, ?_⟩⟩
  cases e1 : isForm d with
  | false => exact qE e1 H1 s1
  | true =>
    obtain ⟨wd, TA⟩ := tab_at (R.same s1) e1
    obtain ⟨a, as, rfl, hS, hR⟩ := TA.ex
    have hlen := hR.length
    refine ⟨.ref a, rfl, a, _, (fun D i H' => Same H1 H' ∧ ∃ ls : List Addr, H' D = some (.lst (ls.map V.ref)) ∧ RowsF H1 H' ls ((rowsV (formOf d)).take i) ∧ ∀ l ∈ ls, l ≠ D), rfl, hS, (fun D nD => ⟨same_upd nD, [], upd_same, .nil, fun _ z => nomatch z⟩), (fun D i H' nD _ p => p.1), (fun D i x H' nD hx p => ?_), (fun D H' nD p => ?_)⟩
    · obtain ⟨sm, ls, hls, hrows, hne⟩ := p
      obtain ⟨b, hb, rfl⟩ := some_get hx
      obtain ⟨r, hr', hT⟩ := hR.get hb
      refine ⟨rfl, .ref b, rfl, b, _, rfl, hT.same sm, fun l nl => ?_⟩
      have nlD : l ≠ D := fun z => by rw [z, hls] at nl; cases nl
      have k1 := same_upd (o := .lst (r.map V.int)) nl
      refine ⟨_, k1 _ _ hls, ?_, fun c o e => ?_, ls ++ [l], by rw [upd_same, List.map_append]; rfl, ?_, fun y hy => ?_⟩
      · rw [List.length_map, hrows.length, List.length_take]
        unfold rowsV
        rw [List.length_map]
        exact Nat.lt_of_le_of_lt (Nat.le_trans (Nat.min_le_right _ _) TA.h6) (by decide)
      · rw [upd_ne (ne_of_none e nD)]
        exact k1 _ _ (sm c o e)
      · have hi : (rowsV (formOf d))[i]? = some (r.map V.int) := by unfold rowsV; rw [List.getElem?_map, hr']; rfl
        rw [List.take_add_one, hi]
        refine (hrows.keep fun c o e1 e2 hc => ?_).append (.cons (sm.free nl) ?_ .nil)
        · rw [upd_ne (hne c hc)]
          exact k1 _ _ e2
        · rw [upd_ne nlD, upd_same]
      · rcases List.mem_append.mp hy with z | z
        · exact hne y z
        · obtain rfl : y = l := by simpa using z
          exact nlD
    · obtain ⟨sm, ls, hls, hrows, hne⟩ := p
      rw [List.take_of_length_le (by unfold rowsV; rw [List.length_map, List.length_map, hlen]; exact Nat.le_refl _)] at hrows
      refine qQ e1 H' D ls (s1.trans sm) (s1.free nD) hls ?_ hne
      have up : ∀ {ks ms}, RowsF H1 H' ks ms → RowsF H H' ks ms := fun {ks ms} r => by
        induction r with
        | nil => exact .nil
        | cons h1 h2 _ ih => exact .cons (s1.free h1) h2 ih
      exact up hrows
theorem sc_table_sums : FnScope ["table", "rows", "row", "column"] ["table"] (defScope s_table_sums) :=
  ⟨rfl, rfl, rfl, by decide +kernel, rfl, by decide +kernel, by decide +kernel⟩
theorem ok_table_sums {f : Addr} {fd : FuncData} (F : Fun K "table_sums" "table_sums" s_table_sums f fd) (T : Txt K mg C tG tL) (c_wanted_table : Cal P w K mg base (L2.CX P w) 5 "wanted_table" ["thing"] (sp_wanted_table K (C 2))) :
    FnOk P w K mg base (L2.CX P w) 6 f fd ["table"] (sp_table_sums K (C 2)) := by
  refine F.okX sc_table_sums (fun vs H Q E ⟨v, d, e, _⟩ => by rw [e]; rfl) (fun cdv A outer s H vs Q E hr h => ?_)
  obtain ⟨v, d, rfl, R, qE, qQ⟩ := h
  refine ⟨_, (pss_cons (ps_set (i := 1) sc_table_sums.nd rfl (by first | exact Or.inl rfl | exact Or.inr rfl) (pe_cal c_wanted_table (hr.mono (by decide)) (by rfl) (passes_call (takes_of rfl rfl rfl rfl) (fun _ _ _ _ h => h)) (pa_cons (pv 0) pa_nil)))
  (pss_one (ps_ret (pe_tup (pa_cons (pe_lc (own := [("row", 2)]) (by rfl) sc_table_sums.nd (pi_list (pv 1)) (blkOk_by (own := [("row", 2)]) (N := ["table", "rows", "row", "column"]) (sc := defScope s_table_sums) (by decide +kernel)) (fun _ _ _ _ _ => (pg_name (i := 2) sc_table_sums.nd rfl (by first | exact Or.inl rfl | exact Or.inr rfl))) (fun _ _ _ _ _ => pts_nil) (fun _ _ _ _ _ => (pe_callB (sumK (K := K) rfl rfl) (by rfl) T.n_sum (by decide +kernel) (pa_cons (pv 2) pa_nil)))) (pa_cons (pe_lc (own := [("column", 3)]) (by rfl) sc_table_sums.nd (pi_zipS (by rfl) T.n_zip (pv 1)) (blkOk_by (own := [("column", 3)]) (N := ["table", "rows", "row", "column"]) (sc := defScope s_table_sums) (by decide +kernel)) (fun _ _ _ _ _ => (pg_name (i := 3) sc_table_sums.nd rfl (by first | exact Or.inl rfl | exact Or.inr rfl))) (fun _ _ _ _ _ => pts_nil) (fun _ _ _ _ _ => (pe_callB (sumVK (K := K) rfl rfl) (by rfl) T.n_sum (by decide +kernel) (pa_cons (pv 3) pa_nil)))) pa_nil)))))), ?_⟩
  refine ⟨v, rfl, v, d, rfl, R, fun e H' s' => qE e H' s', fun e1 H1 D ls s1 nD hD rowsF hne => ?_⟩
  obtain ⟨wd, TA⟩ := tab_at R e1
  have hlen : ls.length = (formOf d).length := by rw [rowsF.length]; unfold rowsV; rw [List.length_map]
  have nth : ∀ {i k}, ls[i]? = some k → ∃ r : List Int, (formOf d)[i]? = some r ∧ H k = none ∧ H1 k = some (.lst (r.map V.int)) := fun {i k} hk => by
    obtain ⟨m, hm, h1, h2⟩ := rowsF.get hk
    unfold rowsV at hm
    rw [List.getElem?_map] at hm
    cases e : (formOf d)[i]? with
    | none => rw [e] at hm; cases hm
    | some r => rw [e] at hm; obtain rfl := Option.some.inj hm; exact ⟨r, e, h1, h2⟩
  -- the rows' sums
  refine ⟨.ref D, rfl, D, rfl, ⟨_, SqL.of hD⟩, fun A1 nA1 => ?_⟩
  refine lc_list (K := K) (xs := ls.map V.ref) (fun i H' => Same H1 H' ∧ H' A1 = some (.lst (((formOf d).take i).map fun r => V.int r.sum))) ⟨same_upd nA1, upd_same⟩ (fun i H' _ p => p.1.seq (SqL.of hD)) (fun i x H' hx p => ?_) (fun H2 p => ?_)
  · obtain ⟨k, hk, rfl⟩ := some_get hx
    obtain ⟨r, hr', _, hk2⟩ := nth hk
    refine ⟨rfl, .ref k, rfl, k, r, rfl, SqL.of (p.1 _ _ hk2), _, p.2, ?_, fun b o e => ?_, ?_⟩
    · rw [List.length_map, List.length_take]
      exact Nat.lt_of_le_of_lt (Nat.le_trans (Nat.min_le_right _ _) TA.h6) (by decide)
    · rw [upd_ne (ne_of_none e nA1)]; exact p.1 b o e
    · rw [upd_same, List.take_add_one, hr']; simp
  obtain ⟨s2, hA1⟩ := p
  rw [List.take_of_length_le (by rw [List.length_map, hlen]; exact Nat.le_refl _)] at hA1
  -- the columns' sums
  have hD2 := s2 _ _ hD
  have rows2 : ∀ k ∈ ls, ∃ r : List Int, r ∈ formOf d ∧ H2 k = some (.lst (r.map V.int)) := fun k hk => by
    obtain ⟨i, hi⟩ := List.mem_iff_getElem?.mp hk
    obtain ⟨r, hr', _, hk2⟩ := nth hi
    exact ⟨r, List.mem_of_getElem? hr', s2 _ _ hk2⟩
  have prs : ∀ H', Same H2 H' → Paired (SqB K H') (ls.map fun k => (true, k)) (rowsV (formOf d)) := fun H' s' => by
    have up : ∀ {ks ms}, RowsF H H1 ks ms → Paired (SqB K H') (ks.map fun k => (true, k)) ms := fun {ks ms} r => by
      induction r with
      | nil => exact .nil
      | cons h1 h2 _ ih => exact .cons (show SqL K H' _ _ from SqL.of (s' _ _ (s2 _ _ h2))) ih
    exact up rowsF
  have els : (ls.map fun k => (true, k)).map (fun q : Bool × Addr => V.ref q.2) = ls.map V.ref := by rw [List.map_map]; rfl
  have hls0 : ls ≠ [] := fun z => by rw [z] at hlen; have := TA.h1; simp at hlen; omega
  refine ⟨.ref D, rfl, D, ls.map fun k => (true, k), rfl, .inr (by rw [els]; exact SqL.of hD2), ⟨by simpa using hls0, by rw [List.length_map, hlen]; exact TA.h6, fun q hq => ?_⟩, fun B1 nB1 => ?_⟩
  · obtain ⟨k, hk, rfl⟩ := List.mem_map.mp hq
    obtain ⟨r, _, e⟩ := rows2 k hk
    exact ⟨_, show SqL K H2 k _ from SqL.of e⟩
  refine lc_zipN (xss := rowsV (formOf d)) (n := wd) (fun xs hx => ?_) (by simpa using hls0) (fun i H' => Same H2 H' ∧ H' B1 = some (.lst (((List.range i).map fun j => ((formOf d).map fun r => r.getD j 0).sum).map V.int))) ⟨same_upd nB1, upd_same⟩ (fun i H' _ p => prs H' p.1) (fun i Tt ys H' hi pr p nT => ?_) (fun H3 p => ?_)
  · obtain ⟨r, hr', rfl⟩ := List.mem_map.mp hx
    rw [List.length_map]
    exact (TA.row r hr').1
  · have ey := zip_items (fun r hr' => by rw [(TA.row r hr').1]; exact hi) pr
    rw [ey]
    have k1 := same_upd (o := .tup (((formOf d).map fun r => r.getD i 0).map V.int)) nT
    refine ⟨rfl, .ref Tt, rfl, Tt, _, rfl, .inr (SqT.of upd_same), _, k1 _ _ p.2, ?_, fun b o e => ?_, ?_⟩
    · rw [List.length_map, List.length_map, List.length_range]
      exact Nat.lt_of_lt_of_le (Nat.lt_of_lt_of_le hi TA.w6) (by decide)
    · rw [upd_ne (ne_of_none e nB1)]
      exact k1 _ _ (p.1 b o e)
    · rw [upd_same, List.range_succ]; simp
  obtain ⟨s3, hB1⟩ := p
  refine ⟨(by show 2 ≤ sizeLine; decide), fun Tt nT => ?_⟩
  have k3 := same_upd (o := .tup [V.ref A1, .ref B1]) nT
  have nA0 := s1.free nA1
  have sA := s1.trans s2
  have nB0 := sA.free nB1
  refine qQ e1 _ Tt A1 B1 wd (fun r hr' => (TA.row r hr').1) ((sA.trans s3).trans k3) ((sA.trans s3).free nT) nA0 nB0 upd_same (k3 _ _ (s3 _ _ ?_)) (k3 _ _ hB1) (ne_of_none hA1 nB1)
  unfold rowSums
  rw [List.map_map]
  exact hA1
theorem sc_is_within : FnScope ["rows", "caps", "numbers", "row_caps", "number", "cap"] ["rows", "caps"] (defScope s_is_within) :=
  ⟨rfl, rfl, rfl, by decide +kernel, rfl, by decide +kernel, by decide +kernel⟩
theorem ok_is_within {f : Addr} {fd : FuncData} (F : Fun K "is_within" "is_within" s_is_within f fd) (T : Txt K mg C tG tL) : FnOk P w K mg base CX0 1 f fd ["rows", "caps"] (sp_is_within K) := by
  refine F.ok sc_is_within (fun vs H Q E ⟨v, b, bs, tb, wd, ms, e, _⟩ => by rw [e]; rfl) (fun cdv A outer s H vs Q E hr h => ?_)
  obtain ⟨v, b, bs, tb, wd, ms, rfl, TA, hB, hM, hml, hmw, q⟩ := h
  obtain ⟨a, as, rfl, hS, hR⟩ := TA.ex
  obtain ⟨b0, hS⟩ := hS.toB
  have hla := hR.length
  have hlb := hM.length
  refine ⟨_, (pss_cons (ps_for PassesOwn.never rfl (pi_zipN (by rfl) T.n_zip (pa_cons (pv 0) (pa_cons (pv 1) pa_nil)))
  (pg_tup rfl (pgs_cons (pg_name (i := 2) sc_is_within.nd rfl (by first | exact Or.inl rfl | exact Or.inr rfl)) (pgs_cons (pg_name (i := 3) sc_is_within.nd rfl (by first | exact Or.inl rfl | exact Or.inr rfl)) pgs_nil)))
  (pss_one (ps_for PassesOwn.never rfl (pi_zipN (by rfl) T.n_zip (pa_cons (pv 2) (pa_cons (pv 3) pa_nil)))
  (pg_tup rfl (pgs_cons (pg_name (i := 4) sc_is_within.nd rfl (by first | exact Or.inl rfl | exact Or.inr rfl)) (pgs_cons (pg_name (i := 5) sc_is_within.nd rfl (by first | exact Or.inl rfl | exact Or.inr rfl)) pgs_nil)))
  (pss_one (ps_if (PW.pt (pw_and (pt_cmpR op_notN (pv 5) pe_non (nomark _)) (pw_and1 (pt_cmpR op_gt (pv 4) (pv 5) (nomark _)))))
  (pss_one (ps_ret pe_bl))
  pss_nil)))))
  (pss_one (ps_ret pe_bl))), ?_⟩
  refine ⟨.ref a, rfl, .ref b, rfl, [(b0, a), (true, b)], rfl, ⟨by simp, by simp, fun z hz => ?_⟩, ?_⟩
  · rcases List.mem_cons.mp hz with rfl | hz
    · exact ⟨_, hS⟩
    · obtain rfl : z = (true, b) := by simpa using hz
      exact ⟨_, show SqL K H b _ from hB⟩
  refine for_zipN (xss := [as.map V.ref, bs.map V.ref]) (n := tb.length) (fun xs hx => ?_) (by simp) (fun i σ H' => Same H H' ∧ (∃ v2 v3 v4 v5, σ = [some (.ref a), some (.ref b), v2, v3, v4, v5]) ∧ ((tb.zip ms).take i).all (fun z => rowWithin z.1 z.2) = true) ⟨Same.refl _, ⟨none, none, none, none, rfl⟩, rfl⟩ (fun i σ H' _ p => .cons (hS.same p.1) (.cons (show SqL K H' b _ from p.1.seq hB) .nil)) (fun i Tt ys σ H' hi pr p nT => ?_) (fun σ H' p => ?_)
  · rcases List.mem_cons.mp hx with rfl | hx
    · rw [List.length_map]; exact hla
    · obtain rfl : xs = bs.map V.ref := by simpa using hx
      rw [List.length_map, hlb, hml]
  · obtain ⟨s1, ⟨v2, v3, v4, v5, rfl⟩, hall⟩ := p
    cases pr with
    | cons e1 pr =>
      cases pr with
      | cons e2 pr =>
        cases pr
        obtain ⟨ai, ha, rfl⟩ := some_get e1
        obtain ⟨bi, hb, rfl⟩ := some_get e2
        obtain ⟨r, hr', hai⟩ := hR.get ha
        obtain ⟨m, hm', hbi⟩ := hM.get hb
        have hrm := List.mem_of_getElem? hr'
        have hmm := List.mem_of_getElem? hm'
        have k1 := same_upd (o := .tup [V.ref ai, .ref bi]) nT
        have s2 := s1.trans k1
        obtain ⟨b1, hai⟩ := (hai.same s2).toB
        have hbi := s2.seq hbi
        have rl := (TA.row r hrm).1
        have ml := hmw m hmm
        have hiz : i < (tb.zip ms).length := by rw [List.length_zip, hml, Nat.min_self]; exact hi
        have ez : (tb.zip ms)[i] = (r, m) := by
          have h1 := List.getElem?_eq_getElem hiz
          rw [(List.getElem?_zip_eq_some (z := (r, m))).mpr ⟨hr', hm'⟩] at h1
          exact (Option.some.inj h1).symm
        refine ⟨Tt, _, rfl, SqT.of upd_same, rfl, .ref ai, [.ref bi], rfl, .ref bi, [], rfl, rfl, ?_⟩
        refine ⟨.ref ai, rfl, .ref bi, rfl, [(b1, ai), (true, bi)], rfl, ⟨by simp, by simp, fun z hz => ?_⟩, ?_⟩
        · rcases List.mem_cons.mp hz with rfl | hz
          · exact ⟨_, hai⟩
          · obtain rfl : z = (true, bi) := by simpa using hz
            exact ⟨_, show SqL K _ bi _ from hbi⟩
        refine for_zipN (xss := [r.map V.int, m.map capV]) (n := wd) (fun xs hx => ?_) (by simp) (fun j σ H2 => Same (upd H' Tt (.tup [V.ref ai, .ref bi])) H2 ∧ (∃ v4 v5, σ = [some (.ref a), some (.ref b), some (.ref ai), some (.ref bi), v4, v5]) ∧ ((r.zip m).take j).all cellOk = true) ⟨Same.refl _, ⟨_, _, rfl⟩, rfl⟩ (fun j σ H2 _ p => .cons (hai.same p.1) (.cons (show SqL K H2 bi _ from p.1.seq hbi) .nil)) (fun j Tu ys σ H2 hj pr p nT2 => ?_) (fun σ H2 p => ?_)
        · rcases List.mem_cons.mp hx with rfl | hx
          · rw [List.length_map]; exact rl
          · obtain rfl : xs = m.map capV := by simpa using hx
            rw [List.length_map]; exact ml
        · obtain ⟨s3, ⟨v4, v5, rfl⟩, hall2⟩ := p
          cases pr with
          | cons e1 pr =>
            cases pr with
            | cons e2 pr =>
              cases pr
              obtain ⟨x, hx, rfl⟩ := some_get e1
              obtain ⟨c, hc, rfl⟩ := some_get e2
              have k2 := same_upd (o := .tup [V.int x, capV c]) nT2
              have s4 := s3.trans k2
              have hjz : j < (r.zip m).length := by rw [List.length_zip, rl, ml, Nat.min_self]; exact hj
              have ez2 : (r.zip m)[j] = (x, c) := by
                have h1 := List.getElem?_eq_getElem hjz
                rw [(List.getElem?_zip_eq_some (z := (x, c))).mpr ⟨hx, hc⟩] at h1
                exact (Option.some.inj h1).symm
              refine ⟨Tu, _, rfl, SqT.of upd_same, rfl, .int x, [capV c], rfl, capV c, [], rfl, rfl, ?_⟩
              refine ⟨capV c, rfl, rfl, _, rfl, ?_⟩
              cases c with
              | none =>
                refine ⟨s4, ⟨_, _, rfl⟩, ?_⟩
                rw [take_all hjz hall2, ez2]
                rfl
              | some c =>
                refine ⟨.int x, rfl, .int c, rfl, x, c, rfl, rfl, _, rfl, ite2 (fun e => ?_) (fun e => ?_)⟩
                · have e := of_decide_eq_true e
                  have hw : within tb ms = false := all_false hiz (by
                    rw [ez]
                    exact all_false hjz (by rw [ez2]; exact decide_eq_false (by omega)))
                  have q2 := q _ (s2.trans s4)
                  rw [hw] at q2
                  exact q2
                · have e : ¬ c < x := fun z => e (decide_eq_true z)
                  refine ⟨s4, ⟨_, _, rfl⟩, ?_⟩
                  rw [take_all hjz hall2, ez2]
                  exact decide_eq_true (by omega)
        · obtain ⟨s3, ⟨v4, v5, rfl⟩, hall2⟩ := p
          refine ⟨s2.trans s3, ⟨_, _, _, _, rfl⟩, ?_⟩
          rw [take_all hiz hall, ez]
          rw [List.take_of_length_le (by rw [List.length_zip, rl, ml, Nat.min_self]; exact Nat.le_refl _)] at hall2
          exact hall2
  · obtain ⟨s1, ⟨v2, v3, v4, v5, rfl⟩, hall⟩ := p
    rw [List.take_of_length_le (by rw [List.length_zip, hml, Nat.min_self]; exact Nat.le_refl _)] at hall
    have q2 := q H' s1
    rw [show within tb ms = true from hall] at q2
    exact q2
end
/-! ### data of ints, held against each other -/
theorem lay_ints : ∀ rs : List Int, PyData.canLayAll0 (rs.map PyData.int) = true ∧ PyData.depthAll (rs.map PyData.int) = 0
  | [] => ⟨rfl, rfl⟩
  | r :: rs => by
    obtain ⟨h1, h2⟩ := lay_ints rs
    refine ⟨?_, ?_⟩
    · show (PyData.canLay0 (.int r) && PyData.canLayAll0 (rs.map PyData.int)) = true
      rw [h1]; rfl
    · show max (PyData.depth (.int r)) (PyData.depthAll (rs.map PyData.int)) = 0
      rw [h2]; rfl
theorem eqv_ints : ∀ a b : List Int, PyData.eqvAll (a.map PyData.int) (b.map PyData.int) = decide (a = b)
  | [], [] => by rw [decide_eq_true rfl]; rfl
  | [], y :: b => by rw [decide_eq_false (fun z => nomatch z)]; rfl
  | x :: a, [] => by rw [decide_eq_false (fun z => nomatch z)]; rfl
  | x :: a, y :: b => by
    show (PyData.eqv (.int x) (.int y) && PyData.eqvAll (a.map PyData.int) (b.map PyData.int)) = _
    rw [eqv_ints a b]
    show ((x == y) && decide (a = b)) = _
    by_cases h : x = y
    · subst h
      by_cases h2 : a = b
      · subst h2; simp
      · have : ¬ (x :: a = x :: b) := fun z => h2 (List.cons.inj z).2
        simp [h2]
    · have : ¬ (x :: a = y :: b) := fun z => h (List.cons.inj z).1
      simp [h]
def pairD (rs cs : List Int) : PyData := .tuple [.list (rs.map PyData.int), .list (cs.map PyData.int)]
theorem shaped_pair (rs cs : List Int) : SeqAt.shaped (pairD rs cs) = true := by
  show ((PyData.canLayAll0 (rs.map PyData.int) && (PyData.canLayAll0 (cs.map PyData.int) && true)) && decide (max (PyData.depthAll (rs.map PyData.int) + 1) (max (PyData.depthAll (cs.map PyData.int) + 1) 0) + 1 ≤ 64)) = true
  rw [(lay_ints rs).1, (lay_ints cs).1, (lay_ints rs).2, (lay_ints cs).2]
  rfl
theorem eqv_pair (rs cs rs' cs' : List Int) : PyData.eqv (pairD rs cs) (pairD rs' cs') = (decide (rs = rs') && decide (cs = cs')) := by
  show (PyData.eqvAll (rs.map PyData.int) (rs'.map PyData.int) && (PyData.eqvAll (cs.map PyData.int) (cs'.map PyData.int) && true)) = _
  rw [eqv_ints, eqv_ints, Bool.and_true]
theorem dp_intsL {K : PySem.W.Frag} {H : Hp} : ∀ rs : List Int, DpAll K H (rs.map V.int) (rs.map PyData.int)
  | [] => .nil
  | r :: rs => .cons (.int r) (dp_intsL rs)
theorem colSums_length (tb : List (List Int)) (wd : Nat) : (colSums tb wd).length = wd := by unfold colSums; rw [List.length_map, List.length_range]
section
variable {P : Program} {w : World} {K : PySem.W.Frag} {mg : Str → Option Value} {base : Heap} {C : Nat → Addr} {tG tL : Tok} {CF : Addr}
theorem sc_is_table : FnScope ["frame", "thing"] ["frame", "thing"] (defScope s_is_table) :=
  ⟨rfl, rfl, rfl, by decide +kernel, rfl, by decide +kernel, by decide +kernel⟩
theorem ok_is_table {f : Addr} {fd : FuncData} (F : Fun K "is_table" "is_table" s_is_table f fd) (T : Txt K mg C tG tL) (c_has_table_form : Cal P w K mg base CX0 4 "has_table_form" ["thing"] (sp_has_form K)) (c_table_sums : Cal P w K mg base (L2.CX P w) 6 "table_sums" ["table"] (sp_table_sums K (C 2)))
    (c_is_within : Cal P w K mg base CX0 1 "is_within" ["rows", "caps"] (sp_is_within K)) (c_Frame_rows : Mth P w K mg base CX0 1 CF "rows" ["self"] (sp_rows K CF)) (c_Frame_columns : Mth P w K mg base CX0 1 CF "columns" ["self"] (sp_columns K CF))
    (c_Frame_caps : Mth P w K mg base CX0 1 CF "caps" ["self"] (sp_caps K CF)) : FnOk P w K mg base CX0 7 f fd ["frame", "thing"] (sp_is_table K CF) := by
  refine F.ok sc_is_table (fun vs H Q E ⟨fr, rs, cs, ms, v, d, e, _⟩ => by rw [e]; rfl) (fun cdv A outer s H vs Q E hr h => ?_)
  obtain ⟨fr, rs, cs, ms, v, d, rfl, FA, r6, c6, R, q⟩ := h
  refine ⟨_, (pss_cons (ps_if (pt_not (pt_val (pe_cal c_has_table_form (hr.mono (by decide)) (by rfl) pass0 (pa_cons (pv 1) pa_nil))))
  (pss_one (ps_ret pe_bl))
  pss_nil)
  (pss_cons (ps_if (pt_cmpR (op_neDK (K := K) rfl hr.units) (pe_cal c_table_sums (hr.mono (by decide)) (by rfl) passL (pa_cons (pv 1) pa_nil)) (pe_tup (pa_cons (pe_mth0 c_Frame_rows (hr.mono (by decide)) pass0 (pv 0)) (pa_cons (pe_mth0 c_Frame_columns (hr.mono (by decide)) pass0 (pv 0)) pa_nil))) (nomark _))
  (pss_one (ps_ret pe_bl))
  pss_nil)
  (pss_one (ps_ret (pe_cal c_is_within (hr.mono (by decide)) (by rfl) pass0 (pa_cons (pv 1) (pa_cons (pe_mth0 c_Frame_caps (hr.mono (by decide)) pass0 (pv 0)) pa_nil))))))), ?_⟩
  have no1 : ∀ a b c : V, (ff a b c).lookup ("rows" : Str) = none := fun a b c => ff_no a b c (by decide +kernel) (by decide +kernel) (by decide +kernel)
  have no2 : ∀ a b c : V, (ff a b c).lookup ("columns" : Str) = none := fun a b c => ff_no a b c (by decide +kernel) (by decide +kernel) (by decide +kernel)
  have no3 : ∀ a b c : V, (ff a b c).lookup ("caps" : Str) = none := fun a b c => ff_no a b c (by decide +kernel) (by decide +kernel) (by decide +kernel)
  refine ⟨v, rfl, v, d, rfl, R, fun H1 s1 => ⟨_, rfl, ?_⟩⟩
  cases e1 : isForm d with
  | false =>
    have q2 := q H1 s1
    rw [show isTab d rs cs ms = false by unfold isTab; rw [e1]; rfl] at q2
    exact q2
  | true =>
    refine ⟨v, rfl, v, d, rfl, R.same s1, (fun z => by rw [e1] at z; cases z), fun _ H2 Tt A1 B1 wd hwd s2 nT nA nB hT hA hB _ => ?_⟩
    have s12 := s1.trans s2
    have FA2 := FA.same s12
    obtain ⟨dx, tr, tc, tk, ks, f1, -, -, -, -⟩ := FA2.ex
    refine ⟨.ref fr, rfl, fr, dx, _, rfl, f1, no1 _ _ _, fr, rs, cs, ms, rfl, FA2, fun l1 n1 => ?_⟩
    have k1 := same_upd (o := .lst (rs.map V.int)) n1
    refine ⟨.ref fr, rfl, fr, dx, _, rfl, k1 _ _ f1, no2 _ _ _, fr, rs, cs, ms, rfl, FA2.same k1, fun l2 n2 => ⟨(by show 2 ≤ sizeLine; decide), fun p np => ?_⟩⟩
    have k2 := same_upd (o := .lst (cs.map V.int)) n2
    have k3 := same_upd (o := .tup [V.ref l1, .ref l2]) np
    have k123 := (k1.trans k2).trans k3
    have s3 := s12.trans k123
    have ewd : widthOf (formOf d) = wd := by
      obtain ⟨wd', TA⟩ := tab_at R e1
      have := TA.h1
      unfold widthOf
      cases e : formOf d with
      | nil => rw [e] at this; exact absurd this (by decide)
      | cons r tb => exact hwd r (by rw [e]; exact List.mem_cons_self)
    refine ⟨pairD (rowSums (formOf d)) (colSums (formOf d) wd), pairD rs cs, .tup (SqT.of (k123 _ _ hT)) (.cons (.lst (SqL.of (k123 _ _ hA)) (dp_intsL _)) (.cons (.lst (SqL.of (k123 _ _ hB)) (dp_intsL _)) .nil)), .tup (SqT.of upd_same) (.cons (.lst (SqL.of (k3 _ _ (k2 _ _ upd_same))) (dp_intsL _)) (.cons (.lst (SqL.of (k3 _ _ upd_same)) (dp_intsL _)) .nil)), shaped_pair _ _, shaped_pair _ _, _, rfl, ?_⟩
    rw [eqv_pair]
    cases e2 : (decide (rowSums (formOf d) = rs) && decide (colSums (formOf d) wd = cs)) with
    | false =>
      have q2 := q _ s3
      rw [show isTab d rs cs ms = false by unfold isTab; rw [ewd, e2, Bool.and_false, Bool.false_and]] at q2
      exact q2
    | true =>
      have e2' := e2
      rw [Bool.and_eq_true, decide_eq_true_eq, decide_eq_true_eq] at e2'
      obtain ⟨er, ec⟩ := e2'
      have FA3 := FA2.same k123
      refine ⟨v, rfl, .ref fr, rfl, fr, dx, _, rfl, k123 _ _ f1, no3 _ _ _, fr, rs, cs, ms, rfl, FA3, r6, fun H4 D ls s4 nD hD rowsL hne => ?_⟩
      have s34 := s3.trans s4
      obtain ⟨wd', TA⟩ := tab_at (R.same s34) e1
      have hh := TA.h1
      have ew : wd' = wd := by
        cases e : formOf d with
        | nil => rw [e] at hh; exact absurd hh (by decide)
        | cons r tb => rw [← (TA.row r (by rw [e]; exact List.mem_cons_self)).1]; exact hwd r (by rw [e]; exact List.mem_cons_self)
      refine ⟨v, D, ls, formOf d, wd', ms, rfl, TA, SqL.of hD, RowsM.ofL rowsL, ?_, fun m hm => ?_, fun H5 s5 => ?_⟩
      · rw [FA.high, ← er]; unfold rowSums; rw [List.length_map]
      · rw [FA.wide m hm, ← ec, colSums_length]; exact ew.symm
      · have q2 := q H5 (s34.trans s5)
        rw [show isTab d rs cs ms = within (formOf d) ms by unfold isTab; rw [e1, ewd, e2]; rfl] at q2
        exact q2
end
end Kp14
set_option Elab.async false
set_option linter.all false
set_option maxRecDepth 100000
set_option maxHeartbeats 4000000
namespace Kp14
open PySem PySem.Spec PyProof.Rows L2 Vf
/-! ### the law's draws of numbers, caps and shapes -/
def capOk (c : Option Int) : Prop := ∀ i, c = some i → 0 ≤ i ∧ i ≤ 1000000000000
/-- rows at bs, each a list or a tuple, none of them tracked in H -/
inductive RowsV (H H' : Hp) : List Addr → List (List V) → Prop
  | nil : RowsV H H' [] []
  | cons {b : Addr} {bs : List Addr} {m : List V} {ms : List (List V)} : H b = none → (H' b = some (.lst m) ∨ H' b = some (.tup m)) → RowsV H H' bs ms → RowsV H H' (b :: bs) (m :: ms)
theorem RowsV.keep {H H1 H2 : Hp} : ∀ {ks : List Addr} {ms : List (List V)}, RowsV H H1 ks ms → (∀ b o, H b = none → H1 b = some o → b ∈ ks → H2 b = some o) → RowsV H H2 ks ms
  | _, _, .nil, _ => .nil
  | _, _, .cons h1 h2 r, f => .cons h1 (h2.elim (fun z => .inl (f _ _ h1 z List.mem_cons_self)) fun z => .inr (f _ _ h1 z List.mem_cons_self)) (r.keep fun b o e1 e2 hb => f b o e1 e2 (List.mem_cons_of_mem _ hb))
theorem RowsV.length {H H' : Hp} : ∀ {ks : List Addr} {ms : List (List V)}, RowsV H H' ks ms → ks.length = ms.length
  | _, _, .nil => rfl
  | _, _, .cons _ _ r => congrArg (· + 1) (RowsV.length r)
theorem RowsV.append {H H' : Hp} {ks ks' : List Addr} {ms ms' : List (List V)} : RowsV H H' ks ms → RowsV H H' ks' ms' → RowsV H H' (ks ++ ks') (ms ++ ms')
  | .nil, r => r
  | .cons h1 h2 q, r => .cons h1 h2 (RowsV.append q r)
theorem RowsV.get {H H' : Hp} : ∀ {ks : List Addr} {ms : List (List V)} {i : Nat} {k : Addr}, RowsV H H' ks ms → ks[i]? = some k → ∃ m, ms[i]? = some m ∧ H k = none ∧ (H' k = some (.lst m) ∨ H' k = some (.tup m))
  | _, _, _, _, .nil, e => by simp at e
  | _, _, 0, _, .cons h1 h2 _, e => by
    obtain rfl := Option.some.inj e
    exact ⟨_, rfl, h1, h2⟩
  | _, _, i + 1, k, .cons _ _ r, e => RowsV.get (i := i) (k := k) r e
theorem RowsV.set {H H' : Hp} {b : Addr} {m : List V} (h1 : H b = none) (h2 : H' b = some (.lst m) ∨ H' b = some (.tup m)) : ∀ {ks : List Addr} {ms : List (List V)} {i : Nat}, RowsV H H' ks ms → ms[i]? = some m → RowsV H H' (ks.set i b) ms
  | _, _, _, .nil, e => by simp at e
  | _, _, 0, .cons _ _ r, e => by
    obtain rfl := Option.some.inj e
    exact .cons h1 h2 r
  | _, _, i + 1, .cons g1 g2 r, e => .cons g1 g2 (RowsV.set (i := i) h1 h2 r e)
/-- lists at ls that hold the rows -/
inductive RowsQ (K : PySem.W.Frag) (H : Hp) : List Addr → List (List V) → Prop
  | nil : RowsQ K H [] []
  | cons {b : Addr} {bs : List Addr} {m : List V} {ms : List (List V)} : SqL K H b m → RowsQ K H bs ms → RowsQ K H (b :: bs) (m :: ms)
theorem RowsQ.get {K : PySem.W.Frag} {H : Hp} : ∀ {ks : List Addr} {ms : List (List V)} {i : Nat} {k : Addr}, RowsQ K H ks ms → ks[i]? = some k → ∃ m, ms[i]? = some m ∧ SqL K H k m
  | _, _, _, _, .nil, e => by simp at e
  | _, _, 0, _, .cons h1 _, e => by
    obtain rfl := Option.some.inj e
    exact ⟨_, rfl, h1⟩
  | _, _, i + 1, k, .cons _ r, e => RowsQ.get (i := i) (k := k) r e
theorem RowsQ.length {K : PySem.W.Frag} {H : Hp} : ∀ {ks : List Addr} {ms : List (List V)}, RowsQ K H ks ms → ks.length = ms.length
  | _, _, .nil => rfl
  | _, _, .cons _ r => congrArg (· + 1) (RowsQ.length r)
def sp_as (K : PySem.W.Frag) : Sp := fun vs H Q _ => ∃ (t R : Addr) (ls : List Addr) (ms : List (List V)), vs = [.ref t, .ref R] ∧ Tp H t ∧ SqL K H R (ls.map V.ref) ∧ RowsQ K H ls ms ∧ ls.length ≤ 7 ∧ R ≠ t ∧ (∀ l ∈ ls, l ≠ t) ∧
  ∀ (H' : Hp) (p : Addr) (bs : List Addr), Kp t H H' → H p = none → (H' p = some (.lst (bs.map V.ref)) ∨ H' p = some (.tup (bs.map V.ref))) → RowsV H H' bs ms → (∀ b ∈ bs, b ≠ p) → Q (.ref p) H'
theorem pow12 : (10 : Int) ^ (Int.toNat 12) = 1000000000000 := by decide +kernel
theorem cpow12 : CPow 10 12 := ⟨by decide, by decide, by decide⟩
/-! ### shapes of what is handed in -/
theorem ixN_nat {n j : Nat} (h : j < n) : ixN n (j : Int) = some j := by
  unfold ixN
  rw [if_pos (by omega), if_pos (by omega), Int.toNat_natCast]
theorem set_map_ref (bs : List Addr) (i : Nat) (b : Addr) : (bs.map V.ref).set i (.ref b) = (bs.set i b).map V.ref := by rw [List.map_set]
section
variable {P : Program} {w : World} {K : PySem.W.Frag} {mg : Str → Option Value} {base : Heap} {C : Nat → Addr} {tG tL : Tok}
theorem sc_l_as : FnScope ["_law_tape_here", "_law_rows_here", "_law_found", "_law_row", "_law_i"] ["_law_tape_here", "_law_rows_here"] (defScope s_l_as) :=
  ⟨rfl, rfl, rfl, by decide +kernel, rfl, by decide +kernel, by decide +kernel⟩
theorem ok_as {f : Addr} {fd : FuncData} (F : Fun K "_law_as" "_law_as" s_l_as f fd) (T : Txt K mg C tG tL) (c_l_digit : Cal P w K mg base CX0 1 "_law_digit" ["_law_tape_here", "_law_size"] sp_digit) : FnOk P w K mg base CX0 2 f fd ["_law_tape_here", "_law_rows_here"] (sp_as K) := by
  refine F.ok sc_l_as (fun vs H Q E ⟨t, R, ls, ms, e, _⟩ => by rw [e]; rfl) (fun cdv A outer s H vs Q E hr h => ?_)
  obtain ⟨t, R, ls, ms, rfl, tp, hR, hQ, h6, hRt, hlt, q⟩ := h
  have hlen := hQ.length
  refine ⟨_, (pss_cons (ps_setLc (i := 2) (own := [("_law_row", 3)]) (by rfl) sc_l_as.nd rfl rfl (sw_true rfl rfl rfl (by decide +kernel)) (pi_list (pv 1)) (blkOk_by (own := [("_law_row", 3)]) (N := ["_law_tape_here", "_law_rows_here", "_law_found", "_law_row", "_law_i"]) (sc := defScope s_l_as) (by decide +kernel)) (fun _ _ _ _ _ => (pg_name (i := 3) sc_l_as.nd rfl (by first | exact Or.inl rfl | exact Or.inr rfl))) (fun _ _ _ _ _ => pts_nil) (fun _ _ _ _ _ => (pe_callTy (list_ofK (K := K) rfl) (by rfl) T.n_list (by decide +kernel) (pa_cons (pv 3) pa_nil))))
  (pss_cons (ps_for PassesOwn.never rfl (pi_range1 (by rfl) T.n_range (pa_cons (pe_callB (len_ofK (K := K) rfl) (by rfl) T.n_len (by decide +kernel) (pa_cons (pv 2) pa_nil)) pa_nil))
  (pg_name (i := 4) sc_l_as.nd rfl (by first | exact Or.inl rfl | exact Or.inr rfl))
  (pss_one (ps_if (pt_cmpR op_eq (pe_cal c_l_digit (hr.mono (by decide)) (by rfl) pass0 (pa_cons (pv 0) (pa_cons pe_int pa_nil))) pe_int (nomark _))
  (pss_one (ps_asg (pe_callTy (tuple_ofK (K := K) rfl) (by rfl) T.n_tuple (by decide +kernel) (pa_cons (pe_ix (ix_listK (K := K) rfl) (pv 2) (pv 4) (fun _ _ => rfl)) pa_nil)) (pg_sub (pv 2) (pv 4) set_list)))
  pss_nil)))
  (pss_cons (ps_if (pt_cmpR op_eq (pe_cal c_l_digit (hr.mono (by decide)) (by rfl) pass0 (pa_cons (pv 0) (pa_cons pe_int pa_nil))) pe_int (nomark _))
  (pss_one (ps_ret (pe_callTy (tuple_ofK (K := K) rfl) (by rfl) T.n_tuple (by decide +kernel) (pa_cons (pv 2) pa_nil))))
  pss_nil)
  (pss_one (ps_ret (pv 2)))))), ?_⟩
  refine ⟨.ref R, rfl, R, rfl, ⟨_, hR⟩, fun D nD => ?_⟩
  have hDt : D ≠ t := fun z => by obtain ⟨m, e⟩ := tp; rw [z, e] at nD; cases nD
  refine lc_list (K := K) (xs := ls.map V.ref) (fun i H' => Same H H' ∧ ∃ bs : List Addr, H' D = some (.lst (bs.map V.ref)) ∧ RowsV H H' bs (ms.take i) ∧ ∀ b ∈ bs, b ≠ D) ⟨same_upd nD, [], upd_same, .nil, fun _ z => nomatch z⟩ (fun i H' _ p => p.1.seq hR) (fun i x H' hx p => ?_) (fun H' p => ?_)
  · obtain ⟨sm, bs, hbs, hrows, hne⟩ := p
    obtain ⟨k, hk, rfl⟩ : ∃ k, ls[i]? = some k ∧ x = V.ref k := by
      rw [List.getElem?_map] at hx
      cases e : ls[i]? with
      | none => rw [e] at hx; cases hx
      | some b => rw [e] at hx; exact ⟨b, rfl, (Option.some.inj hx).symm⟩
    obtain ⟨m, hm, hT⟩ := hQ.get hk
    refine ⟨rfl, .ref k, rfl, k, _, rfl, .inl (sm.seq hT), fun l nl => ?_⟩
    have nlD : l ≠ D := fun z => by rw [z, hbs] at nl; cases nl
    have k1 := same_upd (o := .lst m) nl
    have hl2 := hrows.length
    refine ⟨_, k1 _ _ hbs, ?_, fun b o e => ?_, bs ++ [l], by rw [upd_same, List.map_append]; rfl, ?_, fun y hy => ?_⟩
    · rw [List.length_map, hl2, List.length_take]
      exact Nat.lt_of_le_of_lt (Nat.le_trans (Nat.min_le_right _ _) (by omega : ms.length ≤ 7)) (by decide)
    · rw [upd_ne (ne_of_none e nD)]
      exact k1 _ _ (sm b o e)
    · rw [List.take_add_one, hm]
      refine (hrows.keep fun b o e1 e2 hb => ?_).append (.cons (sm.free nl) (.inl ?_) .nil)
      · rw [upd_ne (hne b hb)]
        exact k1 _ _ e2
      · rw [upd_ne nlD, upd_same]
    · rcases List.mem_append.mp hy with z | z
      · exact hne y z
      · obtain rfl : y = l := by simpa using z
        exact nlD
  obtain ⟨sm, bs0, hbs0, hrows0, hne0⟩ := p
  rw [List.length_map, hlen, List.take_length] at hrows0
  have hl0 := hrows0.length
  have back : ∀ b, H b = none → b ≠ t := fun b e z => by obtain ⟨m, e'⟩ := tp; rw [z, e'] at e; cases e
  refine ⟨.ref D, rfl, D, _, rfl, .inl (SqL.of hbs0), _, rfl, by rw [List.length_map]; omega, by rw [List.length_map]; omega, ?_⟩
  rw [List.length_map, Int.toNat_natCast]
  refine for_range (n := bs0.length) (fun i σ H2 => ∃ v4, σ = [some (.ref t), some (.ref R), some (.ref D), none, v4] ∧ Kp t H H2 ∧ ∃ bs : List Addr, H2 D = some (.lst (bs.map V.ref)) ∧ RowsV H H2 bs ms ∧ ∀ b ∈ bs, b ≠ D)
    ⟨none, rfl, Kp.ofSame tp sm, bs0, hbs0, hrows0, hne0⟩ (fun i σ H2 hi p => ?_) (fun σ H2 p => ?_)
  · obtain ⟨v4, rfl, kp, bs, hbs, hrows, hne⟩ := p
    have hlb := hrows.length
    have hib : i < bs.length := by omega
    obtain ⟨n, ht⟩ := kp.2
    refine ⟨.ref t, rfl, t, n, 2, rfl, ht, by decide, by decide, fun d n' d0 d1 => ⟨rfl, _, rfl, ite2 (fun e => ?_) (fun e => ?_)⟩⟩
    · have hD3 : (upd H2 t (.lst [.int n'])) D = some (.lst (bs.map V.ref)) := (upd_ne hDt).trans hbs
      have hix : (bs.map V.ref)[i]? = some (.ref bs[i]) := by rw [List.getElem?_map, List.getElem?_eq_getElem hib]; rfl
      obtain ⟨m, hm, hb0, hbv⟩ := hrows.get (List.getElem?_eq_getElem hib)
      have hbt : bs[i] ≠ t := back _ hb0
      have zi : (0 : Int) + (i : Nat) = (i : Nat) := Int.zero_add _
      refine ⟨.ref D, rfl, .int (0 + (i : Nat)), rfl, D, _, _, .ref bs[i], rfl, rfl, SqL.of hD3, by rw [zi]; exact atI_nat hix, bs[i], m, rfl, ?_⟩
      have hset : ∀ y : Addr, ixN (bs.map V.ref).length (0 + (i : Nat)) = some i := fun y => by rw [zi]; exact ixN_nat (by rw [List.length_map]; exact hib)
      rcases hbv with hL | hT
      · refine .inl ⟨SqL.of ((upd_ne hbt).trans hL), fun l nl => ?_⟩
        have nl2 : H2 l = none := by
          by_cases z : l = t
          · rw [z, upd_same] at nl; cases nl
          · rw [upd_ne z] at nl; exact nl
        have nlt : l ≠ t := fun z => by rw [z, upd_same] at nl; cases nl
        have nlD : l ≠ D := fun z => by rw [z, hD3] at nl; cases nl
        refine ⟨.ref D, rfl, .int (0 + (i : Nat)), rfl, D, _, _, i, rfl, rfl, (upd_ne nlD.symm).trans hD3, hset l, some (.int (0 + (i : Nat))), rfl, ⟨fun b o e' h' => ?_, ⟨n', ?_⟩⟩, bs.set i l, by rw [upd_same, set_map_ref], ?_, fun b hb => ?_⟩
        · have h3 := kp.1 b o e' h'
          rw [upd_ne (ne_of_none e' nD), upd_ne (ne_of_none h3 nl2), upd_ne h']
          exact h3
        · rw [upd_ne hDt.symm, upd_ne nlt.symm, upd_same]
        · refine RowsV.set (kp.free tp nl2) (.inr (by rw [upd_ne nlD, upd_same])) (hrows.keep fun b o e1 e2 hb => ?_) hm
          rw [upd_ne (hne b hb), upd_ne (ne_of_none e2 nl2), upd_ne (back b e1)]
          exact e2
        · rcases List.mem_or_eq_of_mem_set hb with z | z
          · exact hne b z
          · rw [z]; exact nlD
      · refine .inr ⟨SqT.of ((upd_ne hbt).trans hT), .ref D, rfl, .int (0 + (i : Nat)), rfl, D, _, _, i, rfl, rfl, hD3, hset D, some (.int (0 + (i : Nat))), rfl, ⟨fun b o e' h' => ?_, ⟨n', ?_⟩⟩, bs.set i bs[i], by rw [upd_same, set_map_ref], ?_, fun b hb => ?_⟩
        · rw [upd_ne (ne_of_none e' nD), upd_ne h']
          exact kp.1 b o e' h'
        · rw [upd_ne hDt.symm, upd_same]
        · refine RowsV.set hb0 (.inr ?_) (hrows.keep fun b o e1 e2 hb => ?_) hm
          · rw [upd_ne (hne _ (List.getElem_mem hib)), upd_ne hbt]
            exact hT
          · rw [upd_ne (hne b hb), upd_ne (back b e1)]
            exact e2
        · rcases List.mem_or_eq_of_mem_set hb with z | z
          · exact hne b z
          · rw [z]; exact hne _ (List.getElem_mem hib)
    · refine ⟨some (.int (0 + (i : Nat))), rfl, kp.tape, bs, (upd_ne hDt).trans hbs, hrows.keep fun b o e1 e2 hb => ?_, hne⟩
      rw [upd_ne (back b e1)]
      exact e2
  · obtain ⟨v4, rfl, kp, bs, hbs, hrows, hne⟩ := p
    obtain ⟨n, ht⟩ := kp.2
    refine ⟨.ref t, rfl, t, n, 2, rfl, ht, by decide, by decide, fun d n' d0 d1 => ⟨rfl, _, rfl, ite2 (fun e => ?_) (fun e => ?_)⟩⟩
    · have hD3 : (upd H2 t (.lst [.int n'])) D = some (.lst (bs.map V.ref)) := (upd_ne hDt).trans hbs
      refine ⟨.ref D, rfl, D, _, rfl, .inl ⟨SqL.of hD3, fun l nl => ?_⟩⟩
      have kp3 := (kp.tape (n := n')).lay (o := .tup (bs.map V.ref)) nl
      have nl2 : H2 l = none := by
        by_cases z : l = t
        · rw [z, upd_same] at nl; cases nl
        · rw [upd_ne z] at nl; exact nl
      refine q _ l bs kp3 (kp.free tp nl2) (.inr upd_same) (hrows.keep fun b o e1 e2 hb => ?_) fun b hb z => ?_
      · rw [upd_ne (ne_of_none e2 nl2), upd_ne (back b e1)]
        exact e2
      · obtain ⟨j, hj⟩ := List.mem_iff_getElem?.mp hb
        obtain ⟨m, _, _, hv⟩ := hrows.get hj
        rw [z, nl2] at hv
        rcases hv with hv | hv <;> cases hv
    · refine ⟨.ref D, rfl, q _ D bs kp.tape nD (.inl ((upd_ne hDt).trans hbs)) (hrows.keep fun b o e1 e2 hb => ?_) hne⟩
      rw [upd_ne (back b e1)]
      exact e2
end
/-! ### what is due -/
def capD : Option Int → PyData
  | none => .none
  | some i => .int i
def capDt : Option Int → Dt
  | none => .non
  | some i => .int i
inductive RowsC (H : Hp) : List Addr → List (List (Option Int)) → Prop
  | nil : RowsC H [] []
  | cons {k : Addr} {ks : List Addr} {m : List (Option Int)} {ms : List (List (Option Int))} : H k = some (.lst (m.map capV)) → RowsC H ks ms → RowsC H (k :: ks) (m :: ms)
theorem RowsC.keep {H H' : Hp} : ∀ {ks : List Addr} {ms : List (List (Option Int))}, RowsC H ks ms → (∀ b ∈ ks, ∀ o, H b = some o → H' b = some o) → RowsC H' ks ms
  | _, _, .nil, _ => .nil
  | _, _, .cons h r, f => .cons (f _ List.mem_cons_self _ h) (r.keep fun b hb => f b (List.mem_cons_of_mem _ hb))
theorem RowsC.ofL {H H' : Hp} : ∀ {ks : List Addr} {ms : List (List (Option Int))}, RowsL H H' ks ms → RowsC H' ks ms
  | _, _, .nil => .nil
  | _, _, .cons _ h r => .cons h (RowsC.ofL r)
theorem RowsC.get {H : Hp} : ∀ {ks : List Addr} {ms : List (List (Option Int))} {i : Nat} {m : List (Option Int)}, RowsC H ks ms → ms[i]? = some m → ∃ k, ks[i]? = some k ∧ H k = some (.lst (m.map capV))
  | _, _, _, _, .nil, e => by simp at e
  | _, _, 0, _, .cons h _, e => by
    obtain rfl := Option.some.inj e
    exact ⟨_, rfl, h⟩
  | _, _, i + 1, m, .cons _ r, e => RowsC.get (i := i) (m := m) r e
theorem RowsC.there {H : Hp} : ∀ {ks : List Addr} {ms : List (List (Option Int))}, RowsC H ks ms → ∀ k ∈ ks, ∃ o, H k = some o
  | _, _, .nil, _, z => nomatch z
  | _, _, .cons h r, k, z => by
    rcases List.mem_cons.mp z with rfl | z
    · exact ⟨_, h⟩
    · exact r.there k z
theorem RowsC.q {K : PySem.W.Frag} {H : Hp} : ∀ {ks : List Addr} {ms : List (List (Option Int))}, RowsC H ks ms → RowsQ K H ks (ms.map (·.map capV))
  | _, _, .nil => .nil
  | _, _, .cons h r => .cons (SqL.of h) r.q
theorem RowsL.fresh {H H' : Hp} : ∀ {ks : List Addr} {ms : List (List (Option Int))}, RowsL H H' ks ms → ∀ k ∈ ks, H k = none
  | _, _, .nil, _, z => nomatch z
  | _, _, .cons h _ r, k, z => by
    rcases List.mem_cons.mp z with rfl | z
    · exact h
    · exact RowsL.fresh r k z
/-- the list of what is due, none of its objects in S -/
structure DueAt (H : Hp) (du : Addr) (rs cs : List Int) (ms : List (List (Option Int))) (S : List Addr) : Prop where
  ex : ∃ (a b c : Addr) (ls : List Addr), H du = some (.lst [.ref a, .ref b, .ref c]) ∧ H a = some (.lst (rs.map V.int)) ∧ H b = some (.lst (cs.map V.int)) ∧ H c = some (.lst (ls.map V.ref)) ∧ RowsC H ls ms ∧ ∀ x ∈ du :: a :: b :: c :: ls, x ∉ S
theorem DueAt.keep {H H' : Hp} {du : Addr} {rs cs : List Int} {ms : List (List (Option Int))} {S : List Addr} (D : DueAt H du rs cs ms S) (f : ∀ x o, x ∉ S → H x = some o → H' x = some o) : DueAt H' du rs cs ms S := by
  obtain ⟨a, b, c, ls, h1, h2, h3, h4, h5, h6⟩ := D.ex
  have g : ∀ x ∈ du :: a :: b :: c :: ls, ∀ o, H x = some o → H' x = some o := fun x hx o e => f x o (h6 x hx) e
  exact ⟨a, b, c, ls, g _ (by simp) _ h1, g _ (by simp) _ h2, g _ (by simp) _ h3, g _ (by simp) _ h4, h5.keep fun b hb o e => g b (by simp [hb]) o e, h6⟩
def dueD (rs cs : List Int) (ms : List (List (Option Int))) : PyData := .list [.list (rs.map PyData.int), .list (cs.map PyData.int), .list (ms.map fun m => .list (m.map capD))]
section
variable {K : PySem.W.Frag} {H : Hp}
theorem dp_ints : ∀ rs : List Int, DpAll K H (rs.map V.int) (rs.map PyData.int)
  | [] => .nil
  | r :: rs => .cons (.int r) (dp_ints rs)
theorem dp_cap : ∀ c : Option Int, Dp K H (capV c) (capD c)
  | none => .non
  | some i => .int i
theorem dp_caps : ∀ m : List (Option Int), DpAll K H (m.map capV) (m.map capD)
  | [] => .nil
  | c :: r => .cons (dp_cap c) (dp_caps r)
theorem dp_rows : ∀ {ls : List Addr} {ms : List (List (Option Int))}, RowsC H ls ms → DpAll K H (ls.map V.ref) (ms.map fun m => .list (m.map capD))
  | _, _, .nil => .nil
  | _, _, .cons h r => .cons (.lst (SqL.of h) (dp_caps _)) (dp_rows r)
theorem dp_due {du : Addr} {rs cs : List Int} {ms : List (List (Option Int))} {S : List Addr} (D : DueAt H du rs cs ms S) : Dp K H (.ref du) (dueD rs cs ms) := by
  obtain ⟨a, b, c, ls, h1, h2, h3, h4, h5, h6⟩ := D.ex
  exact .lst (SqL.of h1) (.cons (.lst (SqL.of h2) (dp_ints rs)) (.cons (.lst (SqL.of h3) (dp_ints cs)) (.cons (.lst (SqL.of h4) (dp_rows h5)) .nil)))
end
/-! small data is shown -/
theorem big60 : (1000000000000 : Nat) < 10 ^ 60 := by decide +kernel
theorem nice_int {i : Int} (h : 0 ≤ i ∧ i ≤ 1000000000000) : Nice (.int i) = true := decide_eq_true (Nat.lt_of_le_of_lt (show i.natAbs ≤ 1000000000000 by omega) big60)
theorem nice_ints : ∀ rs : List Int, (∀ r ∈ rs, 0 ≤ r ∧ r ≤ 1000000000000) → NiceL (rs.map PyData.int) = true ∧ nodesL (rs.map PyData.int) = rs.length ∧ PyData.depthAll (rs.map PyData.int) = 0
  | [], _ => ⟨rfl, rfl, rfl⟩
  | r :: rs, h => by
    obtain ⟨h1, h2, h3⟩ := nice_ints rs fun x hx => h x (List.mem_cons_of_mem _ hx)
    refine ⟨?_, ?_, ?_⟩
    · show (Nice (.int r) && NiceL (rs.map PyData.int)) = true
      rw [nice_int (h r List.mem_cons_self), h1]; rfl
    · show 1 + nodesL (rs.map PyData.int) = rs.length + 1
      omega
    · show max 0 (PyData.depthAll (rs.map PyData.int)) = 0
      rw [h3]; rfl
theorem nice_caps : ∀ m : List (Option Int), (∀ c ∈ m, capOk c) → NiceL (m.map capD) = true ∧ nodesL (m.map capD) = m.length ∧ PyData.depthAll (m.map capD) = 0
  | [], _ => ⟨rfl, rfl, rfl⟩
  | c :: m, h => by
    obtain ⟨h1, h2, h3⟩ := nice_caps m fun x hx => h x (List.mem_cons_of_mem _ hx)
    have hc := h c List.mem_cons_self
    refine ⟨?_, ?_, ?_⟩
    · show (Nice (capD c) && NiceL (m.map capD)) = true
      rw [h1]
      cases c with
      | none => rfl
      | some i => rw [show Nice (capD (some i)) = true from nice_int (hc i rfl)]; rfl
    · show nodes (capD c) + nodesL (m.map capD) = m.length + 1
      have : nodes (capD c) = 1 := by cases c <;> rfl
      omega
    · show max (PyData.depth (capD c)) (PyData.depthAll (m.map capD)) = 0
      rw [h3]
      cases c <;> rfl
theorem nice_rows : ∀ ms : List (List (Option Int)), (∀ m ∈ ms, m.length ≤ 6 ∧ ∀ c ∈ m, capOk c) → NiceL (ms.map fun m => .list (m.map capD)) = true ∧ nodesL (ms.map fun m => .list (m.map capD)) ≤ 7 * ms.length ∧ PyData.depthAll (ms.map fun m => .list (m.map capD)) ≤ 1
  | [], _ => ⟨rfl, Nat.zero_le _, Nat.zero_le _⟩
  | m :: ms, h => by
    obtain ⟨h1, h2, h3⟩ := nice_rows ms fun x hx => h x (List.mem_cons_of_mem _ hx)
    have hm := h m List.mem_cons_self
    obtain ⟨g1, g2, g3⟩ := nice_caps m hm.2
    refine ⟨?_, ?_, ?_⟩
    · show (NiceL (m.map capD) && NiceL (ms.map fun m => .list (m.map capD))) = true
      rw [g1, h1]; rfl
    · show (1 + nodesL (m.map capD)) + nodesL (ms.map fun m => .list (m.map capD)) ≤ 7 * (ms.length + 1)
      have := hm.1
      omega
    · show max (PyData.depthAll (m.map capD) + 1) (PyData.depthAll (ms.map fun m => .list (m.map capD))) ≤ 1
      rw [g3]
      omega
/-- sums and caps as this law draws them -/
structure Drawn (rs cs : List Int) (ms : List (List (Option Int))) : Prop where
  r1 : 1 ≤ rs.length
  r6 : rs.length ≤ 6
  c1 : 1 ≤ cs.length
  c6 : cs.length ≤ 6
  rb : ∀ r ∈ rs, 0 ≤ r ∧ r ≤ 1000000000000
  cb : ∀ r ∈ cs, 0 ≤ r ∧ r ≤ 1000000000000
  ml : ms.length = rs.length
  mb : ∀ m ∈ ms, m.length = cs.length ∧ ∀ c ∈ m, capOk c
theorem Drawn.rows {rs cs : List Int} {ms : List (List (Option Int))} (D : Drawn rs cs ms) : ∀ m ∈ ms, m.length ≤ 6 ∧ ∀ c ∈ m, capOk c := fun m hm => ⟨by rw [(D.mb m hm).1]; exact D.c6, (D.mb m hm).2⟩
theorem repr_due {K : PySem.W.Frag} {H : Hp} {v : V} {rs cs : List Int} {ms : List (List (Option Int))} {Q : VK} (D : Drawn rs cs ms) (d : Dp K H v (dueD rs cs ms)) (q : Q (.str (dueD rs cs ms).shown) H) : rRepr K [v] H Q := by
  obtain ⟨a1, a2, a3⟩ := nice_ints rs D.rb
  obtain ⟨b1, b2, b3⟩ := nice_ints cs D.cb
  obtain ⟨c1, c2, c3⟩ := nice_rows ms D.rows
  have r6 := D.r6
  have c6 := D.c6
  have ml := D.ml
  refine repr_ok d ?_ ?_ ?_ q
  · show (NiceL (rs.map PyData.int) && (NiceL (cs.map PyData.int) && (NiceL (ms.map fun m => .list (m.map capD)) && true))) = true
    rw [a1, b1, c1]; rfl
  · show 1 + ((1 + nodesL (rs.map PyData.int)) + ((1 + nodesL (cs.map PyData.int)) + ((1 + nodesL (ms.map fun m => .list (m.map capD))) + 0))) ≤ 1000
    omega
  · show max (PyData.depthAll (rs.map PyData.int) + 1) (max (PyData.depthAll (cs.map PyData.int) + 1) (max (PyData.depthAll (ms.map fun m => .list (m.map capD)) + 1) 0)) + 1 ≤ 60
    omega
/-! data that the program takes -/
theorem counts_ok {d : Dt} {rs : List Int} (e : d.items = some (rs.map Dt.int)) (h1 : 1 ≤ rs.length) (h6 : rs.length ≤ 6) (hb : ∀ r ∈ rs, 0 ≤ r ∧ r ≤ 1000000000000) : areCounts d = true := by
  unfold areCounts isShort
  rw [e]
  have g : (rs.map Dt.int).all isCount = true := by
    rw [List.all_map, List.all_eq_true]
    intro r hr
    have := hb r hr
    show (decide (0 ≤ r) && decide (r ≤ 1000000000000)) = true
    rw [decide_eq_true this.1, decide_eq_true this.2]; rfl
  show ((decide (1 ≤ (rs.map Dt.int).length) && decide ((rs.map Dt.int).length ≤ 6)) && (rs.map Dt.int).all isCount) = true
  rw [g, List.length_map, decide_eq_true h1, decide_eq_true h6]; rfl
theorem rp_ints {K : PySem.W.Frag} {H : Hp} : ∀ rs : List Int, RpL K H (rs.map V.int) (rs.map Dt.int)
  | [] => .nil
  | r :: rs => .cons (.int r) (rp_ints rs)
theorem rp_caps {K : PySem.W.Frag} {H : Hp} : ∀ m : List (Option Int), RpL K H (m.map capV) (m.map capDt)
  | [] => .nil
  | none :: m => .cons .non (rp_caps m)
  | some i :: m => .cons (.int i) (rp_caps m)
theorem capInt_capDt (c : Option Int) : capInt (capDt c) = c := by cases c <;> rfl
theorem caps_all (m : List (Option Int)) (h : ∀ c ∈ m, capOk c) : (m.map capDt).all isCap = true := by
  rw [List.all_map, List.all_eq_true]
  intro c hc
  cases c with
  | none => rfl
  | some i =>
    have := h _ hc i rfl
    show (decide (0 ≤ i) && decide (i ≤ 1000000000000)) = true
    rw [decide_eq_true this.1, decide_eq_true this.2]; rfl
/-- rows as they are handed in, as data -/
theorem rp_rowsV {K : PySem.W.Frag} {H H' : Hp} {n : Nat} : ∀ {bs : List Addr} {ms : List (List (Option Int))}, RowsV H H' bs (ms.map (·.map capV)) → (∀ m ∈ ms, m.length = n ∧ ∀ c ∈ m, capOk c) →
    ∃ ds : List Dt, RpL K H' (bs.map V.ref) ds ∧ ds.length = ms.length ∧ ds.all (isCapRow n) = true ∧ (ds.map fun r => (r.items.getD []).map capInt) = ms
  | _, [], r, _ => by cases r; exact ⟨[], .nil, rfl, rfl, rfl⟩
  | _, m :: ms, r, h => by
    cases r with
    | cons h1 h2 r =>
      obtain ⟨ds, g1, g2, g3, g4⟩ := rp_rowsV (K := K) r fun x hx => h x (List.mem_cons_of_mem _ hx)
      have hm := h m List.mem_cons_self
      obtain ⟨d, rd, ed⟩ : ∃ d : Dt, Rp K H' (.ref _) d ∧ d.items = some (m.map capDt) := by
        rcases h2 with z | z
        · exact ⟨.lst (m.map capDt), .lst (SqL.of z) (rp_caps m), rfl⟩
        · exact ⟨.tup (m.map capDt), .tup (SqT.of z) (rp_caps m), rfl⟩
      refine ⟨d :: ds, .cons rd g1, by rw [List.length_cons, List.length_cons, g2], ?_, ?_⟩
      · rw [List.all_cons, g3, Bool.and_true]
        unfold isCapRow
        rw [ed]
        show (decide ((m.map capDt).length = n) && (m.map capDt).all isCap) = true
        rw [caps_all m hm.2, List.length_map, decide_eq_true hm.1]; rfl
      · rw [List.map_cons, g4, ed]
        show ((m.map capDt).map capInt) :: ms = m :: ms
        rw [List.map_map]
        congr 1
        exact (List.map_congr_left fun c _ => capInt_capDt c).trans (List.map_id m)
theorem rp_some {K : PySem.W.Frag} {H H' : Hp} {p : Addr} {bs : List Addr} {h n : Nat} {ms : List (List (Option Int))} (hp : H' p = some (.lst (bs.map V.ref)) ∨ H' p = some (.tup (bs.map V.ref))) (r : RowsV H H' bs (ms.map (·.map capV))) (hl : ms.length = h) (hm : ∀ m ∈ ms, m.length = n ∧ ∀ c ∈ m, capOk c) :
    ∃ d : Dt, Rp K H' (.ref p) d ∧ capsOk d h n = true ∧ capsOf d h n = ms := by
  obtain ⟨ds, g1, g2, g3, g4⟩ := rp_rowsV (K := K) r hm
  obtain ⟨d, rd, ed⟩ : ∃ d : Dt, Rp K H' (.ref p) d ∧ d.items = some ds := by
    rcases hp with z | z
    · exact ⟨.lst ds, .lst (SqL.of z) g1, rfl⟩
    · exact ⟨.tup ds, .tup (SqT.of z) g1, rfl⟩
  refine ⟨d, rd, ?_, ?_⟩
  · rw [capsOk_items (fun z => by rw [z] at ed; cases ed), ed]
    show (decide (ds.length = h) && ds.all (isCapRow n)) = true
    rw [g3, decide_eq_true (by rw [g2, hl])]; rfl
  · rw [capsOf_items ed, g4]
/-- the frame stays where a list changes -/
theorem FrameAt.updL {K : PySem.W.Frag} {CF : Addr} {H : Hp} {p b : Addr} {rs cs : List Int} {ms : List (List (Option Int))} {xs : List V} {o : HO} (F : FrameAt K CF H p rs cs ms) (hb : H b = some (.lst xs)) : FrameAt K CF (upd H b o) p rs cs ms := by
  obtain ⟨dx, tr, tc, tk, ks, h1, h2, h3, h4, h5⟩ := F.ex
  have g : ∀ k ys, SqT K H k ys → SqT K (upd H b o) k ys := fun k ys z => sqT_upd z hb (fun _ z => nomatch z) fun _ _ z => nomatch z
  exact ⟨⟨dx, tr, tc, tk, ks, by rw [upd_ne (fun z => by rw [z, hb] at h1; cases h1)]; exact h1, g _ _ h2, g _ _ h3, g _ _ h4, h5.imp g⟩, F.high, F.wide⟩
/-- what stands at an address of a list or a tuple handed in -/
def Hnd (H : Hp) (v : V) (R : Addr) (rs : List Int) : Prop := v = .ref R ∨ ∃ tu, v = .ref tu ∧ H tu = some (.tup (rs.map V.int))
theorem Hnd.kp {t R : Addr} {H H' : Hp} {v : V} {rs : List Int} (h : Hnd H v R rs) (tp : Tp H t) (k : Kp t H H') : Hnd H' v R rs := by
  rcases h with z | ⟨tu, z, e⟩
  · exact .inl z
  · exact .inr ⟨tu, z, k.1 _ _ e fun y => by obtain ⟨n, e'⟩ := tp; rw [y, e'] at e; cases e⟩
theorem Hnd.same {R : Addr} {H H' : Hp} {v : V} {rs : List Int} (h : Hnd H v R rs) (s : Same H H') : Hnd H' v R rs := by
  rcases h with z | ⟨tu, z, e⟩
  · exact .inl z
  · exact .inr ⟨tu, z, s _ _ e⟩
theorem Hnd.rp {K : PySem.W.Frag} {R : Addr} {H : Hp} {v : V} {rs : List Int} (h : Hnd H v R rs) (hR : H R = some (.lst (rs.map V.int))) : ∃ d : Dt, Rp K H v d ∧ d.items = some (rs.map Dt.int) := by
  rcases h with rfl | ⟨tu, rfl, e⟩
  · exact ⟨.lst _, .lst (SqL.of hR) (rp_ints rs), rfl⟩
  · exact ⟨.tup _, .tup (SqT.of e) (rp_ints rs), rfl⟩
theorem ints_inj {a b : List Int} (e : some (a.map Dt.int) = some (b.map Dt.int)) : a = b := by
  replace e := Option.some.inj e
  induction a generalizing b with
  | nil => cases b with
    | nil => rfl
    | cons y b => cases e
  | cons x a ih => cases b with
    | nil => cases e
    | cons y b =>
      rw [List.map_cons, List.map_cons] at e
      obtain ⟨e1, e2⟩ := List.cons.inj e
      rw [Dt.int.inj e1, ih e2]
theorem notS {H : Hp} {t R Cc x : Addr} {u v : HO} (nx : H x = none) (ht : Tp H t) (hR : H R = some u) (hC : H Cc = some v) : x ∉ [t, R, Cc] := fun z => by
  obtain ⟨n, e⟩ := ht
  rcases List.mem_cons.mp z with z | z
  · rw [z, e] at nx; cases nx
  · rcases List.mem_cons.mp z with z | z
    · rw [z, hR] at nx; cases nx
    · obtain rfl : x = Cc := by simpa using z
      rw [hC] at nx; cases nx
theorem init_use {K : PySem.W.Frag} {CF : Addr} {C : Nat → Addr} {H1 : Hp} {v0 v1 g : V} {R Cc x dx : Addr} {rs cs : List Int} {ms : List (List (Option Int))} {m : Dt} {Q : VK} {E : XK} (D : Drawn rs cs ms) (h0 : Hnd H1 v0 R rs) (h1 : Hnd H1 v1 Cc cs) (hR : H1 R = some (.lst (rs.map V.int))) (hC : H1 Cc = some (.lst (cs.map V.int)))
    (Rg : Rp K H1 g m) (ok : capsOk m rs.length cs.length = true) (of : capsOf m rs.length cs.length = ms) (nx : H1 x = none) (ndx : H1 dx = none) (ne : dx ≠ x) (q : ∀ H2, Same H1 H2 → FrameAt K CF H2 x rs cs ms → Q .non H2) :
    sp_initF K CF C [.ref x, v0, v1, g] (upd (upd H1 dx (.own x)) x (.ins CF dx [])) Q E := by
  have s1 : Same H1 (upd (upd H1 dx (.own x)) x (.ins CF dx [])) := (same_upd ndx).trans (same_upd (by rw [upd_ne ne.symm]; exact nx))
  obtain ⟨d0, R0, e0⟩ := (h0.same s1).rp (K := K) (s1 _ _ hR)
  obtain ⟨d1, R1, e1⟩ := (h1.same s1).rp (K := K) (s1 _ _ hC)
  have a0 := counts_ok e0 D.r1 D.r6 D.rb
  have a1 := counts_ok e1 D.c1 D.c6 D.cb
  have l0 : lenD d0 = rs.length := by unfold lenD; rw [e0]; simp
  have l1 : lenD d1 = cs.length := by unfold lenD; rw [e1]; simp
  refine ⟨x, dx, v0, v1, g, d0, d1, m, rfl, upd_same, R0, R1, Rg.same s1, (fun z => by rw [a0, a1] at z; cases z), (fun _ z => by rw [l0, l1, ok] at z; cases z), fun _ _ rs' cs' H2 g0 g1 kp FA => ?_⟩
  obtain rfl := ints_inj (e0.symm.trans g0)
  obtain rfl := ints_inj (e1.symm.trans g1)
  rw [of] at FA
  exact q H2 (fun b o e => kp b o (s1 _ _ e) (ne_of_none e nx)) FA
theorem FrameAt.kp {K : PySem.W.Frag} {CF t : Addr} {H H' : Hp} {p : Addr} {rs cs : List Int} {ms : List (List (Option Int))} (F : FrameAt K CF H p rs cs ms) (tp : Tp H t) (k : Kp t H H') : FrameAt K CF H' p rs cs ms := by
  obtain ⟨dx, tr, tc, tk, ks, h1, h2, h3, h4, h5⟩ := F.ex
  obtain ⟨n, e⟩ := tp
  have g : ∀ k ys, SqT K H k ys → SqT K H' k ys := fun b ys z => by
    rcases z with (z | ⟨ob, z⟩) | z
    · exact .inl (.inl (k.1 _ _ z fun y => by rw [y, e] at z; cases z))
    · exact .inl (.inr ⟨ob, k.1 _ _ z fun y => by rw [y, e] at z; cases z⟩)
    · exact .inr z
  exact ⟨⟨dx, tr, tc, tk, ks, k.1 _ _ h1 (fun y => by rw [y, e] at h1; cases h1), g _ _ h2, g _ _ h3, g _ _ h4, h5.imp g⟩, F.high, F.wide⟩
theorem none_rows (rs cs : List Int) (r1 : 1 ≤ rs.length) (r6 : rs.length ≤ 6) (c1 : 1 ≤ cs.length) (c6 : cs.length ≤ 6) (rb : ∀ r ∈ rs, 0 ≤ r ∧ r ≤ 1000000000000) (cb : ∀ r ∈ cs, 0 ≤ r ∧ r ≤ 1000000000000) : Drawn rs cs (List.replicate rs.length (List.replicate cs.length none)) :=
  ⟨r1, r6, c1, c6, rb, cb, List.length_replicate, fun m hm => by
    rw [(List.mem_replicate.mp hm).2]
    exact ⟨List.length_replicate, fun c hc => by rw [(List.mem_replicate.mp hc).2]; exact fun i z => nomatch z⟩⟩
theorem DueAt.less {H : Hp} {du : Addr} {rs cs : List Int} {ms : List (List (Option Int))} {S S' : List Addr} (D : DueAt H du rs cs ms S) (f : ∀ x ∈ S', x ∈ S) : DueAt H du rs cs ms S' := by
  obtain ⟨a, b, c, ls, h1, h2, h3, h4, h5, h6⟩ := D.ex
  exact ⟨a, b, c, ls, h1, h2, h3, h4, h5, fun x hx z => h6 x hx (f x z)⟩
theorem sqL_eq {K : PySem.W.Frag} {H H' : Hp} {p : Addr} {xs : List V} (e : H' p = H p) (h : SqL K H p xs) : SqL K H' p xs := by
  rcases h with (h | ⟨o, h⟩) | h
  · exact .inl (.inl (e.trans h))
  · exact .inl (.inr ⟨o, e.trans h⟩)
  · exact .inr h
theorem sqT_eq {K : PySem.W.Frag} {H H' : Hp} {p : Addr} {xs : List V} (e : H' p = H p) (h : SqT K H p xs) : SqT K H' p xs := by
  rcases h with (h | ⟨o, h⟩) | h
  · exact .inl (.inl (e.trans h))
  · exact .inl (.inr ⟨o, e.trans h⟩)
  · exact .inr h
theorem ne_ints_refs {rs : List Int} {a b c : Addr} (h : 1 ≤ rs.length) : rs.map V.int ≠ [V.ref a, .ref b, .ref c] := fun z => by
  cases rs with
  | nil => exact absurd h (by decide)
  | cons r rs => cases z
/-- what is handed in as caps, as data to be shown -/
theorem some_rows {K : PySem.W.Frag} {H H' : Hp} : ∀ {bs : List Addr} {ms : List (List (Option Int))}, RowsV H H' bs (ms.map (·.map capV)) → (∀ m ∈ ms, m.length ≤ 6 ∧ ∀ c ∈ m, capOk c) →
    ∃ ds : List PyData, DpAll K H' (bs.map V.ref) ds ∧ NiceL ds = true ∧ nodesL ds ≤ 7 * ms.length ∧ PyData.depthAll ds ≤ 1
  | _, [], r, _ => by cases r; exact ⟨[], .nil, rfl, Nat.zero_le _, Nat.zero_le _⟩
  | _, m :: ms, r, h => by
    cases r with
    | cons h1 h2 r =>
      obtain ⟨ds, g1, g2, g3, g4⟩ := some_rows (K := K) r fun x hx => h x (List.mem_cons_of_mem _ hx)
      have hm := h m List.mem_cons_self
      obtain ⟨n1, n2, n3⟩ := nice_caps m hm.2
      have fin : ∀ d : PyData, Nice d = NiceL (m.map capD) → nodes d = 1 + nodesL (m.map capD) → PyData.depth d = PyData.depthAll (m.map capD) + 1 → NiceL (d :: ds) = true ∧ nodesL (d :: ds) ≤ 7 * (m :: ms).length ∧ PyData.depthAll (d :: ds) ≤ 1 := fun d e1 e2 e3 => by
        refine ⟨?_, ?_, ?_⟩
        · show (Nice d && NiceL ds) = true
          rw [e1, n1, g2]; rfl
        · show nodes d + nodesL ds ≤ 7 * (ms.length + 1)
          have := hm.1
          omega
        · show max (PyData.depth d) (PyData.depthAll ds) ≤ 1
          omega
      rcases h2 with z | z
      · exact ⟨.list (m.map capD) :: ds, .cons (.lst (SqL.of z) (dp_caps m)) g1, fin _ rfl rfl rfl⟩
      · exact ⟨.tuple (m.map capD) :: ds, .cons (.tup (SqT.of z) (dp_caps m)) g1, fin _ rfl rfl rfl⟩
theorem some_data {K : PySem.W.Frag} {H H' : Hp} {p : Addr} {bs : List Addr} {ms : List (List (Option Int))} (hp : H' p = some (.lst (bs.map V.ref)) ∨ H' p = some (.tup (bs.map V.ref))) (r : RowsV H H' bs (ms.map (·.map capV))) (hm : ∀ m ∈ ms, m.length ≤ 6 ∧ ∀ c ∈ m, capOk c) (hl : ms.length ≤ 6) :
    ∃ d : PyData, Dp K H' (.ref p) d ∧ Nice d = true ∧ nodes d ≤ 1000 ∧ PyData.depth d ≤ 60 := by
  obtain ⟨ds, g1, g2, g3, g4⟩ := some_rows (K := K) r hm
  rcases hp with z | z
  · exact ⟨.list ds, .lst (SqL.of z) g1, g2, by show 1 + nodesL ds ≤ 1000; omega, by show PyData.depthAll ds + 1 ≤ 60; omega⟩
  · exact ⟨.tuple ds, .tup (SqT.of z) g1, g2, by show 1 + nodesL ds ≤ 1000; omega, by show PyData.depthAll ds + 1 ≤ 60; omega⟩
/-! ### the law's tables -/
inductive RowsN (H : Hp) : List Addr → List (List Int) → Prop
  | nil : RowsN H [] []
  | cons {l : Addr} {ls : List Addr} {r : List Int} {tb : List (List Int)} : H l = some (.lst (r.map V.int)) → RowsN H ls tb → RowsN H (l :: ls) (r :: tb)
theorem RowsN.keep {H H' : Hp} : ∀ {ls : List Addr} {tb : List (List Int)}, RowsN H ls tb → (∀ l ∈ ls, ∀ o, H l = some o → H' l = some o) → RowsN H' ls tb
  | _, _, .nil, _ => .nil
  | _, _, .cons h r, f => .cons (f _ List.mem_cons_self _ h) (r.keep fun l hl => f l (List.mem_cons_of_mem _ hl))
theorem RowsN.same {H H' : Hp} {ls : List Addr} {tb : List (List Int)} (r : RowsN H ls tb) (s : Same H H') : RowsN H' ls tb := r.keep fun l _ o e => s l o e
theorem RowsN.length {H : Hp} : ∀ {ls : List Addr} {tb : List (List Int)}, RowsN H ls tb → ls.length = tb.length
  | _, _, .nil => rfl
  | _, _, .cons _ r => congrArg (· + 1) (RowsN.length r)
theorem RowsN.get {H : Hp} : ∀ {ls : List Addr} {tb : List (List Int)} {i : Nat} {l : Addr}, RowsN H ls tb → ls[i]? = some l → ∃ r, tb[i]? = some r ∧ H l = some (.lst (r.map V.int))
  | _, _, _, _, .nil, e => by simp at e
  | _, _, 0, _, .cons h _, e => by
    obtain rfl := Option.some.inj e
    exact ⟨_, rfl, h⟩
  | _, _, i + 1, l, .cons _ r, e => RowsN.get (i := i) (l := l) r e
theorem RowsN.append {H : Hp} {ls ls' : List Addr} {tb tb' : List (List Int)} : RowsN H ls tb → RowsN H ls' tb' → RowsN H (ls ++ ls') (tb ++ tb')
  | .nil, r => r
  | .cons h q, r => .cons h (RowsN.append q r)
theorem RowsN.there {H : Hp} : ∀ {ls : List Addr} {tb : List (List Int)}, RowsN H ls tb → ∀ l ∈ ls, ∃ o, H l = some o
  | _, _, .nil, _, z => nomatch z
  | _, _, .cons h r, l, z => by
    rcases List.mem_cons.mp z with rfl | z
    · exact ⟨_, h⟩
    · exact r.there l z
theorem RowsN.q {K : PySem.W.Frag} {H : Hp} : ∀ {ls : List Addr} {tb : List (List Int)}, RowsN H ls tb → RowsQ K H ls (rowsV tb)
  | _, _, .nil => .nil
  | _, _, .cons h r => .cons (SqL.of h) r.q
/-- a table at p: a list of lists of ints, none of them the tape -/
structure TL (t : Addr) (H : Hp) (p : Addr) (ls : List Addr) (tb : List (List Int)) : Prop where
  at_ : H p = some (.lst (ls.map V.ref))
  rows : RowsN H ls tb
  np : p ≠ t
  nl : ∀ l ∈ ls, l ≠ t
theorem TL.same {t : Addr} {H H' : Hp} {p : Addr} {ls : List Addr} {tb : List (List Int)} (T : TL t H p ls tb) (s : Same H H') : TL t H' p ls tb := ⟨s _ _ T.at_, T.rows.same s, T.np, T.nl⟩
theorem TL.kp {t : Addr} {H H' : Hp} {p : Addr} {ls : List Addr} {tb : List (List Int)} (T : TL t H p ls tb) (k : Kp t H H') : TL t H' p ls tb := ⟨k.1 _ _ T.at_ T.np, T.rows.keep fun l hl o e => k.1 l o e (T.nl l hl), T.np, T.nl⟩
/-- a table as this law draws it -/
structure Tab (tb : List (List Int)) (wd : Nat) : Prop where
  h1 : 1 ≤ tb.length
  h6 : tb.length ≤ 6
  w1 : 1 ≤ wd
  w6 : wd ≤ 6
  row : ∀ r ∈ tb, r.length = wd ∧ ∀ n ∈ r, 0 ≤ n ∧ n < 83000000000
def sp_number : Sp := fun vs H Q _ => ∃ t : Addr, vs = [.ref t] ∧ Tp H t ∧ ∀ (c : Int) (H' : Hp), 0 ≤ c → c < 83000000000 → Kp t H H' → Q (.int c) H'
def sp_ltable : Sp := fun vs H Q _ => ∃ t : Addr, vs = [.ref t] ∧ Tp H t ∧ ∀ (H' : Hp) (p : Addr) (ls : List Addr) (tb : List (List Int)) (wd : Nat), Kp t H H' → H p = none → TL t H' p ls tb → Tab tb wd → Q (.ref p) H'
def sp_lrows (K : PySem.W.Frag) : Sp := fun vs H Q _ => ∃ (p : Addr) (ls : List Addr) (tb : List (List Int)), vs = [.ref p] ∧ H p = some (.lst (ls.map V.ref)) ∧ RowsN H ls tb ∧ tb.length ≤ 7 ∧ ∀ (H' : Hp) (D : Addr), Same H H' → H D = none → H' D = some (.lst ((rowSums tb).map V.int)) → Q (.ref D) H'
def sp_lcolumns (K : PySem.W.Frag) : Sp := fun vs H Q _ => ∃ (p : Addr) (ls : List Addr) (tb : List (List Int)) (wd : Nat), vs = [.ref p] ∧ H p = some (.lst (ls.map V.ref)) ∧ RowsN H ls tb ∧ 1 ≤ tb.length ∧ tb.length ≤ 7 ∧ wd ≤ 7 ∧ (∀ r ∈ tb, r.length = wd) ∧ ∀ (H' : Hp) (D : Addr), Same H H' → H D = none → H' D = some (.lst ((colSums tb wd).map V.int)) → Q (.ref D) H'
theorem mul83 : (83 : Int) * 1000000000 = 83000000000 := by decide
theorem pow9 : (10 : Int) ^ (Int.toNat 9) = 1000000000 := by decide +kernel
theorem cpow9 : CPow 10 9 := ⟨by decide, by decide, by decide⟩
theorem cpow11 : CPow 10 11 := ⟨by decide, by decide, by decide⟩
theorem pow11 : (10 : Int) ^ (Int.toNat 11) = 100000000000 := by decide +kernel
section
variable {P : Program} {w : World} {K : PySem.W.Frag} {mg : Str → Option Value} {base : Heap} {C : Nat → Addr} {tG tL : Tok}
theorem sc_l_number : FnScope ["_law_tape_here", "_law_way"] ["_law_tape_here"] (defScope s_l_number) :=
  ⟨rfl, rfl, rfl, by decide +kernel, rfl, by decide +kernel, by decide +kernel⟩
theorem ok_number {f : Addr} {fd : FuncData} (F : Fun K "_law_number" "_law_number" s_l_number f fd) (T : Txt K mg C tG tL) (c_l_digit : Cal P w K mg base CX0 1 "_law_digit" ["_law_tape_here", "_law_size"] sp_digit) : FnOk P w K mg base CX0 2 f fd ["_law_tape_here"] sp_number := by
  refine F.ok sc_l_number (fun vs H Q E ⟨t, e, _⟩ => by rw [e]; rfl) (fun cdv A outer s H vs Q E hr h => ?_)
  obtain ⟨t, rfl, tp, q⟩ := h
  obtain ⟨n, ht⟩ := id tp
  refine ⟨_, (pss_cons (ps_set (i := 1) sc_l_number.nd rfl (by first | exact Or.inl rfl | exact Or.inr rfl) (pe_cal c_l_digit (hr.mono (by decide)) (by rfl) pass0 (pa_cons (pv 0) (pa_cons pe_int pa_nil))))
  (pss_cons (ps_if (pt_cmpR op_eq (pv 1) pe_int (nomark _))
  (pss_one (ps_ret (pe_cal c_l_digit (hr.mono (by decide)) (by rfl) pass0 (pa_cons (pv 0) (pa_cons (pe_op op_mul pe_int (pe_op op_pow pe_int pe_int)) pa_nil)))))
  pss_nil)
  (pss_one (ps_ret (pe_cal c_l_digit (hr.mono (by decide)) (by rfl) pass0 (pa_cons (pv 0) (pa_cons (pe_ix (ix_listK (K := K) rfl) (pe_lst (pa_cons pe_int (pa_cons pe_int (pa_cons pe_int pa_nil)))) (pe_op op_sub (pv 1) pe_int) (fun _ _ => rfl)) pa_nil))))))), ?_⟩
  refine ⟨.ref t, rfl, t, n, 4, rfl, ht, by decide, by decide, fun wy n1 w0 w1 => ?_⟩
  have k1 : Kp t H (upd H t (.lst [.int n1])) := (Kp.refl tp).tape
  refine ⟨.int wy, rfl, rfl, _, rfl, ite2 (fun e => ?_) (fun e => ?_)⟩
  · refine ⟨.ref t, rfl, 10, 9, rfl, rfl, cpow9, _, _, rfl, rfl, .inr ⟨by decide, by decide⟩, t, n1, _, rfl, upd_same, ?_, ?_, fun d n2 d0 d1 => ?_⟩
    · rw [pow9]; decide
    · rw [pow9]; decide
    · rw [pow9] at d1
      exact q d _ d0 (by omega) k1.tape
  · have hw : wy ≠ 0 := fun z => e (decide_eq_true (by rw [z]))
    refine ⟨.ref t, rfl, (by show 3 ≤ sizeLine; decide), fun p np => ?_⟩
    have k2 := k1.lay (o := .lst [V.int 2, .int 4, .int 30]) np
    obtain ⟨m, hm⟩ := k2.2
    obtain ⟨z, hz, z0, z1⟩ : ∃ z : Int, ([V.int 2, .int 4, .int 30] : List V)[(wy - 1).toNat]? = some (.int z) ∧ 0 < z ∧ z ≤ 30 := by
      have : (wy - 1).toNat = 0 ∨ (wy - 1).toNat = 1 ∨ (wy - 1).toNat = 2 := by omega
      rcases this with h | h | h
      · rw [h]; exact ⟨2, rfl, by decide, by decide⟩
      · rw [h]; exact ⟨4, rfl, by decide, by decide⟩
      · rw [h]; exact ⟨30, rfl, by decide, by decide⟩
    refine ⟨.int wy, rfl, wy, 1, rfl, rfl, p, _, wy - 1, .int z, rfl, rfl, SqL.of upd_same, at_of (j := (wy - 1).toNat) (by omega) hz, ?_⟩
    exact ⟨t, m, z, rfl, hm, z0, by omega, fun d n2 d0 d1 => q d _ d0 (by omega) k2.tape⟩
theorem sc_l_table : FnScope ["_law_tape_here", "_law_wide", "_law_j", "_law_i"] ["_law_tape_here"] (defScope s_l_table) :=
  ⟨rfl, rfl, rfl, by decide +kernel, rfl, by decide +kernel, by decide +kernel⟩
theorem ok_ltable {f : Addr} {fd : FuncData} (F : Fun K "_law_table" "_law_table" s_l_table f fd) (T : Txt K mg C tG tL) (c_l_digit : Cal P w K mg base CX0 1 "_law_digit" ["_law_tape_here", "_law_size"] sp_digit) (c_l_number : Cal P w K mg base CX0 2 "_law_number" ["_law_tape_here"] sp_number) : FnOk P w K mg base CX0 3 f fd ["_law_tape_here"] sp_ltable := by
  refine F.ok sc_l_table (fun vs H Q E ⟨t, e, _⟩ => by rw [e]; rfl) (fun cdv A outer s H vs Q E hr h => ?_)
  obtain ⟨t, rfl, tp, q⟩ := h
  obtain ⟨n, ht⟩ := id tp
  refine ⟨_, (pss_cons (ps_set (i := 1) sc_l_table.nd rfl (by first | exact Or.inl rfl | exact Or.inr rfl) (pe_op op_add pe_int (pe_cal c_l_digit (hr.mono (by decide)) (by rfl) pass0 (pa_cons (pv 0) (pa_cons pe_int pa_nil)))))
  (pss_one (ps_ret (pe_lc (own := [("_law_i", 3)]) (by rfl) sc_l_table.nd (pi_range1 (by rfl) T.n_range (pa_cons (pe_op op_add pe_int (pe_cal c_l_digit (hr.mono (by decide)) (by rfl) pass0 (pa_cons (pv 0) (pa_cons pe_int pa_nil)))) pa_nil)) (blkOk_by (own := [("_law_i", 3)]) (N := ["_law_tape_here", "_law_wide", "_law_j", "_law_i"]) (sc := defScope s_l_table) (by decide +kernel)) (fun _ _ _ _ _ => (pg_name (i := 3) sc_l_table.nd rfl (by first | exact Or.inl rfl | exact Or.inr rfl))) (fun _ _ _ _ _ => pts_nil) (fun _ _ _ _ _ => (pe_lc (own := [("_law_j", 2)]) (by rfl) sc_l_table.nd (pi_range1 (by rfl) T.n_range (pa_cons (pv 1) pa_nil)) (by refine blkOk_by ?_; kernel_rfl) (fun _ _ _ _ _ => (pg_name (i := 2) sc_l_table.nd rfl (by first | exact Or.inl rfl | exact Or.inr rfl))) (fun _ _ _ _ _ => pts_nil) (fun _ _ _ _ _ => (pe_cal c_l_number (hr.mono (by decide)) (by rfl) pass0 (pa_cons (pv 0) pa_nil))))))))), ?_⟩
  refine ⟨.ref t, rfl, t, n, 6, rfl, ht, by decide, by decide, fun d n1 d0 d1 => ⟨1, d, rfl, rfl, ?_⟩⟩
  have k1 : Kp t H (upd H t (.lst [.int n1])) := (Kp.refl tp).tape
  obtain ⟨wd, ew⟩ : ∃ wd : Nat, (1 + d).toNat = wd := ⟨_, rfl⟩
  have w1 : 1 ≤ wd := by omega
  have w6 : wd ≤ 6 := by omega
  refine ⟨.ref t, rfl, t, n1, 6, rfl, upd_same, by decide, by decide, fun d' n2 d0' d1' => ⟨1, d', rfl, rfl, 1 + d', rfl, by omega, by omega, fun D nD => ?_⟩⟩
  have k2 := k1.tape (n := n2)
  have tp2 := k2.2
  have hDt : D ≠ t := fun z => by obtain ⟨m, e⟩ := tp2; rw [z, e] at nD; cases nD
  generalize upd (upd H t (.lst [.int n1])) t (.lst [.int n2]) = H2 at k2 tp2 nD ⊢
  refine lc_range (n := (1 + d').toNat) (fun i H' => Kp t H2 H' ∧ ∃ (ls : List Addr) (tb : List (List Int)), H' D = some (.lst (ls.map V.ref)) ∧ RowsN H' ls tb ∧ tb.length = i ∧ (∀ l ∈ ls, H2 l = none ∧ l ≠ D ∧ l ≠ t) ∧ ∀ r ∈ tb, r.length = wd ∧ ∀ n ∈ r, 0 ≤ n ∧ n < 83000000000) ⟨(Kp.refl tp2).lay nD, [], [], upd_same, .nil, rfl, (fun _ z => (nomatch z)), fun _ z => (nomatch z)⟩ (fun i H' hi p => ?_) (fun H' p => ?_)
  · obtain ⟨kp, ls, tb, hls, rows, hl, hfr, hb⟩ := p
    refine ⟨rfl, .int (1 + d), rfl, 1 + d, rfl, by omega, by omega, fun B nB => ?_⟩
    have hBD : B ≠ D := fun z => by rw [z, hls] at nB; cases nB
    have hBt : B ≠ t := fun z => by obtain ⟨m, e⟩ := kp.2; rw [z, e] at nB; cases nB
    have hBl : ∀ l ∈ ls, l ≠ B := fun l hl' z => by
      obtain ⟨o, e⟩ := rows.there l hl'
      rw [z, nB] at e; cases e
    refine lc_range (n := (1 + d).toNat) (fun j H3 => Kp t H' H3 ∧ ∃ r : List Int, H3 B = some (.lst (r.map V.int)) ∧ r.length = j ∧ ∀ n ∈ r, 0 ≤ n ∧ n < 83000000000) ⟨(Kp.refl kp.2).lay nB, [], upd_same, rfl, fun _ z => (nomatch z)⟩ (fun j H3 hj p => ?_) (fun H3 p => ?_)
    · obtain ⟨kp3, r, hr', hrl, hrb⟩ := p
      refine ⟨rfl, .ref t, rfl, t, rfl, kp3.2, fun c H4 c0 c1 kp4 => ⟨_, kp4.1 _ _ hr' hBt, ?_, (kp3.trans kp4).put nB hBt, r ++ [c], by rw [upd_same, List.map_append]; rfl, by rw [List.length_append, hrl]; rfl, fun n hn => ?_⟩⟩
      · rw [List.length_map, hrl]
        exact Nat.lt_of_lt_of_le (show j < 7 by omega) (by decide)
      · rcases List.mem_append.mp hn with z | z
        · exact hrb n z
        · obtain rfl : n = c := by simpa using z
          exact ⟨c0, c1⟩
    · obtain ⟨kp3, r, hr', hrl, hrb⟩ := p
      rw [ew] at hrl
      refine ⟨_, kp3.1 _ _ hls hDt, ?_, (kp.trans kp3).put nD hDt, ls ++ [B], tb ++ [r], by rw [upd_same, List.map_append]; rfl, ?_, by rw [List.length_append, hl]; rfl, fun l hl' => ?_, fun x hx => ?_⟩
      · rw [List.length_map, rows.length, hl]
        exact Nat.lt_of_lt_of_le (show i < 7 by omega) (by decide)
      · refine (rows.keep fun l hl' o e => ?_).append (.cons ?_ .nil)
        · rw [upd_ne (hfr l hl').2.1]
          exact kp3.1 _ _ e (hfr l hl').2.2
        · rw [upd_ne hBD]; exact hr'
      · rcases List.mem_append.mp hl' with z | z
        · exact hfr l z
        · obtain rfl : l = B := by simpa using z
          exact ⟨kp.free tp2 nB, hBD, hBt⟩
      · rcases List.mem_append.mp hx with z | z
        · exact hb x z
        · obtain rfl : x = r := by simpa using z
          exact ⟨hrl, hrb⟩
  · obtain ⟨kp, ls, tb, hls, rows, hl, hfr, hb⟩ := p
    exact q H' D ls tb wd (k2.trans kp) (k2.free tp nD) ⟨hls, rows, hDt, fun l hl' => (hfr l hl').2.2⟩ ⟨by omega, by omega, w1, w6, hb⟩
theorem sc_l_rows : FnScope ["_law_table_here", "_law_row"] ["_law_table_here"] (defScope s_l_rows) :=
  ⟨rfl, rfl, rfl, by decide +kernel, rfl, by decide +kernel, by decide +kernel⟩
theorem ok_lrows {f : Addr} {fd : FuncData} (F : Fun K "_law_rows" "_law_rows" s_l_rows f fd) (T : Txt K mg C tG tL) : FnOk P w K mg base CX0 1 f fd ["_law_table_here"] (sp_lrows K) := by
  refine F.ok sc_l_rows (fun vs H Q E ⟨p, ls, tb, e, _⟩ => by rw [e]; rfl) (fun cdv A outer s H vs Q E hr h => ?_)
  obtain ⟨p, ls, tb, rfl, hp, rows, h7, q⟩ := h
  have hlen := rows.length
  refine ⟨_, (pss_one (ps_ret (pe_lc (own := [("_law_row", 1)]) (by rfl) sc_l_rows.nd (pi_list (pv 0)) (blkOk_by (own := [("_law_row", 1)]) (N := ["_law_table_here", "_law_row"]) (sc := defScope s_l_rows) (by decide +kernel)) (fun _ _ _ _ _ => (pg_name (i := 1) sc_l_rows.nd rfl (by first | exact Or.inl rfl | exact Or.inr rfl))) (fun _ _ _ _ _ => pts_nil) (fun _ _ _ _ _ => (pe_callB (sumK (K := K) rfl rfl) (by rfl) T.n_sum (by decide +kernel) (pa_cons (pv 1) pa_nil)))))), ?_⟩
  refine ⟨.ref p, rfl, p, rfl, ⟨_, SqL.of hp⟩, fun D nD => ?_⟩
  refine lc_list (K := K) (xs := ls.map V.ref) (fun i H' => Same H H' ∧ H' D = some (.lst (((tb.take i).map List.sum).map V.int))) ⟨same_upd nD, upd_same⟩ (fun i H' _ p => p.1.seq (SqL.of hp)) (fun i x H' hx p => ?_) (fun H' p => ?_)
  · obtain ⟨k, hk, rfl⟩ := some_get hx
    obtain ⟨r, hr', hk2⟩ := rows.get hk
    refine ⟨rfl, .ref k, rfl, k, r, rfl, SqL.of (p.1 _ _ hk2), _, p.2, ?_, fun b o e => ?_, ?_⟩
    · rw [List.length_map, List.length_map, List.length_take]
      exact Nat.lt_of_le_of_lt (Nat.le_trans (Nat.min_le_right _ _) h7) (by decide)
    · rw [upd_ne (ne_of_none e nD)]; exact p.1 b o e
    · rw [upd_same, List.take_add_one, hr']; simp
  · rw [List.length_map, hlen, List.take_length] at p
    exact q H' D p.1 nD p.2
theorem sc_l_columns : FnScope ["_law_table_here", "_law_row", "_law_j"] ["_law_table_here"] (defScope s_l_columns) :=
  ⟨rfl, rfl, rfl, by decide +kernel, rfl, by decide +kernel, by decide +kernel⟩
theorem ok_lcolumns {f : Addr} {fd : FuncData} (F : Fun K "_law_columns" "_law_columns" s_l_columns f fd) (T : Txt K mg C tG tL) : FnOk P w K mg base CX0 1 f fd ["_law_table_here"] (sp_lcolumns K) := by
  refine F.ok sc_l_columns (fun vs H Q E ⟨p, ls, tb, wd, e, _⟩ => by rw [e]; rfl) (fun cdv A outer s H vs Q E hr h => ?_)
  obtain ⟨p, ls, tb, wd, rfl, hp, rows, h1, h7, w7, hrow, q⟩ := h
  have hlen := rows.length
  refine ⟨_, (pss_one (ps_ret (pe_lc (own := [("_law_j", 2)]) (by rfl) sc_l_columns.nd (pi_range1 (by rfl) T.n_range (pa_cons (pe_callB (len_ofK (K := K) rfl) (by rfl) T.n_len (by decide +kernel) (pa_cons (pe_ix (ix_listK (K := K) rfl) (pv 0) pe_int (fun _ _ => rfl)) pa_nil)) pa_nil)) (blkOk_by (own := [("_law_j", 2)]) (N := ["_law_table_here", "_law_row", "_law_j"]) (sc := defScope s_l_columns) (by decide +kernel)) (fun _ _ _ _ _ => (pg_name (i := 2) sc_l_columns.nd rfl (by first | exact Or.inl rfl | exact Or.inr rfl))) (fun _ _ _ _ _ => pts_nil) (fun _ _ _ _ _ => (pe_callB (sumK (K := K) rfl rfl) (by rfl) T.n_sum (by decide +kernel) (pa_cons (pe_lc (own := [("_law_row", 1)]) (by rfl) sc_l_columns.nd (pi_listK (K := K) rfl (pv 0)) (by refine blkOk_by ?_; kernel_rfl) (fun _ _ _ _ _ => (pg_name (i := 1) sc_l_columns.nd rfl (by first | exact Or.inl rfl | exact Or.inr rfl))) (fun _ _ _ _ _ => pts_nil) (fun _ _ _ _ _ => (pe_ix (ix_listK (K := K) rfl) (pv 1) (pv 2) (fun _ _ => rfl)))) pa_nil)))))), ?_⟩
  have hl0 : 0 < ls.length := by omega
  obtain ⟨r0, hr0, hk0⟩ := rows.get (List.getElem?_eq_getElem hl0)
  have lr0 := hrow r0 (List.mem_of_getElem? hr0)
  refine ⟨.ref p, rfl, p, _, 0, .ref ls[0], rfl, rfl, SqL.of hp, atI_nat (j := 0) (by rw [List.getElem?_map, List.getElem?_eq_getElem hl0]; rfl), ls[0], _, rfl, .inl (SqL.of hk0), _, rfl, by rw [List.length_map]; omega, by rw [List.length_map]; omega, fun D nD => ?_⟩
  refine lc_range (n := _) (fun j H' => Same H H' ∧ H' D = some (.lst ((colSums tb j).map V.int))) ⟨same_upd nD, upd_same⟩ (fun j H' hj p' => ?_) (fun H' p' => ?_)
  · rw [List.length_map, lr0, Int.toNat_natCast] at hj
    refine ⟨rfl, .ref p, rfl, p, rfl, ⟨_, p'.1.seq (SqL.of hp)⟩, fun B nB => ?_⟩
    refine lc_list (K := K) (xs := ls.map V.ref) (fun i H2 => Same H' H2 ∧ H2 B = some (.lst (((tb.take i).map fun r => r.getD j 0).map V.int))) ⟨same_upd nB, upd_same⟩ (fun i H2 _ p2 => p2.1.seq (p'.1.seq (SqL.of hp))) (fun i x H2 hx p2 => ?_) (fun H2 p2 => ?_)
    · obtain ⟨k, hk, rfl⟩ := some_get hx
      obtain ⟨r, hr', hk2⟩ := rows.get hk
      have hjr : j < r.length := by rw [hrow r (List.mem_of_getElem? hr')]; exact hj
      refine ⟨rfl, .ref k, rfl, .int (0 + (j : Int)), rfl, k, _, 0 + (j : Int), .int r[j], rfl, rfl, SqL.of (p2.1 _ _ (p'.1 _ _ hk2)), at_of (j := j) (by omega) (by rw [List.getElem?_map, List.getElem?_eq_getElem hjr]; rfl), _, p2.2, ?_, fun b o e => ?_, ?_⟩
      · rw [List.length_map, List.length_map, List.length_take]
        exact Nat.lt_of_le_of_lt (Nat.le_trans (Nat.min_le_right _ _) h7) (by decide)
      · rw [upd_ne (ne_of_none e nB)]; exact p2.1 b o e
      · have eg : r.getD j 0 = r[j] := by rw [List.getD_eq_getElem?_getD, List.getElem?_eq_getElem hjr]; rfl
        rw [upd_same, List.take_add_one, hr']
        simp [List.getElem?_eq_getElem hjr]
    · rw [List.length_map, hlen, List.take_length] at p2
      refine ⟨B, _, rfl, SqL.of p2.2, _, p2.1 _ _ p'.2, ?_, fun b o e => ?_, ?_⟩
      · rw [List.length_map, colSums_length]
        exact Nat.lt_of_lt_of_le (show j < 7 by omega) (by decide)
      · rw [upd_ne (ne_of_none e nD)]; exact p2.1 _ _ (p'.1 b o e)
      · rw [upd_same]
        unfold colSums
        rw [List.range_succ]; simp
  · rw [List.length_map, lr0, Int.toNat_natCast] at p'
    exact q H' D p'.1 nD p'.2
end
end Kp14
set_option Elab.async false
set_option linter.all false
set_option maxRecDepth 100000
set_option maxHeartbeats 4000000
namespace Kp14
open PySem PySem.Spec PyProof.Rows L2 Vf
/-! ### caps, tables changed, sums told -/
def sp_lcap : Sp := fun vs H Q _ => ∃ (t : Addr) (n : Int), vs = [.ref t, .int n] ∧ Tp H t ∧ 0 ≤ n ∧ n < 83000000000 ∧ ∀ (c : Option Int) (H' : Hp), capOk c → cellOk (n, c) = true → Kp t H H' → Q (capV c) H'
def sp_llcaps : Sp := fun vs H Q _ => ∃ (t p : Addr) (ls : List Addr) (tb : List (List Int)) (wd : Nat), vs = [.ref t, .ref p] ∧ Tp H t ∧ TL t H p ls tb ∧ Tab tb wd ∧ ∀ (H' : Hp) (D : Addr) (ks : List Addr) (ms : List (List (Option Int))), Kp t H H' → H D = none → D ≠ t → H' D = some (.lst (ks.map V.ref)) → RowsC H' ks ms →
  (∀ k ∈ ks, H k = none ∧ k ≠ D ∧ k ≠ t) → ms.length = tb.length → (∀ m ∈ ms, m.length = wd ∧ ∀ c ∈ m, capOk c) → within tb ms = true → Q (.ref D) H'
theorem RowsC.append {H : Hp} {ks ks' : List Addr} {ms ms' : List (List (Option Int))} : RowsC H ks ms → RowsC H ks' ms' → RowsC H (ks ++ ks') (ms ++ ms')
  | .nil, r => r
  | .cons h q, r => .cons h (RowsC.append q r)
theorem RowsC.length {H : Hp} : ∀ {ks : List Addr} {ms : List (List (Option Int))}, RowsC H ks ms → ks.length = ms.length
  | _, _, .nil => rfl
  | _, _, .cons _ r => congrArg (· + 1) (RowsC.length r)
theorem RowsN.set {H H' : Hp} {b : Addr} {r : List Int} : ∀ {ls : List Addr} {tb : List (List Int)} {i : Nat}, RowsN H ls tb → ls[i]? = some b → ls.Nodup → H' b = some (.lst (r.map V.int)) → (∀ l ∈ ls, l ≠ b → ∀ o, H l = some o → H' l = some o) → RowsN H' ls (tb.set i r)
  | _, _, _, .nil, e, _, _, _ => by simp at e
  | _, _, 0, .cons (l := l) (ls := ls) h q, e, nd, hb, f => by
    obtain rfl := Option.some.inj e
    rw [List.nodup_cons] at nd
    exact .cons hb (q.keep fun k hk o z => f k (List.mem_cons_of_mem _ hk) (fun y => nd.1 (y ▸ hk)) o z)
  | _, _, i + 1, .cons (l := l) (ls := ls) h q, e, nd, hb, f => by
    rw [List.nodup_cons] at nd
    have hm : b ∈ ls := List.mem_of_getElem? (show ls[i]? = some b from e)
    exact .cons (f l List.mem_cons_self (fun y => nd.1 (y ▸ hm)) _ h) (RowsN.set (i := i) q e nd.2 hb fun k hk => f k (List.mem_cons_of_mem _ hk))
theorem within_snoc {tb : List (List Int)} {ms : List (List (Option Int))} {r : List Int} {m : List (Option Int)} (h : within tb ms = true) (h2 : rowWithin r m = true) (hl : tb.length = ms.length) : within (tb ++ [r]) (ms ++ [m]) = true := by
  unfold within
  rw [List.zip_append hl, List.all_append]
  show (within tb ms && (rowWithin r m && true)) = true
  rw [h, h2]; rfl
theorem rowWithin_snoc {r : List Int} {m : List (Option Int)} {n : Int} {c : Option Int} (h : rowWithin r m = true) (h2 : cellOk (n, c) = true) (hl : r.length = m.length) : rowWithin (r ++ [n]) (m ++ [c]) = true := by
  unfold rowWithin
  rw [List.zip_append hl, List.all_append]
  show (rowWithin r m && (cellOk (n, c) && true)) = true
  rw [h, h2]; rfl
theorem rowWithin_none : ∀ (r : List Int) (k : Nat), rowWithin r (List.replicate k none) = true
  | [], _ => rfl
  | _ :: _, 0 => rfl
  | x :: r, k + 1 => by
    show (true && rowWithin r (List.replicate k none)) = true
    rw [rowWithin_none r k]; rfl
section
variable {P : Program} {w : World} {K : PySem.W.Frag} {mg : Str → Option Value} {base : Heap} {C : Nat → Addr} {tG tL : Tok}
theorem sc_l_cap : FnScope ["_law_tape_here", "_law_number_here", "_law_way"] ["_law_tape_here", "_law_number_here"] (defScope s_l_cap) :=
  ⟨rfl, rfl, rfl, by decide +kernel, rfl, by decide +kernel, by decide +kernel⟩
theorem ok_lcap {f : Addr} {fd : FuncData} (F : Fun K "_law_cap" "_law_cap" s_l_cap f fd) (T : Txt K mg C tG tL) (c_l_digit : Cal P w K mg base CX0 1 "_law_digit" ["_law_tape_here", "_law_size"] sp_digit) : FnOk P w K mg base CX0 2 f fd ["_law_tape_here", "_law_number_here"] sp_lcap := by
  refine F.ok sc_l_cap (fun vs H Q E ⟨t, n, e, _⟩ => by rw [e]; rfl) (fun cdv A outer s H vs Q E hr h => ?_)
  obtain ⟨t, n, rfl, tp, n0, n83, q⟩ := h
  obtain ⟨m, ht⟩ := id tp
  refine ⟨_, (pss_cons (ps_set (i := 2) sc_l_cap.nd rfl (by first | exact Or.inl rfl | exact Or.inr rfl) (pe_cal c_l_digit (hr.mono (by decide)) (by rfl) pass0 (pa_cons (pv 0) (pa_cons pe_int pa_nil))))
  (pss_cons (ps_if (pt_cmpR op_lt (pv 2) pe_int (nomark _))
  (pss_one (ps_ret pe_non))
  pss_nil)
  (pss_one (ps_ret (pe_ix (ix_listK (K := K) rfl) (pe_lst (pa_cons (pv 1) (pa_cons (pe_op op_add (pv 1) (pe_cal c_l_digit (hr.mono (by decide)) (by rfl) pass0 (pa_cons (pv 0) (pa_cons pe_int pa_nil)))) (pa_cons (pe_op op_pow pe_int pe_int) (pa_cons (pe_op op_add (pv 1) (pe_cal c_l_digit (hr.mono (by decide)) (by rfl) pass0 (pa_cons (pv 0) (pa_cons (pe_op op_pow pe_int pe_int) pa_nil)))) pa_nil))))) (pe_op op_sub (pv 2) pe_int) (fun _ _ => rfl)))))), ?_⟩
  refine ⟨.ref t, rfl, t, m, 6, rfl, ht, by decide, by decide, fun wy m1 w0 w1 => ?_⟩
  have k1 : Kp t H (upd H t (.lst [.int m1])) := (Kp.refl tp).tape
  refine ⟨.int wy, rfl, wy, 2, rfl, rfl, _, rfl, ite2 (fun e => ?_) (fun e => ?_)⟩
  · exact q none _ (fun i z => nomatch z) rfl k1
  · have hw : 2 ≤ wy := by
      by_cases z : wy < 2
      · exact absurd (decide_eq_true z) e
      · omega
    refine ⟨.int n, rfl, .int n, rfl, .ref t, rfl, t, m1, 3, rfl, upd_same, by decide, by decide, fun d m2 d0 d1 => ⟨n, d, rfl, rfl, 10, 12, rfl, rfl, cpow12, .int n, rfl, .ref t, rfl, 10, 11, rfl, rfl, cpow11, ?_⟩⟩
    refine ⟨t, m2, _, rfl, upd_same, (by rw [pow11]; decide), (by rw [pow11]; decide), fun d2 m3 e0 e1 => ⟨n, d2, rfl, rfl, (by show 4 ≤ sizeLine; decide), fun p np => ?_⟩⟩
    rw [pow11] at e1
    have k4 := ((k1.tape (n := m2)).tape (n := m3)).lay (o := .lst [V.int n, .int (n + d), .int ((10 : Int) ^ Int.toNat 12), .int (n + d2)]) np
    obtain ⟨c, hc, hk⟩ : ∃ c : Int, ([V.int n, .int (n + d), .int ((10 : Int) ^ Int.toNat 12), .int (n + d2)] : List V)[(wy - 2).toNat]? = some (.int c) ∧ (0 ≤ c ∧ c ≤ 1000000000000 ∧ n ≤ c) := by
      have : (wy - 2).toNat = 0 ∨ (wy - 2).toNat = 1 ∨ (wy - 2).toNat = 2 ∨ (wy - 2).toNat = 3 := by omega
      rcases this with h | h | h | h
      · rw [h]; exact ⟨n, rfl, by omega, by omega, by omega⟩
      · rw [h]; exact ⟨n + d, rfl, by omega, by omega, by omega⟩
      · rw [h]; exact ⟨(10 : Int) ^ Int.toNat 12, rfl, by rw [pow12]; decide, by rw [pow12]; decide, by rw [pow12]; omega⟩
      · rw [h]; exact ⟨n + d2, rfl, by omega, by omega, by omega⟩
    refine ⟨.int wy, rfl, wy, 2, rfl, rfl, p, _, wy - 2, .int c, rfl, rfl, SqL.of upd_same, at_of (j := (wy - 2).toNat) (by omega) hc, ?_⟩
    exact q (some c) _ (fun i z => by obtain rfl := Option.some.inj z; exact ⟨hk.1, hk.2.1⟩) (decide_eq_true hk.2.2) k4
theorem sc_l_caps : FnScope ["_law_tape_here", "_law_table_here", "_law_row", "_law_number_here"] ["_law_tape_here", "_law_table_here"] (defScope s_l_caps) :=
  ⟨rfl, rfl, rfl, by decide +kernel, rfl, by decide +kernel, by decide +kernel⟩
theorem ok_llcaps {f : Addr} {fd : FuncData} (F : Fun K "_law_caps" "_law_caps" s_l_caps f fd) (T : Txt K mg C tG tL) (c_l_digit : Cal P w K mg base CX0 1 "_law_digit" ["_law_tape_here", "_law_size"] sp_digit) (c_l_cap : Cal P w K mg base CX0 2 "_law_cap" ["_law_tape_here", "_law_number_here"] sp_lcap) : FnOk P w K mg base CX0 3 f fd ["_law_tape_here", "_law_table_here"] sp_llcaps := by
  refine F.ok sc_l_caps (fun vs H Q E ⟨t, p, ls, tb, wd, e, _⟩ => by rw [e]; rfl) (fun cdv A outer s H vs Q E hr h => ?_)
  obtain ⟨t, p, ls, tb, wd, rfl, tp, TB, TT, q⟩ := h
  obtain ⟨m, ht⟩ := id tp
  have hlen := TB.rows.length
  have h6 := TT.h6
  have w6 := TT.w6
  refine ⟨_, (pss_cons (ps_if (pt_cmpR op_eq (pe_cal c_l_digit (hr.mono (by decide)) (by rfl) pass0 (pa_cons (pv 0) (pa_cons pe_int pa_nil))) pe_int (nomark _))
  (pss_one (ps_ret (pe_lc (own := [("_law_row", 2)]) (by rfl) sc_l_caps.nd (pi_list (pv 1)) (blkOk_by (own := [("_law_row", 2)]) (N := ["_law_tape_here", "_law_table_here", "_law_row", "_law_number_here"]) (sc := defScope s_l_caps) (by decide +kernel)) (fun _ _ _ _ _ => (pg_name (i := 2) sc_l_caps.nd rfl (by first | exact Or.inl rfl | exact Or.inr rfl))) (fun _ _ _ _ _ => pts_nil) (fun _ _ _ _ _ => (pe_op op_rep (pe_lst (pa_cons pe_non pa_nil)) (pe_callB (len_ofK (K := K) rfl) (by rfl) T.n_len (by decide +kernel) (pa_cons (pv 2) pa_nil)))))))
  pss_nil)
  (pss_one (ps_ret (pe_lc (own := [("_law_row", 2)]) (by rfl) sc_l_caps.nd (pi_list (pv 1)) (blkOk_by (own := [("_law_row", 2)]) (N := ["_law_tape_here", "_law_table_here", "_law_row", "_law_number_here"]) (sc := defScope s_l_caps) (by decide +kernel)) (fun _ _ _ _ _ => (pg_name (i := 2) sc_l_caps.nd rfl (by first | exact Or.inl rfl | exact Or.inr rfl))) (fun _ _ _ _ _ => pts_nil) (fun _ _ _ _ _ => (pe_lc (own := [("_law_number_here", 3)]) (by rfl) sc_l_caps.nd (pi_listK (K := K) rfl (pv 2)) (by refine blkOk_by ?_; kernel_rfl) (fun _ _ _ _ _ => (pg_name (i := 3) sc_l_caps.nd rfl (by first | exact Or.inl rfl | exact Or.inr rfl))) (fun _ _ _ _ _ => pts_nil) (fun _ _ _ _ _ => (pe_cal c_l_cap (hr.mono (by decide)) (by rfl) pass0 (pa_cons (pv 0) (pa_cons (pv 3) pa_nil)))))))))), ?_⟩
  refine ⟨.ref t, rfl, t, m, 4, rfl, ht, by decide, by decide, fun wy m1 w0 w1 => ?_⟩
  have k1 : Kp t H (upd H t (.lst [.int m1])) := (Kp.refl tp).tape
  have TB1 := TB.kp k1
  have tp1 := k1.2
  generalize upd H t (.lst [.int m1]) = H1 at k1 TB1 tp1 ⊢
  -- the end of a turn
  have fin : ∀ (D B : Addr) (H' H3 : Hp) (i : Nat) (ks : List Addr) (ms : List (List (Option Int))) (mm : List (Option Int)), H1 D = none → D ≠ t → Kp t H1 H' → H' D = some (.lst (ks.map V.ref)) → RowsC H' ks ms → ms.length = i → i < 6 → (∀ k ∈ ks, H1 k = none ∧ k ≠ D ∧ k ≠ t) → ((∀ m ∈ ms, m.length = wd ∧ ∀ c ∈ m, capOk c) ∧ within (tb.take i) ms = true) →
      H' B = none → Kp t H' H3 → H3 B = some (.lst (mm.map capV)) → mm.length = wd → (∀ c ∈ mm, capOk c) → ∀ r, tb[i]? = some r → rowWithin r mm = true → ∃ acc, H3 D = some (.lst acc) ∧ acc.length < sizeLine ∧ (Kp t H1 (upd H3 D (.lst (acc ++ [V.ref B]))) ∧ ∃ (ks : List Addr) (ms : List (List (Option Int))), (upd H3 D (.lst (acc ++ [V.ref B]))) D = some (.lst (ks.map V.ref)) ∧ RowsC (upd H3 D (.lst (acc ++ [V.ref B]))) ks ms ∧ ms.length = i + 1 ∧ (∀ k ∈ ks, H1 k = none ∧ k ≠ D ∧ k ≠ t) ∧ (∀ m ∈ ms, m.length = wd ∧ ∀ c ∈ m, capOk c) ∧ within (tb.take (i + 1)) ms = true) := by
    intro D B H' H3 i ks ms mm nD hDt kp hks rows hl hi hfr hb nB kp3 hB hml hmb r hr hwr
    have hBD : B ≠ D := fun z => by rw [z, hks] at nB; cases nB
    have hBt : B ≠ t := fun z => by obtain ⟨m, e⟩ := kp.2; rw [z, e] at nB; cases nB
    refine ⟨_, kp3.1 _ _ hks hDt, ?_, (kp.trans kp3).put nD hDt, ks ++ [B], ms ++ [mm], by rw [upd_same, List.map_append]; rfl, ?_, by rw [List.length_append, hl]; rfl, fun l hl' => ?_, fun x hx => ?_, ?_⟩
    · rw [List.length_map, rows.length, hl]
      exact Nat.lt_trans hi (by decide)
    · refine (rows.keep fun l hl' o e => ?_).append (.cons ?_ .nil)
      · rw [upd_ne (hfr l hl').2.1]
        exact kp3.1 _ _ e (hfr l hl').2.2
      · rw [upd_ne hBD]; exact hB
    · rcases List.mem_append.mp hl' with z | z
      · exact hfr l z
      · obtain rfl : l = B := by simpa using z
        exact ⟨kp.free tp1 nB, hBD, hBt⟩
    · rcases List.mem_append.mp hx with z | z
      · exact hb.1 x z
      · obtain rfl : x = mm := by simpa using z
        exact ⟨hml, hmb⟩
    · rw [List.take_add_one, hr]
      refine within_snoc hb.2 hwr ?_
      have := (List.getElem?_eq_some_iff.mp hr).1
      rw [List.length_take, hl]; omega
  refine ⟨rfl, _, rfl, ite2 (fun e => ?_) (fun e => ?_)⟩
  · refine ⟨.ref p, rfl, p, rfl, ⟨_, SqL.of TB1.at_⟩, fun D nD => ?_⟩
    have hDt : D ≠ t := fun z => by obtain ⟨m, e⟩ := tp1; rw [z, e] at nD; cases nD
    refine lc_list (K := K) (xs := ls.map V.ref) (fun i H' => Kp t H1 H' ∧ ∃ (ks : List Addr) (ms : List (List (Option Int))), H' D = some (.lst (ks.map V.ref)) ∧ RowsC H' ks ms ∧ ms.length = i ∧ (∀ k ∈ ks, H1 k = none ∧ k ≠ D ∧ k ≠ t) ∧ (∀ m ∈ ms, m.length = wd ∧ ∀ c ∈ m, capOk c) ∧ within (tb.take i) ms = true) ⟨(Kp.refl tp1).lay nD, [], [], upd_same, .nil, rfl, (fun _ z => (nomatch z)), (fun _ z => (nomatch z)), rfl⟩ (fun i H' _ p' => SqL.of (TB1.kp p'.1).at_) (fun i x H' hx p' => ?_) (fun H' p' => ?_)
    · obtain ⟨kp, ks, ms, hks, rows, hl, hfr, hb⟩ := p'
      obtain ⟨k, hk, rfl⟩ := some_get hx
      obtain ⟨r, hr', hk2⟩ := (TB1.kp kp).rows.get hk
      have rl := (TT.row r (List.mem_of_getElem? hr')).1
      have hi : i < 6 := by have := (List.getElem?_eq_some_iff.mp hk).1; omega
      refine ⟨rfl, (by show 1 ≤ sizeLine; decide), fun b1 nb1 => ?_⟩
      have kb := same_upd (o := .lst [V.non]) nb1
      refine ⟨.ref k, rfl, k, _, rfl, .inl (SqL.of (kb _ _ hk2)), b1, _, _, rfl, rfl, upd_same, by rw [List.length_map]; omega, by rw [List.length_map]; omega, ?_, fun B nB => ?_⟩
      · rw [List.length_map, Int.toNat_natCast]
        show 1 * r.length ≤ sizeLine
        exact Nat.le_trans (by omega : 1 * r.length ≤ 6) (by decide)
      · have kp3 := ((Kp.refl kp.2).same kb).lay (o := .lst ((List.replicate (Int.toNat ((r.map V.int).length : Nat)) [V.non]).flatten)) nB
        refine fin D B H' _ i ks ms (List.replicate wd none) nD hDt kp hks rows hl hi hfr hb (kb.free nB) kp3 ?_ List.length_replicate (fun c hc => ?_) r hr' (rowWithin_none r wd)
        · rw [upd_same, flat_single, Int.toNat_natCast, List.length_map, rep_non, rl]
        · rw [(List.mem_replicate.mp hc).2]; exact fun i z => nomatch z
    · obtain ⟨kp, ks, ms, hks, rows, hl, hfr, hb⟩ := p'
      rw [List.length_map, hlen] at hl
      exact q H' D ks ms (k1.trans kp) (k1.free tp nD) hDt hks rows (fun k hk => ⟨k1.free tp (hfr k hk).1, (hfr k hk).2⟩) hl hb.1 (by rw [List.length_map, hlen, List.take_length] at hb; exact hb.2)
  · refine ⟨.ref p, rfl, p, rfl, ⟨_, SqL.of TB1.at_⟩, fun D nD => ?_⟩
    have hDt : D ≠ t := fun z => by obtain ⟨m, e⟩ := tp1; rw [z, e] at nD; cases nD
    refine lc_list (K := K) (xs := ls.map V.ref) (fun i H' => Kp t H1 H' ∧ ∃ (ks : List Addr) (ms : List (List (Option Int))), H' D = some (.lst (ks.map V.ref)) ∧ RowsC H' ks ms ∧ ms.length = i ∧ (∀ k ∈ ks, H1 k = none ∧ k ≠ D ∧ k ≠ t) ∧ (∀ m ∈ ms, m.length = wd ∧ ∀ c ∈ m, capOk c) ∧ within (tb.take i) ms = true) ⟨(Kp.refl tp1).lay nD, [], [], upd_same, .nil, rfl, (fun _ z => (nomatch z)), (fun _ z => (nomatch z)), rfl⟩ (fun i H' _ p' => SqL.of (TB1.kp p'.1).at_) (fun i x H' hx p' => ?_) (fun H' p' => ?_)
    · obtain ⟨kp, ks, ms, hks, rows, hl, hfr, hb⟩ := p'
      obtain ⟨k, hk, rfl⟩ := some_get hx
      have TB2 := TB1.kp kp
      obtain ⟨r, hr', hk2⟩ := TB2.rows.get hk
      obtain ⟨rl, rb⟩ := TT.row r (List.mem_of_getElem? hr')
      have hkt := TB.nl k (List.mem_of_getElem? hk)
      have hi : i < 6 := by have := (List.getElem?_eq_some_iff.mp hk).1; omega
      refine ⟨rfl, .ref k, rfl, k, rfl, ⟨_, SqL.of hk2⟩, fun B nB => ?_⟩
      have hBt : B ≠ t := fun z => by obtain ⟨m, e⟩ := kp.2; rw [z, e] at nB; cases nB
      refine lc_list (K := K) (xs := r.map V.int) (fun j H3 => Kp t H' H3 ∧ ∃ mm : List (Option Int), H3 B = some (.lst (mm.map capV)) ∧ mm.length = j ∧ (∀ c ∈ mm, capOk c) ∧ rowWithin (r.take j) mm = true) ⟨(Kp.refl kp.2).lay nB, [], upd_same, rfl, (fun _ z => (nomatch z)), rfl⟩ (fun j H3 _ p3 => SqL.of (p3.1.1 _ _ hk2 hkt)) (fun j x H3 hx p3 => ?_) (fun H3 p3 => ?_)
      · obtain ⟨kp3, mm, hmm, hml, hmb, hmw⟩ := p3
        obtain ⟨n, hn, rfl⟩ := some_get hx
        have nb := rb n (List.mem_of_getElem? hn)
        refine ⟨rfl, .ref t, rfl, .int n, rfl, t, n, rfl, kp3.2, nb.1, nb.2, fun c H4 hc hcw kp4 => ⟨_, kp4.1 _ _ hmm hBt, ?_, (kp3.trans kp4).put nB hBt, mm ++ [c], by rw [upd_same, List.map_append]; rfl, by rw [List.length_append, hml]; rfl, (fun c' hc' => ?_), ?_⟩⟩
        · rw [List.length_map, hml]
          have := (List.getElem?_eq_some_iff.mp hn).1
          exact Nat.lt_of_lt_of_le (show j < 7 by omega) (by decide)
        · rcases List.mem_append.mp hc' with z | z
          · exact hmb c' z
          · obtain rfl : c' = c := by simpa using z
            exact hc
        · rw [List.take_add_one, hn]
          refine rowWithin_snoc hmw hcw ?_
          have := (List.getElem?_eq_some_iff.mp hn).1
          rw [List.length_take, hml]; omega
      · obtain ⟨kp3, mm, hmm, hml, hmb, hmw⟩ := p3
        rw [List.length_map, List.take_length] at hmw
        rw [List.length_map, rl] at hml
        exact fin D B H' H3 i ks ms mm nD hDt kp hks rows hl hi hfr hb nB kp3 hmm hml hmb r hr' hmw
    · obtain ⟨kp, ks, ms, hks, rows, hl, hfr, hb⟩ := p'
      rw [List.length_map, hlen] at hl
      exact q H' D ks ms (k1.trans kp) (k1.free tp nD) hDt hks rows (fun k hk => ⟨k1.free tp (hfr k hk).1, (hfr k hk).2⟩) hl hb.1 (by rw [List.length_map, hlen, List.take_length] at hb; exact hb.2)
end
end Kp14
set_option Elab.async false
set_option linter.all false
set_option maxRecDepth 100000
set_option maxHeartbeats 4000000
namespace Kp14
open PySem PySem.Spec PyProof.Rows L2 Vf
/-! ### sums told, and whether a table is so -/
theorem pair_show {rs cs : List Int} (r7 : rs.length ≤ 7) (c7 : cs.length ≤ 7) (rb : ∀ r ∈ rs, 0 ≤ r ∧ r ≤ 1000000000000) (cb : ∀ r ∈ cs, 0 ≤ r ∧ r ≤ 1000000000000) : (pairD rs cs).showable = true ∧ (pairD rs cs).hasDict = false ∧ (pairD rs cs).depth ≤ 60 ∧ (pairD rs cs).shown.length ≤ sizeLine := by
  obtain ⟨a1, a2, a3⟩ := nice_ints rs rb
  obtain ⟨b1, b2, b3⟩ := nice_ints cs cb
  have n : Nice (pairD rs cs) = true := by
    show (NiceL (rs.map PyData.int) && (NiceL (cs.map PyData.int) && true)) = true
    rw [a1, b1]; rfl
  have h : nodes (pairD rs cs) ≤ 1000 := by
    show 1 + ((1 + nodesL (rs.map PyData.int)) + ((1 + nodesL (cs.map PyData.int)) + 0)) ≤ 1000
    omega
  have dd : (pairD rs cs).depth ≤ 60 := by
    show max (PyData.depthAll (rs.map PyData.int) + 1) (max (PyData.depthAll (cs.map PyData.int) + 1) 0) + 1 ≤ 60
    omega
  obtain ⟨h1, h2, h3⟩ := nice_show _ n
  exact ⟨h1, h2, dd, by rw [sizeLine_eq]; omega⟩
theorem sum_le {m : Int} : ∀ (r : List Int), (∀ n ∈ r, 0 ≤ n ∧ n ≤ m) → 0 ≤ r.sum ∧ r.sum ≤ m * r.length
  | [], _ => by simp
  | x :: r, h => by
    obtain ⟨h1, h2⟩ := sum_le r fun n hn => h n (List.mem_cons_of_mem _ hn)
    have hx := h x List.mem_cons_self
    rw [List.sum_cons, List.length_cons]
    have e : m * ((r.length + 1 : Nat) : Int) = m * r.length + m := by rw [Int.natCast_add, Int.mul_add]; simp
    rw [e]
    omega
theorem Tab.rowb {tb : List (List Int)} {wd : Nat} (T : Tab tb wd) : ∀ r ∈ rowSums tb, 0 ≤ r ∧ r ≤ 1000000000000 := fun r hr => by
  obtain ⟨x, hx, rfl⟩ := List.mem_map.mp hr
  obtain ⟨h1, h2⟩ := T.row x hx
  obtain ⟨a, b⟩ := sum_le (m := 83000000000) x fun n hn => ⟨(h2 n hn).1, Int.le_of_lt (h2 n hn).2⟩
  have := T.w6
  rw [h1] at b
  exact ⟨a, by omega⟩
theorem Tab.colb {tb : List (List Int)} {wd : Nat} (T : Tab tb wd) : ∀ r ∈ colSums tb wd, 0 ≤ r ∧ r ≤ 1000000000000 := fun r hr => by
  obtain ⟨j, hj, rfl⟩ := List.mem_map.mp hr
  rw [List.mem_range] at hj
  obtain ⟨a, b⟩ := sum_le (m := 83000000000) (tb.map fun r => r.getD j 0) fun n hn => by
    obtain ⟨x, hx, rfl⟩ := List.mem_map.mp hn
    obtain ⟨h1, h2⟩ := T.row x hx
    have hjx : j < x.length := by rw [h1]; exact hj
    rw [List.getD_eq_getElem?_getD, List.getElem?_eq_getElem hjx]
    have := h2 _ (List.getElem_mem hjx)
    exact ⟨this.1, Int.le_of_lt this.2⟩
  have := T.h6
  rw [List.length_map] at b
  exact ⟨a, by omega⟩
theorem lay_rows : ∀ tb : List (List Int), PyData.canLayAll0 (tb.map fun r => .list (r.map PyData.int)) = true ∧ PyData.depthAll (tb.map fun r => .list (r.map PyData.int)) ≤ 1
  | [] => ⟨rfl, Nat.zero_le _⟩
  | r :: tb => by
    obtain ⟨h1, h2⟩ := lay_rows tb
    refine ⟨?_, ?_⟩
    · show (PyData.canLayAll0 (r.map PyData.int) && PyData.canLayAll0 (tb.map fun r => .list (r.map PyData.int))) = true
      rw [h1, (lay_ints r).1]; rfl
    · show max (PyData.depthAll (r.map PyData.int) + 1) (PyData.depthAll (tb.map fun r => .list (r.map PyData.int))) ≤ 1
      rw [(lay_ints r).2]
      omega
def tabD (tb : List (List Int)) : PyData := .list (tb.map fun r => .list (r.map PyData.int))
theorem shaped_tab (tb : List (List Int)) : SeqAt.shaped (tabD tb) = true := by
  show (PyData.canLayAll0 (tb.map fun r => .list (r.map PyData.int)) && decide (PyData.depthAll (tb.map fun r => .list (r.map PyData.int)) + 1 ≤ 64)) = true
  have := (lay_rows tb).2
  rw [(lay_rows tb).1, decide_eq_true (by omega)]; rfl
theorem shaped_ints (rs : List Int) : SeqAt.shaped (.list (rs.map PyData.int)) = true := by
  show (PyData.canLayAll0 (rs.map PyData.int) && decide (PyData.depthAll (rs.map PyData.int) + 1 ≤ 64)) = true
  rw [(lay_ints rs).1, (lay_ints rs).2]; rfl
theorem eqv_nil (tb : List (List Int)) : PyData.eqv (tabD tb) (tabD []) = tb.isEmpty := by cases tb <;> rfl
theorem dp_tab {K : PySem.W.Frag} {H : Hp} : ∀ {ls : List Addr} {tb : List (List Int)}, RowsN H ls tb → DpAll K H (ls.map V.ref) (tb.map fun r => .list (r.map PyData.int))
  | _, _, .nil => .nil
  | _, _, .cons h r => .cons (.lst (SqL.of h) (dp_intsL _)) (dp_tab r)
theorem eqv_intsD (a b : List Int) : PyData.eqv (.list (a.map PyData.int)) (.list (b.map PyData.int)) = decide (a = b) := eqv_ints a b
/-! ### orders and columns of the program -/
def ixV (l : List Nat) : List V := l.map fun i => V.int (i : Nat)
def orderOf (d : Dt) : List Nat := (rowI d).map Int.toNat
def isOrder (n : Nat) (d : Dt) : Bool := d.items.isSome && (d.items.getD []).all (isPlace n) && (orderOf d).isPerm (List.range n)
def ex1 (l : List Int) (o : List Nat) : List Int := o.map fun i => l.getD i 0
def exch {α : Type} (z : α) (ms : List (List α)) (ro co : List Nat) : List (List α) := ro.map fun i => co.map fun j => (ms.getD i []).getD j z
theorem getD_map {α β : Type} (f : α → β) (l : List α) (i : Nat) (z : α) : (l.map f).getD i (f z) = f (l.getD i z) := by
  rw [List.getD_eq_getElem?_getD, List.getD_eq_getElem?_getD, List.getElem?_map]
  cases l[i]? <;> rfl
theorem exch_map {α β : Type} (f : α → β) (z : α) (ms : List (List α)) (ro co : List Nat) : exch (f z) (ms.map (·.map f)) ro co = (exch z ms ro co).map (·.map f) := by
  unfold exch
  rw [List.map_map]
  refine List.map_congr_left fun i _ => ?_
  show _ = (co.map fun j => (ms.getD i []).getD j z).map f
  rw [List.map_map]
  refine List.map_congr_left fun j _ => ?_
  have e : (ms.map (·.map f)).getD i [] = (ms.getD i []).map f := getD_map (·.map f) ms i []
  rw [e, getD_map]
  rfl
/-- the value that stands where there is none does not matter within -/
theorem exch_in {α : Type} {z z' : α} {ms : List (List α)} {ro co : List Nat} {hh wd : Nat} (hl : ms.length = hh) (hw : ∀ m ∈ ms, m.length = wd) (hr : ∀ i ∈ ro, i < hh) (hc : ∀ j ∈ co, j < wd) : exch z ms ro co = exch z' ms ro co := by
  unfold exch
  refine List.map_congr_left fun i hi => List.map_congr_left fun j hj => ?_
  have hil : i < ms.length := by rw [hl]; exact hr i hi
  have e : ms.getD i [] = ms[i] := by rw [List.getD_eq_getElem?_getD, List.getElem?_eq_getElem hil]; rfl
  have hjl : j < ms[i].length := by rw [hw _ (List.getElem_mem hil)]; exact hc j hj
  rw [e, List.getD_eq_getElem?_getD, List.getD_eq_getElem?_getD, List.getElem?_eq_getElem hjl]
  rfl
theorem place_int {n : Nat} {d : Dt} (h : isPlace n d = true) : ∃ i : Nat, d = .int i ∧ i < n := by
  cases d with
  | int z =>
    have e : (decide (0 ≤ z) && decide (z < (n : Nat))) = true := h
    rw [Bool.and_eq_true, decide_eq_true_eq, decide_eq_true_eq] at e
    exact ⟨z.toNat, by rw [Int.toNat_of_nonneg e.1], by omega⟩
  | _ => cases h
theorem places_row {n : Nat} : ∀ {l : List Dt}, l.all (isPlace n) = true → ∃ o : List Nat, l = o.map (fun i => Dt.int (i : Nat)) ∧ ∀ i ∈ o, i < n
  | [], _ => ⟨[], rfl, fun _ z => nomatch z⟩
  | d :: l, h => by
    rw [List.all_cons, Bool.and_eq_true] at h
    obtain ⟨o, e, g⟩ := places_row h.2
    obtain ⟨i, rfl, hi⟩ := place_int h.1
    refine ⟨i :: o, by rw [e]; rfl, fun j hj => ?_⟩
    rcases List.mem_cons.mp hj with rfl | hj
    · exact hi
    · exact g j hj
theorem order_of {d : Dt} {o : List Nat} (e : d.items = some (o.map fun i => Dt.int (i : Nat))) : orderOf d = o ∧ rowI d = o.map fun i : Nat => (i : Int) := by
  have r : rowI d = o.map fun i : Nat => (i : Int) := by
    unfold rowI
    rw [e]
    show (o.map fun i => Dt.int (i : Nat)).map toI = _
    rw [List.map_map]
    rfl
  refine ⟨?_, r⟩
  unfold orderOf
  rw [r, List.map_map]
  exact (List.map_congr_left fun i _ => by show Int.toNat (i : Int) = i; simp).trans (List.map_id o)
theorem int_perm {a b : List Nat} (h : (a.map fun i : Nat => (i : Int)).Perm (b.map fun i : Nat => (i : Int))) : a.Perm b := by
  have h2 := h.map Int.toNat
  rw [List.map_map, List.map_map] at h2
  have e : ∀ l : List Nat, l.map (Int.toNat ∘ fun i : Nat => (i : Int)) = l := fun l => (List.map_congr_left fun i _ => by show Int.toNat (i : Int) = i; simp).trans (List.map_id l)
  rw [e, e] at h2
  exact h2
theorem rg_nat (n : Nat) : rgV 0 (n : Int) = ((List.range n).map fun i : Nat => (i : Int)).map V.int := by
  unfold rgV
  rw [List.map_map]
  have e : ((n : Int) - 0).toNat = n := by omega
  rw [e]
  refine List.map_congr_left fun i _ => ?_
  show V.int (0 + (i : Int)) = V.int (i : Int)
  rw [Int.zero_add]
theorem range_rises (n : Nat) : ((List.range n).map fun i : Nat => (i : Int)).Pairwise (· ≤ ·) := by
  rw [List.pairwise_map]
  exact List.pairwise_lt_range.imp fun {a b} h => by omega
theorem sorted_one : ∀ {a b : List Int}, a.Perm b → a.Pairwise (· ≤ ·) → b.Pairwise (· ≤ ·) → a = b := fun h1 h2 h3 => h1.eq_of_pairwise (fun x y _ _ h4 h5 => Int.le_antisymm h4 h5) h2 h3
def sp_wanted_order (K : PySem.W.Frag) (N3 : Addr) : Sp := fun vs H Q E => ∃ (v : V) (d : Dt) (n : Nat), vs = [v, .int n] ∧ Rp K H v d ∧ n ≤ 6 ∧ lenD d ≤ 1000 ∧ (isOrder n d = false → ∀ H', Same H H' → E (.ref N3) none H') ∧
  (isOrder n d = true → ∀ (H' : Hp) (D : Addr), Same H H' → H D = none → H' D = some (.lst (ixV (orderOf d))) → Q (.ref D) H')
def sp_exchanged_rows (K : PySem.W.Frag) : Sp := fun vs H Q _ => ∃ (R a b : Addr) (ls : List Addr) (ms : List (List V)) (ro co : List Nat) (hh wd : Nat), vs = [.ref R, .ref a, .ref b] ∧ SqL K H R (ls.map V.ref) ∧ RowsQ K H ls ms ∧ SqL K H a (ixV ro) ∧ SqL K H b (ixV co) ∧
  ms.length = hh ∧ (∀ m ∈ ms, m.length = wd) ∧ ro.length ≤ 6 ∧ co.length ≤ 6 ∧ (∀ i ∈ ro, i < hh) ∧ (∀ j ∈ co, j < wd) ∧
  ∀ (H' : Hp) (D : Addr) (ks : List Addr), Same H H' → H D = none → H' D = some (.lst (ks.map V.ref)) → RowsF H H' ks (exch .non ms ro co) → (∀ k ∈ ks, k ≠ D) → Q (.ref D) H'
section
variable {P : Program} {w : World} {K : PySem.W.Frag} {mg : Str → Option Value} {base : Heap} {C : Nat → Addr} {tG tL : Tok} {CF : Addr}
theorem sc_wanted_order : FnScope ["thing", "many", "item"] ["thing", "many"] (defScope s_wanted_order) :=
  ⟨rfl, rfl, rfl, by decide +kernel, rfl, by decide +kernel, by decide +kernel⟩
theorem ok_wanted_order {f : Addr} {fd : FuncData} (F : Fun K "wanted_order" "wanted_order" s_wanted_order f fd) (T : Txt K mg C tG tL) (c_is_list : Cal P w K mg base CX0 1 "is_list" ["thing"] (sp_is_list K)) (c_is_place : Cal P w K mg base CX0 2 "is_place" ["thing", "many"] (sp_is_place K)) :
    FnOk P w K mg base (L2.CX P w) 3 f fd ["thing", "many"] (sp_wanted_order K (C 3)) := by
  refine F.okX sc_wanted_order (fun vs H Q E ⟨v, d, n, e, _⟩ => by rw [e]; rfl) (fun cdv A outer s H vs Q E hr h => ?_)
  obtain ⟨v, d, n, rfl, R, hn, hl, qE, qQ⟩ := h
  refine ⟨_, (pss_cons (ps_if (PW.pt (pw_or (pt_not (pt_val (pe_cal c_is_list (hr.mono (by decide)) (by rfl) pass0 (pa_cons (pv 0) pa_nil)))) (pw_or1 (pt_not (pt_val (pe_callB (allK (K := K) rfl rfl) (by rfl) T.n_all (by decide +kernel) (pa_cons (pe_lcS (own := [("item", 2)]) (by rfl) sc_wanted_order.nd (pv 0) mono_var (blkOk_by (own := [("item", 2)]) (N := ["thing", "many", "item"]) (sc := defScope s_wanted_order) (by decide +kernel)) (fun _ _ _ _ _ => (pg_name (i := 2) sc_wanted_order.nd rfl (by first | exact Or.inl rfl | exact Or.inr rfl))) (fun _ _ _ _ _ => pts_nil) (fun _ _ _ _ _ => (pe_cal c_is_place (hr.mono (by decide)) (by rfl) pass0 (pa_cons (pv 2) (pa_cons (pv 1) pa_nil))))) pa_nil)))))))
  (pss_one (ps_raise rfl (takes_of rfl rfl rfl rfl) (pmk_own PySem.F.excBase_ValueError T.NoOrder.x T.NoOrder.g T.NoOrder.k (raises_own T.NoOrder.b T.NoOrder.t) (by exact rfl))))
  pss_nil)
  (pss_cons (ps_if (pt_cmpR (op_neDK (K := K) rfl hr.units) (pe_callB (sortedVK (K := K) rfl) (by rfl) T.n_sorted (by decide +kernel) (pa_cons (pv 0) pa_nil)) (pe_listRg (by rfl) (by rfl) T.n_list (prg_1 (by rfl) T.n_range (pv 1))) (nomark _))
  (pss_one (ps_raise rfl (takes_of rfl rfl rfl rfl) (pmk_own PySem.F.excBase_ValueError T.NoOrder.x T.NoOrder.g T.NoOrder.k (raises_own T.NoOrder.b T.NoOrder.t) (by exact rfl))))
  pss_nil)
  (pss_one (ps_ret (pe_callTy (list_ofK (K := K) rfl) (by rfl) T.n_list (by decide +kernel) (pa_cons (pv 0) pa_nil)))))), ?_⟩
  refine ⟨v, rfl, v, d, rfl, R, fun H1 s1 => ⟨_, rfl, ?_⟩⟩
  cases ed : d.items with
  | none => exact qE (by unfold isOrder; rw [ed]; rfl) H1 s1
  | some l =>
    obtain ⟨a, xs, rfl, hS, hR⟩ := (R.same s1).items_some ed
    have hlen := hR.length
    have hl' : l.length ≤ 1000 := by unfold lenD at hl; rw [ed] at hl; exact hl
    refine ⟨.ref a, rfl, a, xs, (fun D i H' => Same H1 H' ∧ H' D = some (.lst (((l.take i).map (isPlace n)).map V.bl))), rfl, hS, (fun D nD => ⟨same_upd nD, upd_same⟩), (fun D i H' nD _ p => p.1), (fun D i x H' nD hx p => ?_), (fun D H2 nD p => ?_)⟩
    · obtain ⟨y, hy, rxy⟩ := hR.get hx
      refine ⟨rfl, x, rfl, .int n, rfl, x, y, n, rfl, rxy.same p.1, _, p.2, ?_, ?_, ?_⟩
      · rw [List.length_map, List.length_map, List.length_take]
        exact Nat.lt_of_le_of_lt (Nat.le_trans (Nat.min_le_right _ _) hl') (by decide)
      · exact fun b o e => by rw [upd_ne (ne_of_none e nD)]; exact p.1 b o e
      · rw [upd_same, List.take_add_one, hy]
        simp
    · rw [hlen, List.take_length] at p
      refine ⟨D, l.map (isPlace n), rfl, .inl (.inl p.2), _, rfl, ?_⟩
      rw [List.all_map]
      cases e2 : l.all (id ∘ isPlace n) with
      | false =>
        have e2' : l.all (isPlace n) = false := e2
        refine qE ?_ H2 (s1.trans p.1)
        unfold isOrder
        rw [ed]
        show (true && l.all (isPlace n) && _) = false
        rw [e2']; rfl
      | true =>
        have e2' : l.all (isPlace n) = true := e2
        obtain ⟨o, rfl, ho⟩ := places_row e2'
        obtain ⟨eo, er⟩ := order_of ed
        have exs : xs = ixV o := by
          have g : ∀ {xs : List V} {o : List Nat}, RpL K H1 xs (o.map fun i => Dt.int (i : Nat)) → xs = ixV o := fun {xs o} h => by
            induction o generalizing xs with
            | nil => cases h; rfl
            | cons i o ih =>
              cases h with
              | cons h1 h2 =>
                cases h1
                rw [ih h2]; rfl
          exact g hR
        have exi : ixV o = (o.map fun i : Nat => (i : Int)).map V.int := by unfold ixV; rw [List.map_map]; rfl
        rw [exs] at hS
        have hS2 := hS.same p.1
        have isO : isOrder n d = o.isPerm (List.range n) := by
          unfold isOrder
          rw [ed, eo]
          show (true && (o.map fun i => Dt.int (i : Nat)).all (isPlace n) && _) = _
          rw [e2']; rfl
        refine ⟨.ref a, rfl, a, o.map fun i : Nat => (i : Int), rfl, by rw [← exi]; exact hS2, fun ms q1 pm rise nq1 => ?_⟩
        have k1 := same_upd (o := .lst (ms.map V.int)) nq1
        refine ⟨.int n, rfl, (n : Int), rfl, RgOk.of_le (by decide) (by omega) (by decide) (by omega), fun q2 nq2 => ?_⟩
        rw [rg_nat]
        have k2 := same_upd (o := .lst (((List.range n).map fun i : Nat => (i : Int)).map V.int)) nq2
        refine ⟨_, _, .lst (SqL.of (k2 _ _ upd_same)) (dp_ints ms), .lst (SqL.of upd_same) (dp_ints _), shaped_ints _, shaped_ints _, _, rfl, ?_⟩
        rw [eqv_intsD]
        have sA := ((s1.trans p.1).trans k1).trans k2
        by_cases z : ms = (List.range n).map fun i : Nat => (i : Int)
        · rw [decide_eq_true z]
          have hp : o.isPerm (List.range n) = true := List.isPerm_iff.mpr (int_perm (pm.symm.trans (by rw [z])))
          refine ⟨.ref a, rfl, a, _, rfl, (hS2.same (k1.trans k2)), fun l nl => ?_⟩
          have k3 := same_upd (o := .lst (ixV o)) nl
          exact qQ (by rw [isO]; exact hp) _ l (sA.trans k3) (sA.free nl) (by rw [eo]; exact upd_same)
        · rw [decide_eq_false z]
          refine qE ?_ _ sA
          rw [isO, Bool.eq_false_iff]
          intro hp
          have hp := (List.isPerm_iff.mp hp).map fun i : Nat => (i : Int)
          exact z (sorted_one (pm.trans hp) rise (range_rises n))
theorem sc_exchanged_rows : FnScope ["rows", "row_order", "column_order", "column", "row"] ["rows", "row_order", "column_order"] (defScope s_exchanged_rows) :=
  ⟨rfl, rfl, rfl, by decide +kernel, rfl, by decide +kernel, by decide +kernel⟩
theorem ok_exchanged_rows {f : Addr} {fd : FuncData} (F : Fun K "exchanged_rows" "exchanged_rows" s_exchanged_rows f fd) (T : Txt K mg C tG tL) : FnOk P w K mg base CX0 1 f fd ["rows", "row_order", "column_order"] (sp_exchanged_rows K) := by
  refine F.ok sc_exchanged_rows (fun vs H Q E ⟨R, a, b, ls, ms, ro, co, hh, wd, e, _⟩ => by rw [e]; rfl) (fun cdv A outer s H vs Q E hr h => ?_)
  obtain ⟨R, a, b, ls, ms, ro, co, hh, wd, rfl, hR, rows, ha, hb, hml, hmw, r6, c6, hro, hco, q⟩ := h
  have hlen := rows.length
  refine ⟨_, (pss_one (ps_ret (pe_lc (own := [("row", 4)]) (by rfl) sc_exchanged_rows.nd (pi_list (pv 1)) (blkOk_by (own := [("row", 4)]) (N := ["rows", "row_order", "column_order", "column", "row"]) (sc := defScope s_exchanged_rows) (by decide +kernel)) (fun _ _ _ _ _ => (pg_name (i := 4) sc_exchanged_rows.nd rfl (by first | exact Or.inl rfl | exact Or.inr rfl))) (fun _ _ _ _ _ => pts_nil) (fun _ _ _ _ _ => (pe_lc (own := [("column", 3)]) (by rfl) sc_exchanged_rows.nd (pi_listK (K := K) rfl (pv 2)) (by refine blkOk_by ?_; kernel_rfl) (fun _ _ _ _ _ => (pg_name (i := 3) sc_exchanged_rows.nd rfl (by first | exact Or.inl rfl | exact Or.inr rfl))) (fun _ _ _ _ _ => pts_nil) (fun _ _ _ _ _ => (pe_ix (ix_listK (K := K) rfl) (pe_ix (ix_listK (K := K) rfl) (pv 0) (pv 4) (fun _ _ => rfl)) (pv 3) (fun _ _ => rfl)))))))), ?_⟩
  refine ⟨.ref a, rfl, a, rfl, ⟨_, ha⟩, fun D nD => ?_⟩
  refine lc_list (K := K) (xs := ixV ro) (fun i H' => Same H H' ∧ ∃ ks : List Addr, H' D = some (.lst (ks.map V.ref)) ∧ RowsF H H' ks (exch .non ms (ro.take i) co) ∧ ∀ k ∈ ks, k ≠ D) ⟨same_upd nD, [], upd_same, .nil, fun _ z => nomatch z⟩ (fun i H' _ p => p.1.seq ha) (fun i x H' hx p => ?_) (fun H' p => ?_)
  · obtain ⟨sm, ks, hks, hrows, hne⟩ := p
    obtain ⟨n, hn, rfl⟩ := some_get (f := fun i : Nat => V.int (i : Nat)) hx
    have hin := hro n (List.mem_of_getElem? hn)
    have hnl : n < ls.length := by omega
    obtain ⟨m, hm, hk⟩ := rows.get (List.getElem?_eq_getElem hnl)
    have hmwd := hmw m (List.mem_of_getElem? hm)
    refine ⟨rfl, .ref b, rfl, b, rfl, ⟨_, sm.seq hb⟩, fun B nB => ?_⟩
    have nBD : B ≠ D := fun z => by rw [z, hks] at nB; cases nB
    refine lc_list (K := K) (xs := ixV co) (fun j H3 => Same H' H3 ∧ H3 B = some (.lst ((co.take j).map fun j => m.getD j .non))) ⟨same_upd nB, upd_same⟩ (fun j H3 _ p3 => p3.1.seq (sm.seq hb)) (fun j x H3 hx3 p3 => ?_) (fun H3 p3 => ?_)
    · obtain ⟨s3, hB⟩ := p3
      obtain ⟨c, hc, rfl⟩ := some_get (f := fun i : Nat => V.int (i : Nat)) hx3
      have hcw := hco c (List.mem_of_getElem? hc)
      have hcm : c < m.length := by omega
      have sA := sm.trans s3
      refine ⟨rfl, .ref R, rfl, .int n, rfl, R, _, n, .ref ls[n], rfl, rfl, sA.seq hR, atI_nat (by rw [List.getElem?_map, List.getElem?_eq_getElem hnl]; rfl), .int c, rfl, ls[n], _, c, m[c], rfl, rfl, sA.seq hk, atI_nat (List.getElem?_eq_getElem hcm), _, hB, ?_, fun b' o e => ?_, ?_⟩
      · rw [List.length_map, List.length_take]
        exact Nat.lt_of_le_of_lt (Nat.le_trans (Nat.min_le_right _ _) c6) (by decide)
      · rw [upd_ne (ne_of_none e nB)]; exact s3 _ _ e
      · rw [upd_same, List.take_add_one, hc, List.map_append]
        have e : m.getD c .non = m[c] := by rw [List.getD_eq_getElem?_getD, List.getElem?_eq_getElem hcm]; rfl
        show some (HO.lst (_ ++ [m[c]])) = some (HO.lst (_ ++ [m.getD c .non]))
        rw [e]
    · obtain ⟨s3, hB⟩ := p3
      have hlc : (ixV co).length = co.length := List.length_map ..
      rw [hlc, List.take_length] at hB
      have em : ms.getD n [] = m := by rw [List.getD_eq_getElem?_getD, hm]; rfl
      refine ⟨_, s3 _ _ hks, ?_, fun b' o e => ?_, ks ++ [B], by rw [upd_same, List.map_append]; rfl, ?_, fun y hy => ?_⟩
      · rw [List.length_map, hrows.length]
        unfold exch
        rw [List.length_map, List.length_take]
        exact Nat.lt_of_le_of_lt (Nat.le_trans (Nat.min_le_right _ _) r6) (by decide)
      · rw [upd_ne (ne_of_none e nD)]
        exact s3 _ _ (sm b' o e)
      · have et : exch .non ms (ro.take (i + 1)) co = exch .non ms (ro.take i) co ++ [co.map fun j => m.getD j .non] := by
          unfold exch
          rw [List.take_add_one, hn, List.map_append]
          show _ ++ [co.map fun j => (ms.getD n []).getD j V.non] = _
          rw [em]
        rw [et]
        refine (hrows.keep fun c o e1 e2 hc => ?_).append (.cons (sm.free nB) ?_ .nil)
        · rw [upd_ne (hne c hc)]
          exact s3 _ _ e2
        · rw [upd_ne nBD]; exact hB
      · rcases List.mem_append.mp hy with z | z
        · exact hne y z
        · obtain rfl : y = B := by simpa using z
          exact nBD
  · obtain ⟨sm, ks, hks, hrows, hne⟩ := p
    have hlc : (ixV ro).length = ro.length := List.length_map ..
    rw [hlc, List.take_length] at hrows
    exact q H' D ks sm nD hks hrows hne
end
end Kp14
set_option Elab.async false
set_option linter.all false
set_option maxRecDepth 100000
set_option maxHeartbeats 4000000
namespace Kp14
open PySem PySem.Spec PyProof.Rows L2 Vf
/-! ### frames and tables exchanged, joined -/
theorem RowsF.toV {H H' : Hp} : ∀ {ks : List Addr} {ms : List (List V)}, RowsF H H' ks ms → RowsV H H' ks ms
  | _, _, .nil => .nil
  | _, _, .cons h1 h2 r => .cons h1 (.inl h2) (RowsF.toV r)
theorem RowsF.q {K : PySem.W.Frag} {H H' : Hp} : ∀ {ks : List Addr} {ms : List (List V)}, RowsF H H' ks ms → RowsQ K H' ks ms
  | _, _, .nil => .nil
  | _, _, .cons _ h2 r => .cons (SqL.of h2) (RowsF.q r)
theorem RowsF.up {H0 H H' : Hp} (f : ∀ k, H k = none → H0 k = none) : ∀ {ks : List Addr} {ms : List (List V)}, RowsF H H' ks ms → RowsF H0 H' ks ms
  | _, _, .nil => .nil
  | _, _, .cons h1 h2 r => .cons (f _ h1) h2 (RowsF.up f r)
theorem order_perm {n : Nat} {d : Dt} (h : isOrder n d = true) : (orderOf d).Perm (List.range n) := by
  unfold isOrder at h
  rw [Bool.and_eq_true] at h
  exact List.isPerm_iff.mp h.2
theorem order_len {n : Nat} {d : Dt} (h : isOrder n d = true) : (orderOf d).length = n := by rw [(order_perm h).length_eq, List.length_range]
theorem order_lt {n : Nat} {d : Dt} (h : isOrder n d = true) : ∀ i ∈ orderOf d, i < n := fun i hi => List.mem_range.mp ((order_perm h).mem_iff.mp hi)
theorem ex1_length (l : List Int) (o : List Nat) : (ex1 l o).length = o.length := by unfold ex1; rw [List.length_map]
theorem getD_in {α : Type} {z : α} {l : List α} {i : Nat} (h : i < l.length) : l.getD i z ∈ l := by
  rw [List.getD_eq_getElem?_getD, List.getElem?_eq_getElem h]
  exact List.getElem_mem h
theorem exch_drawn {rs cs : List Int} {ms : List (List (Option Int))} {ro co : List Nat} (D : Drawn rs cs ms) (r : ro.length = rs.length) (c : co.length = cs.length) (hr : ∀ i ∈ ro, i < rs.length) (hc : ∀ j ∈ co, j < cs.length) : Drawn (ex1 rs ro) (ex1 cs co) (exch none ms ro co) := by
  refine ⟨by rw [ex1_length, r]; exact D.r1, by rw [ex1_length, r]; exact D.r6, by rw [ex1_length, c]; exact D.c1, by rw [ex1_length, c]; exact D.c6, fun x hx => ?_, fun x hx => ?_, by rw [ex1_length]; unfold exch; rw [List.length_map], fun m hm => ?_⟩
  · obtain ⟨i, hi, rfl⟩ := List.mem_map.mp hx
    exact D.rb _ (getD_in (hr i hi))
  · obtain ⟨i, hi, rfl⟩ := List.mem_map.mp hx
    exact D.cb _ (getD_in (hc i hi))
  · obtain ⟨i, hi, rfl⟩ := List.mem_map.mp hm
    refine ⟨by rw [List.length_map, ex1_length], fun x hx => ?_⟩
    obtain ⟨j, hj, rfl⟩ := List.mem_map.mp hx
    have hil : i < ms.length := by rw [D.ml]; exact hr i hi
    have g := D.mb _ (getD_in (z := []) hil)
    exact g.2 _ (getD_in (by rw [g.1]; exact hc j hj))
def sp_exchanged_frame (K : PySem.W.Frag) (CF : Addr) (C : Nat → Addr) : Sp := fun vs H Q E => ∃ (fr : Addr) (rs cs : List Int) (ms : List (List (Option Int))) (v u : V) (d e : Dt), vs = [.ref fr, v, u] ∧ FrameAt K CF H fr rs cs ms ∧ Drawn rs cs ms ∧ Rp K H v d ∧ Rp K H u e ∧ lenD d ≤ 1000 ∧ lenD e ≤ 1000 ∧
  ((isOrder rs.length d && isOrder cs.length e) = false → ∀ H', Same H H' → E (.ref (C 3)) none H') ∧
  ((isOrder rs.length d && isOrder cs.length e) = true → ∀ (H' : Hp) (p : Addr), Same H H' → H p = none → FrameAt K CF H' p (ex1 rs (orderOf d)) (ex1 cs (orderOf e)) (exch none ms (orderOf d) (orderOf e)) → Q (.ref p) H')
def sp_exchanged_table (K : PySem.W.Frag) (C : Nat → Addr) : Sp := fun vs H Q E => ∃ (x v u : V) (t d e : Dt), vs = [x, v, u] ∧ Rp K H x t ∧ Rp K H v d ∧ Rp K H u e ∧ lenD d ≤ 1000 ∧ lenD e ≤ 1000 ∧
  (isForm t = false → ∀ H', Same H H' → E (.ref (C 2)) none H') ∧
  (isForm t = true → (isOrder (formOf t).length d && isOrder (widthOf (formOf t)) e) = false → ∀ H', Same H H' → E (.ref (C 3)) none H') ∧
  (isForm t = true → (isOrder (formOf t).length d && isOrder (widthOf (formOf t)) e) = true → ∀ (H' : Hp) (D : Addr) (ks : List Addr), Same H H' → H D = none → H' D = some (.lst (ks.map V.ref)) → RowsF H H' ks (rowsV (exch 0 (formOf t) (orderOf d) (orderOf e))) → (∀ k ∈ ks, k ≠ D) → Q (.ref D) H')
section
variable {P : Program} {w : World} {K : PySem.W.Frag} {mg : Str → Option Value} {base : Heap} {C : Nat → Addr} {tG tL : Tok} {CF fI : Addr} {fdI : FuncData}
theorem sc_exchanged_frame : FnScope ["frame", "order", "other", "rows", "columns", "row_order", "column_order", "caps", "row", "column"] ["frame", "order", "other"] (defScope s_exchanged_frame) :=
  ⟨rfl, rfl, rfl, by decide +kernel, rfl, by decide +kernel, by decide +kernel⟩
theorem ok_exchanged_frame {f : Addr} {fd : FuncData} (F : Fun K "exchanged_frame" "exchanged_frame" s_exchanged_frame f fd) (T : Txt K mg C tG tL) (FT : FrT K mg CF) (M : Mk K CF fI) (FI : FnOk P w K mg base (L2.CX P w) 6 fI fdI ["self", "rows", "columns", "caps"] (sp_initF K CF C)) (bA : Binds K fdI ["self", "rows", "columns", "caps"] [])
    (c_wanted_order : Cal P w K mg base (L2.CX P w) 3 "wanted_order" ["thing", "many"] (sp_wanted_order K (C 3))) (c_exchanged_rows : Cal P w K mg base CX0 1 "exchanged_rows" ["rows", "row_order", "column_order"] (sp_exchanged_rows K))
    (c_Frame_rows : Mth P w K mg base CX0 1 CF "rows" ["self"] (sp_rows K CF)) (c_Frame_columns : Mth P w K mg base CX0 1 CF "columns" ["self"] (sp_columns K CF)) (c_Frame_caps : Mth P w K mg base CX0 1 CF "caps" ["self"] (sp_caps K CF)) :
    FnOk P w K mg base (L2.CX P w) 8 f fd ["frame", "order", "other"] (sp_exchanged_frame K CF C) := by
  refine F.okX sc_exchanged_frame (fun vs H Q E ⟨fr, rs, cs, ms, v, u, d, e, z, _⟩ => by rw [z]; rfl) (fun cdv A outer s H vs Q E hr h => ?_)
  obtain ⟨fr, rs, cs, ms, v, u, d, e, rfl, FA, DR, Rv, Ru, ld, le, qE, qQ⟩ := h
  have no1 : ∀ a b c : V, (ff a b c).lookup ("rows" : Str) = none := fun a b c => ff_no a b c (by decide +kernel) (by decide +kernel) (by decide +kernel)
  have no2 : ∀ a b c : V, (ff a b c).lookup ("columns" : Str) = none := fun a b c => ff_no a b c (by decide +kernel) (by decide +kernel) (by decide +kernel)
  have no3 : ∀ a b c : V, (ff a b c).lookup ("caps" : Str) = none := fun a b c => ff_no a b c (by decide +kernel) (by decide +kernel) (by decide +kernel)
  obtain ⟨dx, tr, tc, tk, ks, f1, -, -, -, -⟩ := FA.ex
  refine ⟨_, (pss_cons (ps_set (i := 3) sc_exchanged_frame.nd rfl (by first | exact Or.inl rfl | exact Or.inr rfl) (pe_mth0 c_Frame_rows (hr.mono (by decide)) pass0 (pv 0)))
  (pss_cons (ps_set (i := 4) sc_exchanged_frame.nd rfl (by first | exact Or.inl rfl | exact Or.inr rfl) (pe_mth0 c_Frame_columns (hr.mono (by decide)) pass0 (pv 0)))
  (pss_cons (ps_set (i := 5) sc_exchanged_frame.nd rfl (by first | exact Or.inl rfl | exact Or.inr rfl) (pe_cal c_wanted_order (hr.mono (by decide)) (by rfl) (passes_call (takes_of rfl rfl rfl rfl) (fun _ _ _ _ h => h)) (pa_cons (pv 1) (pa_cons (pe_callB (len_ofK (K := K) rfl) (by rfl) T.n_len (by decide +kernel) (pa_cons (pv 3) pa_nil)) pa_nil))))
  (pss_cons (ps_set (i := 6) sc_exchanged_frame.nd rfl (by first | exact Or.inl rfl | exact Or.inr rfl) (pe_cal c_wanted_order (hr.mono (by decide)) (by rfl) (passes_call (takes_of rfl rfl rfl rfl) (fun _ _ _ _ h => h)) (pa_cons (pv 2) (pa_cons (pe_callB (len_ofK (K := K) rfl) (by rfl) T.n_len (by decide +kernel) (pa_cons (pv 4) pa_nil)) pa_nil))))
  (pss_cons (ps_set (i := 7) sc_exchanged_frame.nd rfl (by first | exact Or.inl rfl | exact Or.inr rfl) (pe_cal c_exchanged_rows (hr.mono (by decide)) (by rfl) pass0 (pa_cons (pe_mth0 c_Frame_caps (hr.mono (by decide)) pass0 (pv 0)) (pa_cons (pv 5) (pa_cons (pv 6) pa_nil)))))
  (pss_one (ps_ret (pe_make M FI (hr.mono (by decide)) (by rfl) FT.g bA .nil passL (pa_cons (pe_lc (own := [("row", 8)]) (by rfl) sc_exchanged_frame.nd (pi_list (pv 5)) (blkOk_by (own := [("row", 8)]) (N := ["frame", "order", "other", "rows", "columns", "row_order", "column_order", "caps", "row", "column"]) (sc := defScope s_exchanged_frame) (by decide +kernel)) (fun _ _ _ _ _ => (pg_name (i := 8) sc_exchanged_frame.nd rfl (by first | exact Or.inl rfl | exact Or.inr rfl))) (fun _ _ _ _ _ => pts_nil) (fun _ _ _ _ _ => (pe_ix (ix_listK (K := K) rfl) (pv 3) (pv 8) (fun _ _ => rfl)))) (pa_cons (pe_lc (own := [("column", 9)]) (by rfl) sc_exchanged_frame.nd (pi_list (pv 6)) (blkOk_by (own := [("column", 9)]) (N := ["frame", "order", "other", "rows", "columns", "row_order", "column_order", "caps", "row", "column"]) (sc := defScope s_exchanged_frame) (by decide +kernel)) (fun _ _ _ _ _ => (pg_name (i := 9) sc_exchanged_frame.nd rfl (by first | exact Or.inl rfl | exact Or.inr rfl))) (fun _ _ _ _ _ => pts_nil) (fun _ _ _ _ _ => (pe_ix (ix_listK (K := K) rfl) (pv 4) (pv 9) (fun _ _ => rfl)))) (pa_cons (pv 7) pa_nil))))))))))), ?_⟩
  refine ⟨.ref fr, rfl, fr, dx, _, rfl, f1, no1 _ _ _, fr, rs, cs, ms, rfl, FA, fun l1 n1 => ?_⟩
  have k1 := same_upd (o := .lst (rs.map V.int)) n1
  refine ⟨.ref fr, rfl, fr, dx, _, rfl, k1 _ _ f1, no2 _ _ _, fr, rs, cs, ms, rfl, FA.same k1, fun l2 n2 => ?_⟩
  have k2 := same_upd (o := .lst (cs.map V.int)) n2
  have s2 := k1.trans k2
  have hl1 := k2 _ _ (upd_same (H := H) (o := .lst (rs.map V.int)) (a := l1))
  have hl2 : upd (upd H l1 (.lst (rs.map V.int))) l2 (.lst (cs.map V.int)) l2 = some (.lst (cs.map V.int)) := upd_same
  generalize upd (upd H l1 (.lst (rs.map V.int))) l2 (.lst (cs.map V.int)) = H2 at s2 hl1 hl2 ⊢
  refine ⟨v, rfl, .ref l1, rfl, l1, _, rfl, .inl (SqL.of hl1), v, d, rs.length, by rw [List.length_map], Rv.same s2, DR.r6, ld, fun z H' s' => qE (by rw [z]; rfl) H' (s2.trans s'), fun o1 H3 a s3 na ha => ?_⟩
  refine ⟨u, rfl, .ref l2, rfl, l2, _, rfl, .inl (SqL.of (s3 _ _ hl2)), u, e, cs.length, by rw [List.length_map], Ru.same (s2.trans s3), DR.c6, le, fun z H' s' => qE (by rw [z, Bool.and_false]) H' ((s2.trans s3).trans s'), fun o2 H4 b s4 nb hb => ?_⟩
  have s24 := (s2.trans s3).trans s4
  have FA4 := FA.same s24
  have pr := order_len o1
  have pc := order_len o2
  refine ⟨.ref fr, rfl, fr, dx, _, rfl, s24 _ _ f1, no3 _ _ _, fr, rs, cs, ms, rfl, FA4, DR.r6, fun H5 D ls s5 nD hD rowsL hne => ?_⟩
  have ha5 := s5 _ _ (s4 _ _ ha)
  have hb5 := s5 _ _ hb
  refine ⟨.ref a, rfl, .ref b, rfl, D, a, b, ls, ms.map (·.map capV), orderOf d, orderOf e, rs.length, cs.length, rfl, SqL.of hD, (RowsC.ofL rowsL).q, SqL.of ha5, SqL.of hb5, by rw [List.length_map, DR.ml], fun m hm => ?_, by rw [pr]; exact DR.r6, by rw [pc]; exact DR.c6, order_lt o1, order_lt o2, fun H6 G gs s6 nG hG rowsF hneG => ?_⟩
  · obtain ⟨m', hm', rfl⟩ := List.mem_map.mp hm
    rw [List.length_map]; exact (DR.mb m' hm').1
  have ee : exch V.non (ms.map (·.map capV)) (orderOf d) (orderOf e) = (exch none ms (orderOf d) (orderOf e)).map (·.map capV) := exch_map capV none ms _ _
  rw [ee] at rowsF
  have s46 := s5.trans s6
  have hl1' := s46 _ _ (s4 _ _ (s3 _ _ hl1))
  have hl2' := s46 _ _ (s4 _ _ (s3 _ _ hl2))
  have ha6 := s6 _ _ ha5
  have hb6 := s6 _ _ hb5
  -- the rows' sums
  refine ⟨.ref a, rfl, a, rfl, ⟨_, SqL.of ha6⟩, fun X1 nX1 => ?_⟩
  refine lc_list (K := K) (xs := ixV (orderOf d)) (fun i H' => Same H6 H' ∧ H' X1 = some (.lst (((ex1 rs (orderOf d)).take i).map V.int))) ⟨same_upd nX1, upd_same⟩ (fun i H' _ p => p.1.seq (SqL.of ha6)) (fun i x H' hx p => ?_) (fun H7 p => ?_)
  · obtain ⟨n, hn, rfl⟩ := some_get (f := fun i : Nat => V.int (i : Nat)) hx
    have hnr := order_lt o1 n (List.mem_of_getElem? hn)
    refine ⟨rfl, .ref l1, rfl, .int n, rfl, l1, _, n, .int rs[n], rfl, rfl, SqL.of (p.1 _ _ hl1'), atI_nat (by rw [List.getElem?_map, List.getElem?_eq_getElem hnr]; rfl), _, p.2, ?_, fun b' o e => ?_, ?_⟩
    · rw [List.length_map, List.length_take, ex1_length, pr]
      exact Nat.lt_of_le_of_lt (Nat.le_trans (Nat.min_le_right _ _) DR.r6) (by decide)
    · rw [upd_ne (ne_of_none e nX1)]; exact p.1 _ _ e
    · have e : (ex1 rs (orderOf d))[i]? = some rs[n] := by
        unfold ex1
        rw [List.getElem?_map, hn]
        show some (rs.getD n 0) = _
        rw [List.getD_eq_getElem?_getD, List.getElem?_eq_getElem hnr]; rfl
      rw [upd_same, List.take_add_one, e, List.map_append]; rfl
  obtain ⟨s7, hX1⟩ := p
  have hlx : (ixV (orderOf d)).length = (ex1 rs (orderOf d)).length := by unfold ixV; rw [List.length_map, ex1_length]
  rw [hlx, List.take_length] at hX1
  -- the columns' sums
  refine ⟨.ref b, rfl, b, rfl, ⟨_, SqL.of (s7 _ _ hb6)⟩, fun X2 nX2 => ?_⟩
  refine lc_list (K := K) (xs := ixV (orderOf e)) (fun i H' => Same H7 H' ∧ H' X2 = some (.lst (((ex1 cs (orderOf e)).take i).map V.int))) ⟨same_upd nX2, upd_same⟩ (fun i H' _ p => p.1.seq (SqL.of (s7 _ _ hb6))) (fun i x H' hx p => ?_) (fun H8 p => ?_)
  · obtain ⟨n, hn, rfl⟩ := some_get (f := fun i : Nat => V.int (i : Nat)) hx
    have hnr := order_lt o2 n (List.mem_of_getElem? hn)
    refine ⟨rfl, .ref l2, rfl, .int n, rfl, l2, _, n, .int cs[n], rfl, rfl, SqL.of (p.1 _ _ (s7 _ _ hl2')), atI_nat (by rw [List.getElem?_map, List.getElem?_eq_getElem hnr]; rfl), _, p.2, ?_, fun b' o e => ?_, ?_⟩
    · rw [List.length_map, List.length_take, ex1_length, pc]
      exact Nat.lt_of_le_of_lt (Nat.le_trans (Nat.min_le_right _ _) DR.c6) (by decide)
    · rw [upd_ne (ne_of_none e nX2)]; exact p.1 _ _ e
    · have ej : (ex1 cs (orderOf e))[i]? = some cs[n] := by
        unfold ex1
        rw [List.getElem?_map, hn]
        show some (cs.getD n 0) = _
        rw [List.getD_eq_getElem?_getD, List.getElem?_eq_getElem hnr]; rfl
      rw [upd_same, List.take_add_one, ej, List.map_append]; rfl
  obtain ⟨s8, hX2⟩ := p
  have hly : (ixV (orderOf e)).length = (ex1 cs (orderOf e)).length := by unfold ixV; rw [List.length_map, ex1_length]
  rw [hly, List.take_length] at hX2
  have DR2 := exch_drawn DR pr pc (order_lt o1) (order_lt o2)
  have s78 := s7.trans s8
  have rV : RowsV H5 H8 gs ((exch none ms (orderOf d) (orderOf e)).map (·.map capV)) := rowsF.toV.keep fun c o _ z _ => s78 _ _ z
  obtain ⟨md, Rm, okm, ofm⟩ := rp_some (K := K) (.inl (s78 _ _ hG)) rV DR2.ml DR2.mb
  refine ⟨.ref G, rfl, fun x dx' nx ndx ne => ?_⟩
  refine init_use DR2 (.inl rfl) (.inl rfl) (s8 _ _ hX1) hX2 Rm okm ofm nx ndx ne fun H9 s9 FA9 => ⟨rfl, ?_⟩
  have sAll := (s24.trans s46).trans s78
  exact qQ (by rw [o1, o2]; rfl) H9 x (sAll.trans s9) (sAll.free nx) FA9
theorem sc_exchanged_table : FnScope ["table", "order", "other", "rows", "row_order", "column_order"] ["table", "order", "other"] (defScope s_exchanged_table) :=
  ⟨rfl, rfl, rfl, by decide +kernel, rfl, by decide +kernel, by decide +kernel⟩
theorem ok_exchanged_table {f : Addr} {fd : FuncData} (F : Fun K "exchanged_table" "exchanged_table" s_exchanged_table f fd) (T : Txt K mg C tG tL) (c_wanted_table : Cal P w K mg base (L2.CX P w) 5 "wanted_table" ["thing"] (sp_wanted_table K (C 2)))
    (c_wanted_order : Cal P w K mg base (L2.CX P w) 3 "wanted_order" ["thing", "many"] (sp_wanted_order K (C 3))) (c_exchanged_rows : Cal P w K mg base CX0 1 "exchanged_rows" ["rows", "row_order", "column_order"] (sp_exchanged_rows K)) :
    FnOk P w K mg base (L2.CX P w) 6 f fd ["table", "order", "other"] (sp_exchanged_table K C) := by
  refine F.okX sc_exchanged_table (fun vs H Q E ⟨x, v, u, t, d, e, z, _⟩ => by rw [z]; rfl) (fun cdv A outer s H vs Q E hr h => ?_)
  obtain ⟨x, v, u, t, d, e, rfl, Rx, Rv, Ru, ld, le, qT, qE, qQ⟩ := h
  refine ⟨_, (pss_cons (ps_set (i := 3) sc_exchanged_table.nd rfl (by first | exact Or.inl rfl | exact Or.inr rfl) (pe_cal c_wanted_table (hr.mono (by decide)) (by rfl) (passes_call (takes_of rfl rfl rfl rfl) (fun _ _ _ _ h => h)) (pa_cons (pv 0) pa_nil)))
  (pss_cons (ps_set (i := 4) sc_exchanged_table.nd rfl (by first | exact Or.inl rfl | exact Or.inr rfl) (pe_cal c_wanted_order (hr.mono (by decide)) (by rfl) (passes_call (takes_of rfl rfl rfl rfl) (fun _ _ _ _ h => h)) (pa_cons (pv 1) (pa_cons (pe_callB (len_ofK (K := K) rfl) (by rfl) T.n_len (by decide +kernel) (pa_cons (pv 3) pa_nil)) pa_nil))))
  (pss_cons (ps_set (i := 5) sc_exchanged_table.nd rfl (by first | exact Or.inl rfl | exact Or.inr rfl) (pe_cal c_wanted_order (hr.mono (by decide)) (by rfl) (passes_call (takes_of rfl rfl rfl rfl) (fun _ _ _ _ h => h)) (pa_cons (pv 2) (pa_cons (pe_callB (len_ofK (K := K) rfl) (by rfl) T.n_len (by decide +kernel) (pa_cons (pe_ix (ix_listK (K := K) rfl) (pv 3) pe_int (fun _ _ => rfl)) pa_nil)) pa_nil))))
  (pss_one (ps_ret (pe_cal c_exchanged_rows (hr.mono (by decide)) (by rfl) pass0 (pa_cons (pv 3) (pa_cons (pv 4) (pa_cons (pv 5) pa_nil))))))))), ?_⟩
  refine ⟨x, rfl, x, t, rfl, Rx, fun z H' s' => qT z H' s', fun fm H1 D ls s1 nD hD rowsF hne => ?_⟩
  obtain ⟨wd, TA⟩ := tab_at Rx fm
  have hlen : ls.length = (formOf t).length := by rw [rowsF.length]; unfold rowsV; rw [List.length_map]
  have h1 := TA.h1
  have h6 := TA.h6
  have w6 := TA.w6
  have ew : widthOf (formOf t) = wd := by
    unfold widthOf
    cases z : formOf t with
    | nil => rw [z] at h1; exact absurd h1 (by decide)
    | cons r tb => exact (TA.row r (by rw [z]; exact List.mem_cons_self)).1
  have hl0 : 0 < ls.length := by omega
  obtain ⟨m0, hm0, _, hl0'⟩ := rowsF.get (List.getElem?_eq_getElem hl0)
  have hm0l : m0.length = widthOf (formOf t) := by
    unfold rowsV at hm0
    rw [List.getElem?_map] at hm0
    cases z : (formOf t)[0]? with
    | none => rw [z] at hm0; cases hm0
    | some r =>
      rw [z] at hm0
      obtain rfl := Option.some.inj hm0
      rw [List.length_map, ew]
      exact (TA.row r (List.mem_of_getElem? z)).1
  refine ⟨v, rfl, .ref D, rfl, D, _, rfl, .inl (SqL.of hD), v, d, (formOf t).length, by rw [List.length_map, hlen], Rv.same s1, h6, ld, fun z H' s' => qE fm (by rw [z]; rfl) H' (s1.trans s'), fun o1 H2 a s2 na ha => ?_⟩
  refine ⟨u, rfl, .ref D, rfl, D, _, 0, .ref ls[0], rfl, rfl, SqL.of (s2 _ _ hD), atI_nat (j := 0) (by rw [List.getElem?_map, List.getElem?_eq_getElem hl0]; rfl), ls[0], _, rfl, .inl (SqL.of (s2 _ _ hl0')), u, e, widthOf (formOf t), by rw [hm0l], Ru.same (s1.trans s2), by rw [ew]; exact w6, le, fun z H' s' => qE fm (by rw [z, Bool.and_false]) H' ((s1.trans s2).trans s'), fun o2 H3 b s3 nb hb => ?_⟩
  have s23 := s2.trans s3
  have s13 := s1.trans s23
  have rows3 : RowsQ K H3 ls (rowsV (formOf t)) := (rowsF.keep fun c o _ z _ => s23 _ _ z).q
  refine ⟨.ref D, rfl, .ref a, rfl, .ref b, rfl, D, a, b, ls, rowsV (formOf t), orderOf d, orderOf e, (formOf t).length, wd, rfl, SqL.of (s23 _ _ hD), rows3, SqL.of (s3 _ _ ha), SqL.of hb, by unfold rowsV; rw [List.length_map], fun m hm => ?_, by rw [order_len o1]; exact h6, by rw [order_len o2, ew]; exact w6, order_lt o1, fun j hj => by rw [← ew]; exact order_lt o2 j hj, fun H4 G gs s4 nG hG rowsG hneG => ?_⟩
  · unfold rowsV at hm
    obtain ⟨r, hr', rfl⟩ := List.mem_map.mp hm
    rw [List.length_map]; exact (TA.row r hr').1
  have ein : exch V.non (rowsV (formOf t)) (orderOf d) (orderOf e) = exch (V.int 0) (rowsV (formOf t)) (orderOf d) (orderOf e) := exch_in (hh := (formOf t).length) (wd := wd) (by unfold rowsV; rw [List.length_map]) (fun m hm => by unfold rowsV at hm; obtain ⟨r, hr', rfl⟩ := List.mem_map.mp hm; rw [List.length_map]; exact (TA.row r hr').1) (order_lt o1) fun j hj => by rw [← ew]; exact order_lt o2 j hj
  have eex : exch (V.int 0) (rowsV (formOf t)) (orderOf d) (orderOf e) = rowsV (exch 0 (formOf t) (orderOf d) (orderOf e)) := exch_map V.int 0 (formOf t) _ _
  rw [ein, eex] at rowsG
  exact qQ fm (by rw [o1, o2]; rfl) H4 G gs (s13.trans s4) (s13.free nG) hG (rowsG.up fun k hk => s13.free hk) hneG
end
end Kp14
set_option Elab.async false
set_option linter.all false
set_option maxRecDepth 100000
set_option maxHeartbeats 4000000
namespace Kp14
open PySem PySem.Spec PyProof.Rows L2 Vf
/-! ### columns joined -/
theorem cut_to (xs : List V) (k : Nat) : cutV xs none (some (k : Int)) = xs.take k := by
  unfold cutV
  rw [HT.sIx_nat, HT.sIx_none, List.drop_zero, Nat.sub_zero, ← List.take_eq_take_min]
theorem cut_from (xs : List V) (k : Nat) (h : k ≤ xs.length) : cutV xs (some (k : Int)) none = xs.drop k := by
  unfold cutV
  rw [HT.sIx_nat, HT.sIx_none, Nat.min_eq_left h]
  exact List.take_of_length_le (by rw [List.length_drop]; exact Nat.le_refl _)
theorem cut_mid (xs : List V) (j k : Nat) (h : k ≤ xs.length) (hj : j ≤ xs.length) : cutV xs (some (j : Int)) (some (k : Int)) = (xs.take k).drop j := by
  unfold cutV
  rw [HT.sIx_nat, HT.sIx_nat, Nat.min_eq_left h, Nat.min_eq_left hj, List.drop_take]
def joinL {α : Type} (xs : List α) (l g : Nat) (x : α) : List α := xs.take l ++ [x] ++ (xs.take g).drop (l + 1) ++ xs.drop (g + 1)
theorem joinL_map {α β : Type} (f : α → β) (xs : List α) (l g : Nat) (x : α) : joinL (xs.map f) l g (f x) = (joinL xs l g x).map f := by
  unfold joinL
  simp [List.map_append, List.map_take, List.map_drop]
theorem joinL_length {α : Type} {xs : List α} {l g : Nat} {x : α} (h : l < g) (h2 : g < xs.length) : (joinL xs l g x).length + 1 = xs.length := by
  unfold joinL
  simp only [List.length_append, List.length_take, List.length_drop, List.length_cons, List.length_nil]
  omega
theorem joinL_mem {α : Type} {xs : List α} {l g : Nat} {x y : α} (h : y ∈ joinL xs l g x) : y = x ∨ y ∈ xs := by
  unfold joinL at h
  rcases List.mem_append.mp h with h | h
  · rcases List.mem_append.mp h with h | h
    · rcases List.mem_append.mp h with h | h
      · exact .inr (List.mem_of_mem_take h)
      · exact .inl (by simpa using h)
    · exact .inr (List.mem_of_mem_take (List.mem_of_mem_drop h))
  · exact .inr (List.mem_of_mem_drop h)
def joinCap : Option Int → Option Int → Option Int
  | some a, some b => some (if (1000000000000 : Int) < a + b then 1000000000000 else a + b)
  | _, _ => none
def joinRow (r : List Int) (l g : Nat) : List Int := joinL r l g (r.getD l 0 + r.getD g 0)
def joinCaps (m : List (Option Int)) (l g : Nat) : List (Option Int) := joinL m l g (joinCap (m.getD l none) (m.getD g none))
def colsOk (n : Nat) (d e : Dt) : Bool := isPlace n d && isPlace n e && !decide (toI d = toI e)
def sp_unlikeP (K : PySem.W.Frag) : Sp := fun vs H Q _ => ∃ (v u : V) (d e : Dt) (n : Nat), vs = [v, u, .int n] ∧ Rp K H v d ∧ Rp K H u e ∧ Q (.bl (colsOk n d e)) H
def sp_wanted_columns (K : PySem.W.Frag) (N4 : Addr) : Sp := fun vs H Q E => ∃ (v u : V) (d e : Dt) (n : Nat), vs = [v, u, .int n] ∧ Rp K H v d ∧ Rp K H u e ∧ (colsOk n d e = false → E (.ref N4) none H) ∧
  ∀ i j : Nat, d = .int i → e = .int j → i < n → j < n → i ≠ j → ∀ p, H p = none → Q (.ref p) (upd H p (.tup [.int (min i j : Nat), .int (max i j : Nat)]))
def sp_put_together (K : PySem.W.Frag) : Sp := fun vs H Q _ => ∃ (R : Addr) (xs : List V) (l g : Nat) (x : V), vs = [.ref R, .int l, .int g, x] ∧ SqL K H R xs ∧ l < g ∧ g < xs.length ∧ xs.length ≤ 6 ∧
  ∀ (H' : Hp) (p : Addr), Same H H' → H p = none → H' p = some (.lst (joinL xs l g x)) → Q (.ref p) H'
def sp_joined_counts (K : PySem.W.Frag) (N4 : Addr) : Sp := fun vs H Q E => ∃ (R : Addr) (r : List Int) (l g : Nat), vs = [.ref R, .int l, .int g] ∧ SqL K H R (r.map V.int) ∧ l < g ∧ g < r.length ∧ r.length ≤ 6 ∧
  (1000000000000 < r.getD l 0 + r.getD g 0 → E (.ref N4) none H) ∧ (r.getD l 0 + r.getD g 0 ≤ 1000000000000 → ∀ (H' : Hp) (p : Addr), Same H H' → H p = none → H' p = some (.lst ((joinRow r l g).map V.int)) → Q (.ref p) H')
def sp_joined_cap : Sp := fun vs H Q _ => ∃ a b : Option Int, vs = [capV a, capV b] ∧ Q (capV (joinCap a b)) H
def sp_joined_caps (K : PySem.W.Frag) : Sp := fun vs H Q _ => ∃ (R : Addr) (m : List (Option Int)) (l g : Nat), vs = [.ref R, .int l, .int g] ∧ SqL K H R (m.map capV) ∧ l < g ∧ g < m.length ∧ m.length ≤ 6 ∧
  ∀ (H' : Hp) (p : Addr), Same H H' → H p = none → H' p = some (.lst ((joinCaps m l g).map capV)) → Q (.ref p) H'
section
variable {P : Program} {w : World} {K : PySem.W.Frag} {mg : Str → Option Value} {base : Heap} {C : Nat → Addr} {tG tL : Tok} {CF : Addr}
theorem sc_are_unlike_places : FnScope ["one", "other", "many"] ["one", "other", "many"] (defScope s_are_unlike_places) :=
  ⟨rfl, rfl, rfl, by decide +kernel, rfl, by decide +kernel, by decide +kernel⟩
theorem ok_unlikeP {f : Addr} {fd : FuncData} (F : Fun K "are_unlike_places" "are_unlike_places" s_are_unlike_places f fd) (T : Txt K mg C tG tL) (c_is_place : Cal P w K mg base CX0 2 "is_place" ["thing", "many"] (sp_is_place K)) : FnOk P w K mg base CX0 3 f fd ["one", "other", "many"] (sp_unlikeP K) := by
  refine F.ok sc_are_unlike_places (fun vs H Q E ⟨v, u, d, e, n, z, _⟩ => by rw [z]; rfl) (fun cdv A outer s H vs Q E hr h => ?_)
  obtain ⟨v, u, d, e, n, rfl, Rv, Ru, q⟩ := h
  refine ⟨_, (pss_one (ps_ret (pe_and (pe_cal c_is_place (hr.mono (by decide)) (by rfl) pass0 (pa_cons (pv 0) (pa_cons (pv 2) pa_nil))) (pe_and (pe_cal c_is_place (hr.mono (by decide)) (by rfl) pass0 (pa_cons (pv 1) (pa_cons (pv 2) pa_nil))) (pe_one (pe_cmpR op_ne (pv 0) (pv 1) (nomark _))))))), ?_⟩
  refine ⟨v, rfl, .int n, rfl, v, d, n, rfl, Rv, _, rfl, ?_⟩
  have no : colsOk n d e = false → Q (.bl false) H := fun z => by rw [z] at q; exact q
  cases e1 : isPlace n d with
  | false => exact no (by unfold colsOk; rw [e1]; rfl)
  | true =>
    refine ⟨u, rfl, .int n, rfl, u, e, n, rfl, Ru, _, rfl, ?_⟩
    cases e2 : isPlace n e with
    | false => exact no (by unfold colsOk; rw [e1, e2]; rfl)
    | true =>
      obtain ⟨i, rfl, hi⟩ := place_int e1
      obtain ⟨j, rfl, hj⟩ := place_int e2
      cases Rv
      cases Ru
      refine ⟨_, rfl, _, rfl, rfl, ?_⟩
      have ex : colsOk n (.int i) (.int j) = !decide (V.int (i : Int) = V.int (j : Int)) := by
        unfold colsOk
        rw [e1, e2]
        show (!decide ((i : Int) = (j : Int))) = _
        congr 1
        exact decide_eq_decide.mpr ⟨fun z => by rw [z], fun z => V.int.inj z⟩
      rw [ex] at q
      exact q
theorem sc_wanted_columns : FnScope ["j", "k", "many"] ["j", "k", "many"] (defScope s_wanted_columns) :=
  ⟨rfl, rfl, rfl, by decide +kernel, rfl, by decide +kernel, by decide +kernel⟩
theorem ok_wanted_columns {f : Addr} {fd : FuncData} (F : Fun K "wanted_columns" "wanted_columns" s_wanted_columns f fd) (T : Txt K mg C tG tL) (c_are_unlike_places : Cal P w K mg base CX0 3 "are_unlike_places" ["one", "other", "many"] (sp_unlikeP K)) :
    FnOk P w K mg base (L2.CX P w) 4 f fd ["j", "k", "many"] (sp_wanted_columns K (C 4)) := by
  refine F.okX sc_wanted_columns (fun vs H Q E ⟨v, u, d, e, n, z, _⟩ => by rw [z]; rfl) (fun cdv A outer s H vs Q E hr h => ?_)
  obtain ⟨v, u, d, e, n, rfl, Rv, Ru, qE, qQ⟩ := h
  refine ⟨_, (pss_cons (ps_if (pt_not (pt_val (pe_cal c_are_unlike_places (hr.mono (by decide)) (by rfl) pass0 (pa_cons (pv 0) (pa_cons (pv 1) (pa_cons (pv 2) pa_nil))))))
  (pss_one (ps_raise rfl (takes_of rfl rfl rfl rfl) (pmk_own PySem.F.excBase_ValueError T.NoColumns.x T.NoColumns.g T.NoColumns.k (raises_own T.NoColumns.b T.NoColumns.t) (by exact rfl))))
  pss_nil)
  (pss_one (ps_ret (pe_tup (pa_cons (pe_callB (call_min2 rfl) (by rfl) T.n_min (by decide +kernel) (pa_cons (pv 0) (pa_cons (pv 1) pa_nil))) (pa_cons (pe_callB (call_max2 rfl) (by rfl) T.n_max (by decide +kernel) (pa_cons (pv 0) (pa_cons (pv 1) pa_nil))) pa_nil)))))), ?_⟩
  refine ⟨v, rfl, u, rfl, .int n, rfl, v, u, d, e, n, rfl, Rv, Ru, _, rfl, ?_⟩
  cases e0 : colsOk n d e with
  | false => exact qE e0
  | true =>
    have e1 := e0
    unfold colsOk at e1
    rw [Bool.and_eq_true, Bool.and_eq_true] at e1
    obtain ⟨⟨e1, e2⟩, e3⟩ := e1
    obtain ⟨i, rfl, hi⟩ := place_int e1
    obtain ⟨j, rfl, hj⟩ := place_int e2
    cases Rv
    cases Ru
    have z : ¬ i = j := fun z => by
      subst z
      have e3 : (!decide ((i : Int) = (i : Int))) = true := e3
      rw [decide_eq_true rfl] at e3
      cases e3
    refine ⟨.int i, rfl, .int j, rfl, i, j, rfl, .int i, rfl, .int j, rfl, i, j, rfl, (by show 2 ≤ sizeLine; decide), fun p np => ?_⟩
    have g := qQ i j rfl rfl hi hj z p np
    have em : (if (j : Int) < (i : Int) then (j : Int) else (i : Int)) = ((min i j : Nat) : Int) := by split <;> omega
    have ex : (if (j : Int) > (i : Int) then (j : Int) else (i : Int)) = ((max i j : Nat) : Int) := by split <;> omega
    rw [em, ex]
    exact g
theorem sc_put_together : FnScope ["row", "lesser", "greater", "joined"] ["row", "lesser", "greater", "joined"] (defScope s_put_together) :=
  ⟨rfl, rfl, rfl, by decide +kernel, rfl, by decide +kernel, by decide +kernel⟩
theorem ok_put_together {f : Addr} {fd : FuncData} (F : Fun K "put_together" "put_together" s_put_together f fd) (T : Txt K mg C tG tL) : FnOk P w K mg base CX0 1 f fd ["row", "lesser", "greater", "joined"] (sp_put_together K) := by
  refine F.ok sc_put_together (fun vs H Q E ⟨R, xs, l, g, x, z, _⟩ => by rw [z]; rfl) (fun cdv A outer s H vs Q E hr h => ?_)
  obtain ⟨R, xs, l, g, x, rfl, hR, hlg, hg, h6, q⟩ := h
  have sl := sizeLine_eq
  refine ⟨_, (pss_one (ps_ret (pe_op op_cat (pe_op op_cat (pe_op op_cat (pe_slice sl_list (pv 0) po_none (po_some (pv 1))) (pe_lst (pa_cons (pv 3) pa_nil))) (pe_slice sl_list (pv 0) (po_some (pe_op op_add (pv 1) pe_int)) (po_some (pv 2)))) (pe_slice sl_list (pv 0) (po_some (pe_op op_add (pv 2) pe_int)) po_none)))), ?_⟩
  refine ⟨.ref R, rfl, .int l, rfl, l, rfl, R, xs, rfl, hR, fun p1 n1 => ?_⟩
  rw [cut_to]
  have k1 := same_upd (o := .lst (xs.take l)) n1
  refine ⟨x, rfl, (by show 1 ≤ sizeLine; decide), fun p2 n2 => ?_⟩
  have k2 := same_upd (o := .lst [x]) n2
  refine ⟨p1, p2, _, _, rfl, rfl, k2 _ _ upd_same, upd_same, by rw [List.length_take]; simp only [List.length_cons, List.length_nil]; omega, fun p3 n3 => ?_⟩
  have k3 := same_upd (o := .lst (xs.take l ++ [x])) n3
  have s3 := (k1.trans k2).trans k3
  refine ⟨.ref R, rfl, .int l, rfl, l, 1, rfl, rfl, _, rfl, .int g, rfl, g, rfl, R, xs, rfl, s3.seq hR, fun p4 n4 => ?_⟩
  have e1 : ((l : Int) + 1) = ((l + 1 : Nat) : Int) := by omega
  rw [e1, cut_mid xs (l + 1) g (by omega) (by omega)]
  have k4 := same_upd (o := .lst ((xs.take g).drop (l + 1))) n4
  refine ⟨p3, p4, _, _, rfl, rfl, k4 _ _ upd_same, upd_same, by simp only [List.length_append, List.length_drop, List.length_take, List.length_cons, List.length_nil]; omega, fun p5 n5 => ?_⟩
  have k5 := same_upd (o := .lst (xs.take l ++ [x] ++ (xs.take g).drop (l + 1))) n5
  have s5 := (s3.trans k4).trans k5
  refine ⟨.ref R, rfl, .int g, rfl, g, 1, rfl, rfl, _, rfl, R, xs, rfl, s5.seq hR, fun p6 n6 => ?_⟩
  have e2 : ((g : Int) + 1) = ((g + 1 : Nat) : Int) := by omega
  rw [e2, cut_from xs (g + 1) (by omega)]
  have k6 := same_upd (o := .lst (xs.drop (g + 1))) n6
  refine ⟨p5, p6, _, _, rfl, rfl, k6 _ _ upd_same, upd_same, by simp only [List.length_append, List.length_drop, List.length_take, List.length_cons, List.length_nil]; omega, fun p7 n7 => ?_⟩
  have s6 := s5.trans k6
  exact q _ p7 (s6.trans (same_upd n7)) (s6.free n7) upd_same
theorem sc_joined_counts : FnScope ["row", "lesser", "greater", "total"] ["row", "lesser", "greater"] (defScope s_joined_counts) :=
  ⟨rfl, rfl, rfl, by decide +kernel, rfl, by decide +kernel, by decide +kernel⟩
theorem ok_joined_counts {f : Addr} {fd : FuncData} (F : Fun K "joined_counts" "joined_counts" s_joined_counts f fd) (T : Txt K mg C tG tL) (c_put_together : Cal P w K mg base CX0 1 "put_together" ["row", "lesser", "greater", "joined"] (sp_put_together K)) :
    FnOk P w K mg base (L2.CX P w) 2 f fd ["row", "lesser", "greater"] (sp_joined_counts K (C 4)) := by
  refine F.okX sc_joined_counts (fun vs H Q E ⟨R, r, l, g, z, _⟩ => by rw [z]; rfl) (fun cdv A outer s H vs Q E hr h => ?_)
  obtain ⟨R, r, l, g, rfl, hR, hlg, hg, h6, qE, qQ⟩ := h
  have hl : l < r.length := by omega
  have el : r.getD l 0 = r[l] := by rw [List.getD_eq_getElem?_getD, List.getElem?_eq_getElem hl]; rfl
  have eg : r.getD g 0 = r[g] := by rw [List.getD_eq_getElem?_getD, List.getElem?_eq_getElem hg]; rfl
  refine ⟨_, (pss_cons (ps_set (i := 3) sc_joined_counts.nd rfl (by first | exact Or.inl rfl | exact Or.inr rfl) (pe_op op_add (pe_ix (ix_listK (K := K) rfl) (pv 0) (pv 1) (fun _ _ => rfl)) (pe_ix (ix_listK (K := K) rfl) (pv 0) (pv 2) (fun _ _ => rfl))))
  (pss_cons (ps_if (pt_cmpR op_gt (pv 3) (pe_glob (v := .int 1000000000000) (by rfl) T.c_GREATEST ⟨_, rfl⟩) (nomark _))
  (pss_one (ps_raise rfl (takes_of rfl rfl rfl rfl) (pmk_own PySem.F.excBase_ValueError T.NoColumns.x T.NoColumns.g T.NoColumns.k (raises_own T.NoColumns.b T.NoColumns.t) (by exact rfl))))
  pss_nil)
  (pss_one (ps_ret (pe_cal c_put_together (hr.mono (by decide)) (by rfl) pass0 (pa_cons (pv 0) (pa_cons (pv 1) (pa_cons (pv 2) (pa_cons (pv 3) pa_nil))))))))), ?_⟩
  refine ⟨.ref R, rfl, .int l, rfl, R, _, l, .int r[l], rfl, rfl, hR, atI_nat (by rw [List.getElem?_map, List.getElem?_eq_getElem hl]; rfl), .ref R, rfl, .int g, rfl, R, _, g, .int r[g], rfl, rfl, hR, atI_nat (by rw [List.getElem?_map, List.getElem?_eq_getElem hg]; rfl), r[l], r[g], rfl, rfl, ?_⟩
  rw [el, eg] at qE qQ
  refine ⟨.int (r[l] + r[g]), rfl, r[l] + r[g], 1000000000000, rfl, rfl, _, rfl, ?_⟩
  by_cases z : r[l] + r[g] > 1000000000000
  · rw [decide_eq_true z]
    exact qE z
  · rw [decide_eq_false z]
    refine ⟨.ref R, rfl, .int l, rfl, .int g, rfl, .int (r[l] + r[g]), rfl, R, r.map V.int, l, g, .int (r[l] + r[g]), rfl, hR, hlg, by rw [List.length_map]; exact hg, by rw [List.length_map]; exact h6, fun H' p s' np hp => ?_⟩
    rw [joinL_map] at hp
    have ej : joinRow r l g = joinL r l g (r[l] + r[g]) := by unfold joinRow; rw [el, eg]
    exact qQ (by omega) H' p s' np (by rw [ej]; exact hp)
theorem sc_joined_cap : FnScope ["one", "other"] ["one", "other"] (defScope s_joined_cap) :=
  ⟨rfl, rfl, rfl, by decide +kernel, rfl, by decide +kernel, by decide +kernel⟩
theorem ok_joined_cap {f : Addr} {fd : FuncData} (F : Fun K "joined_cap" "joined_cap" s_joined_cap f fd) (T : Txt K mg C tG tL) : FnOk P w K mg base CX0 1 f fd ["one", "other"] sp_joined_cap := by
  refine F.ok sc_joined_cap (fun vs H Q E ⟨a, b, z, _⟩ => by rw [z]; rfl) (fun cdv A outer s H vs Q E hr h => ?_)
  obtain ⟨a, b, rfl, q⟩ := h
  refine ⟨_, (pss_cons (ps_if (PW.pt (pw_or (pt_cmpR op_isN (pv 0) pe_non (nomark _)) (pw_or1 (pt_cmpR op_isN (pv 1) pe_non (nomark _)))))
  (pss_one (ps_ret pe_non))
  pss_nil)
  (pss_one (ps_ret (pe_callB (call_min2 rfl) (by rfl) T.n_min (by decide +kernel) (pa_cons (pe_op op_add (pv 0) (pv 1)) (pa_cons (pe_glob (v := .int 1000000000000) (by rfl) T.c_GREATEST ⟨_, rfl⟩) pa_nil)))))), ?_⟩
  refine ⟨capV a, rfl, rfl, _, rfl, ?_⟩
  cases a with
  | none => exact q
  | some a =>
    refine ⟨capV b, rfl, rfl, _, rfl, ?_⟩
    cases b with
    | none => exact q
    | some b =>
      refine ⟨.int a, rfl, .int b, rfl, a, b, rfl, rfl, a + b, 1000000000000, rfl, ?_⟩
      exact q
theorem sc_joined_caps : FnScope ["row", "lesser", "greater"] ["row", "lesser", "greater"] (defScope s_joined_caps) :=
  ⟨rfl, rfl, rfl, by decide +kernel, rfl, by decide +kernel, by decide +kernel⟩
theorem ok_joined_caps {f : Addr} {fd : FuncData} (F : Fun K "joined_caps" "joined_caps" s_joined_caps f fd) (T : Txt K mg C tG tL) (c_put_together : Cal P w K mg base CX0 1 "put_together" ["row", "lesser", "greater", "joined"] (sp_put_together K)) (c_joined_cap : Cal P w K mg base CX0 1 "joined_cap" ["one", "other"] sp_joined_cap) :
    FnOk P w K mg base CX0 2 f fd ["row", "lesser", "greater"] (sp_joined_caps K) := by
  refine F.ok sc_joined_caps (fun vs H Q E ⟨R, r, l, g, z, _⟩ => by rw [z]; rfl) (fun cdv A outer s H vs Q E hr h => ?_)
  obtain ⟨R, m, l, g, rfl, hR, hlg, hg, h6, q⟩ := h
  have hl : l < m.length := by omega
  have el : m.getD l none = m[l] := by rw [List.getD_eq_getElem?_getD, List.getElem?_eq_getElem hl]; rfl
  have eg : m.getD g none = m[g] := by rw [List.getD_eq_getElem?_getD, List.getElem?_eq_getElem hg]; rfl
  refine ⟨_, (pss_one (ps_ret (pe_cal c_put_together (hr.mono (by decide)) (by rfl) pass0 (pa_cons (pv 0) (pa_cons (pv 1) (pa_cons (pv 2) (pa_cons (pe_cal c_joined_cap (hr.mono (by decide)) (by rfl) pass0 (pa_cons (pe_ix (ix_listK (K := K) rfl) (pv 0) (pv 1) (fun _ _ => rfl)) (pa_cons (pe_ix (ix_listK (K := K) rfl) (pv 0) (pv 2) (fun _ _ => rfl)) pa_nil))) pa_nil))))))), ?_⟩
  refine ⟨.ref R, rfl, .int l, rfl, .int g, rfl, .ref R, rfl, .int l, rfl, R, _, l, capV m[l], rfl, rfl, hR, atI_nat (by rw [List.getElem?_map, List.getElem?_eq_getElem hl]; rfl), .ref R, rfl, .int g, rfl, R, _, g, capV m[g], rfl, rfl, hR, atI_nat (by rw [List.getElem?_map, List.getElem?_eq_getElem hg]; rfl), m[l], m[g], rfl, ?_⟩
  refine ⟨R, m.map capV, l, g, capV (joinCap m[l] m[g]), rfl, hR, hlg, by rw [List.length_map]; exact hg, by rw [List.length_map]; exact h6, fun H' p s' np hp => ?_⟩
  rw [joinL_map] at hp
  have ej : joinCaps m l g = joinL m l g (joinCap m[l] m[g]) := by unfold joinCaps; rw [el, eg]
  exact q H' p s' np (by rw [ej]; exact hp)
end
end Kp14
set_option Elab.async false
set_option linter.all false
set_option maxRecDepth 100000
set_option maxHeartbeats 4000000
namespace Kp14
open PySem PySem.Spec PyProof.Rows L2 Vf
/-! ### frames and tables with two columns joined -/
theorem join_drawn {rs cs : List Int} {ms : List (List (Option Int))} {l g : Nat} (D : Drawn rs cs ms) (h : l < g) (h2 : g < cs.length) (hs : cs.getD l 0 + cs.getD g 0 ≤ 1000000000000) : Drawn rs (joinRow cs l g) (ms.map fun m => joinCaps m l g) := by
  have hl : l < cs.length := by omega
  have jl : (joinRow cs l g).length + 1 = cs.length := joinL_length h h2
  have c6 := D.c6
  refine ⟨D.r1, D.r6, by omega, by omega, D.rb, fun x hx => ?_, by rw [List.length_map]; exact D.ml, fun m hm => ?_⟩
  · rcases joinL_mem hx with rfl | hx
    · have a := D.cb _ (getD_in (z := 0) hl)
      have b := D.cb _ (getD_in (z := 0) h2)
      omega
    · exact D.cb x hx
  · obtain ⟨m0, hm0, rfl⟩ := List.mem_map.mp hm
    obtain ⟨ml, mb⟩ := D.mb m0 hm0
    have j2 : (joinCaps m0 l g).length + 1 = m0.length := joinL_length h (by omega)
    refine ⟨by omega, fun c hc => ?_⟩
    rcases joinL_mem hc with rfl | hc
    · have a := mb _ (getD_in (z := none) (i := l) (by omega))
      have b := mb _ (getD_in (z := none) (i := g) (by omega))
      intro i hi
      cases e1 : m0.getD l none with
      | none => rw [e1] at hi; cases hi
      | some x =>
        cases e2 : m0.getD g none with
        | none => rw [e1, e2] at hi; cases hi
        | some y =>
          rw [e1, e2] at hi
          have a := a x e1
          have b := b y e2
          have hi : some (if (1000000000000 : Int) < x + y then 1000000000000 else x + y) = some i := hi
          have hi := Option.some.inj hi
          split at hi <;> omega
    · exact mb c hc
def sp_joined_frame (K : PySem.W.Frag) (CF : Addr) (C : Nat → Addr) : Sp := fun vs H Q E => ∃ (fr : Addr) (rs cs : List Int) (ms : List (List (Option Int))) (v u : V) (d e : Dt), vs = [.ref fr, v, u] ∧ FrameAt K CF H fr rs cs ms ∧ Drawn rs cs ms ∧ Rp K H v d ∧ Rp K H u e ∧
  (colsOk cs.length d e = false → ∀ H', Same H H' → E (.ref (C 4)) none H') ∧
  (∀ i j : Nat, d = .int i → e = .int j → i < cs.length → j < cs.length → i ≠ j → 1000000000000 < cs.getD (min i j) 0 + cs.getD (max i j) 0 → ∀ H', Same H H' → E (.ref (C 4)) none H') ∧
  (∀ i j : Nat, d = .int i → e = .int j → i < cs.length → j < cs.length → i ≠ j → cs.getD (min i j) 0 + cs.getD (max i j) 0 ≤ 1000000000000 → ∀ (H' : Hp) (p : Addr), Same H H' → H p = none → FrameAt K CF H' p rs (joinRow cs (min i j) (max i j)) (ms.map fun m => joinCaps m (min i j) (max i j)) → Q (.ref p) H')
/-- of tables whose joined numbers are no more than 10 ** 12 -/
def sp_joined_table (K : PySem.W.Frag) (C : Nat → Addr) : Sp := fun vs H Q E => ∃ (x v u : V) (t d e : Dt), vs = [x, v, u] ∧ Rp K H x t ∧ Rp K H v d ∧ Rp K H u e ∧
  (isForm t = false → ∀ H', Same H H' → E (.ref (C 2)) none H') ∧
  (isForm t = true → colsOk (widthOf (formOf t)) d e = false → ∀ H', Same H H' → E (.ref (C 4)) none H') ∧
  (∀ i j : Nat, isForm t = true → d = .int i → e = .int j → i < widthOf (formOf t) → j < widthOf (formOf t) → i ≠ j → (∀ r ∈ formOf t, r.getD (min i j) 0 + r.getD (max i j) 0 ≤ 1000000000000) ∧
    ∀ (H' : Hp) (D : Addr) (ks : List Addr), Same H H' → H D = none → H' D = some (.lst (ks.map V.ref)) → RowsF H H' ks (rowsV ((formOf t).map fun r => joinRow r (min i j) (max i j))) → (∀ k ∈ ks, k ≠ D) → Q (.ref D) H')
theorem cols_ok {n : Nat} {d e : Dt} (h : colsOk n d e = true) : ∃ i j : Nat, d = .int i ∧ e = .int j ∧ i < n ∧ j < n ∧ i ≠ j := by
  unfold colsOk at h
  rw [Bool.and_eq_true, Bool.and_eq_true] at h
  obtain ⟨i, rfl, hi⟩ := place_int h.1.1
  obtain ⟨j, rfl, hj⟩ := place_int h.1.2
  refine ⟨i, j, rfl, rfl, hi, hj, fun z => ?_⟩
  subst z
  have h := h.2
  rw [decide_eq_true rfl] at h
  cases h
section
variable {P : Program} {w : World} {K : PySem.W.Frag} {mg : Str → Option Value} {base : Heap} {C : Nat → Addr} {tG tL : Tok} {CF fI : Addr} {fdI : FuncData}
theorem sc_joined_frame : FnScope ["frame", "j", "k", "columns", "lesser", "greater", "caps", "row"] ["frame", "j", "k"] (defScope s_joined_frame) :=
  ⟨rfl, rfl, rfl, by decide +kernel, rfl, by decide +kernel, by decide +kernel⟩
theorem ok_joined_frame {f : Addr} {fd : FuncData} (F : Fun K "joined_frame" "joined_frame" s_joined_frame f fd) (T : Txt K mg C tG tL) (FT : FrT K mg CF) (M : Mk K CF fI) (FI : FnOk P w K mg base (L2.CX P w) 6 fI fdI ["self", "rows", "columns", "caps"] (sp_initF K CF C)) (bA : Binds K fdI ["self", "rows", "columns", "caps"] [])
    (c_wanted_columns : Cal P w K mg base (L2.CX P w) 4 "wanted_columns" ["j", "k", "many"] (sp_wanted_columns K (C 4))) (c_joined_counts : Cal P w K mg base (L2.CX P w) 2 "joined_counts" ["row", "lesser", "greater"] (sp_joined_counts K (C 4))) (c_joined_caps : Cal P w K mg base CX0 2 "joined_caps" ["row", "lesser", "greater"] (sp_joined_caps K))
    (c_Frame_rows : Mth P w K mg base CX0 1 CF "rows" ["self"] (sp_rows K CF)) (c_Frame_columns : Mth P w K mg base CX0 1 CF "columns" ["self"] (sp_columns K CF)) (c_Frame_caps : Mth P w K mg base CX0 1 CF "caps" ["self"] (sp_caps K CF)) :
    FnOk P w K mg base (L2.CX P w) 8 f fd ["frame", "j", "k"] (sp_joined_frame K CF C) := by
  refine F.okX sc_joined_frame (fun vs H Q E ⟨fr, rs, cs, ms, v, u, d, e, z, _⟩ => by rw [z]; rfl) (fun cdv A outer s H vs Q E hr h => ?_)
  obtain ⟨fr, rs, cs, ms, v, u, d, e, rfl, FA, DR, Rv, Ru, qE, qB, qQ⟩ := h
  have no1 : ∀ a b c : V, (ff a b c).lookup ("rows" : Str) = none := fun a b c => ff_no a b c (by decide +kernel) (by decide +kernel) (by decide +kernel)
  have no2 : ∀ a b c : V, (ff a b c).lookup ("columns" : Str) = none := fun a b c => ff_no a b c (by decide +kernel) (by decide +kernel) (by decide +kernel)
  have no3 : ∀ a b c : V, (ff a b c).lookup ("caps" : Str) = none := fun a b c => ff_no a b c (by decide +kernel) (by decide +kernel) (by decide +kernel)
  obtain ⟨dx, tr, tc, tk, ks, f1, -, -, -, -⟩ := FA.ex
  have c6 := DR.c6
  refine ⟨_, (pss_cons (ps_set (i := 3) sc_joined_frame.nd rfl (by first | exact Or.inl rfl | exact Or.inr rfl) (pe_mth0 c_Frame_columns (hr.mono (by decide)) pass0 (pv 0)))
  (pss_cons (ps_asg (pe_cal c_wanted_columns (hr.mono (by decide)) (by rfl) (passes_call (takes_of rfl rfl rfl rfl) (fun _ _ _ _ h => h)) (pa_cons (pv 1) (pa_cons (pv 2) (pa_cons (pe_callB (len_ofK (K := K) rfl) (by rfl) T.n_len (by decide +kernel) (pa_cons (pv 3) pa_nil)) pa_nil)))) (pg_tup rfl (pgs_cons (pg_name (i := 4) sc_joined_frame.nd rfl (by first | exact Or.inl rfl | exact Or.inr rfl)) (pgs_cons (pg_name (i := 5) sc_joined_frame.nd rfl (by first | exact Or.inl rfl | exact Or.inr rfl)) pgs_nil))))
  (pss_cons (ps_setLc (i := 6) (own := [("row", 7)]) (by rfl) sc_joined_frame.nd rfl rfl (sw_true rfl rfl rfl (by decide +kernel)) (pi_list (pe_mth0 c_Frame_caps (hr.mono (by decide)) pass0 (pv 0))) (blkOk_by (own := [("row", 7)]) (N := ["frame", "j", "k", "columns", "lesser", "greater", "caps", "row"]) (sc := defScope s_joined_frame) (by decide +kernel)) (fun _ _ _ _ _ => (pg_name (i := 7) sc_joined_frame.nd rfl (by first | exact Or.inl rfl | exact Or.inr rfl))) (fun _ _ _ _ _ => pts_nil) (fun _ _ _ _ _ => (pe_cal c_joined_caps (hr.mono (by decide)) (by rfl) pass0 (pa_cons (pv 7) (pa_cons (pv 4) (pa_cons (pv 5) pa_nil))))))
  (pss_one (ps_ret (pe_make M FI (hr.mono (by decide)) (by rfl) FT.g bA .nil passL (pa_cons (pe_mth0 c_Frame_rows (hr.mono (by decide)) pass0 (pv 0)) (pa_cons (pe_cal c_joined_counts (hr.mono (by decide)) (by rfl) (passes_call (takes_of rfl rfl rfl rfl) (fun _ _ _ _ h => h)) (pa_cons (pv 3) (pa_cons (pv 4) (pa_cons (pv 5) pa_nil)))) (pa_cons (pv 6) pa_nil))))))))), ?_⟩
  refine ⟨.ref fr, rfl, fr, dx, _, rfl, f1, no2 _ _ _, fr, rs, cs, ms, rfl, FA, fun l2 n2 => ?_⟩
  have k2 := same_upd (o := .lst (cs.map V.int)) n2
  have hl2 : upd H l2 (.lst (cs.map V.int)) l2 = some (.lst (cs.map V.int)) := upd_same
  generalize upd H l2 (.lst (cs.map V.int)) = H2 at k2 hl2 ⊢
  refine ⟨v, rfl, u, rfl, .ref l2, rfl, l2, _, rfl, .inl (SqL.of hl2), v, u, d, e, cs.length, by rw [List.length_map], Rv.same k2, Ru.same k2, fun z => qE z H2 k2, fun i j ei ej hi hj hij p np => ?_⟩
  have k3 := same_upd (o := .tup [V.int (min i j : Nat), .int (max i j : Nat)]) np
  have hp : upd H2 p (.tup [V.int (min i j : Nat), .int (max i j : Nat)]) p = some (.tup [V.int (min i j : Nat), .int (max i j : Nat)]) := upd_same
  generalize upd H2 p (.tup [V.int (min i j : Nat), .int (max i j : Nat)]) = H3 at k3 hp ⊢
  refine ⟨p, _, rfl, SqT.of hp, rfl, .int (min i j : Nat), [.int (max i j : Nat)], rfl, .int (max i j : Nat), [], rfl, rfl, ?_⟩
  have s3 := k2.trans k3
  have hlg : min i j < max i j := by omega
  have hg : max i j < cs.length := by omega
  refine ⟨.ref fr, rfl, fr, dx, _, rfl, s3 _ _ f1, no3 _ _ _, fr, rs, cs, ms, rfl, FA.same s3, DR.r6, fun H4 D ls s4 nD hD rowsL hne => ?_⟩
  have rowsC := RowsC.ofL rowsL
  have hll := rowsC.length
  have r6 := DR.r6
  have ml := DR.ml
  refine ⟨D, rfl, ⟨_, SqL.of hD⟩, fun X nX => ?_⟩
  refine lc_list (K := K) (xs := ls.map V.ref) (fun i2 H' => Same H4 H' ∧ ∃ gs : List Addr, H' X = some (.lst (gs.map V.ref)) ∧ RowsF H4 H' gs (((ms.map fun m => joinCaps m (min i j) (max i j)).take i2).map (·.map capV)) ∧ ∀ k ∈ gs, k ≠ X) ⟨same_upd nX, [], upd_same, .nil, fun _ z => nomatch z⟩ (fun i2 H' _ p => p.1.seq (SqL.of hD)) (fun i2 x H' hx p => ?_) (fun H5 p => ?_)
  · obtain ⟨sm, gs, hgs, hrows, hneg⟩ := p
    obtain ⟨k, hk, rfl⟩ := some_get hx
    have hik := (List.getElem?_eq_some_iff.mp hk).1
    have him : i2 < ms.length := by omega
    obtain ⟨k', hk', hkc⟩ := rowsC.get (List.getElem?_eq_getElem him)
    obtain rfl : k = k' := Option.some.inj (hk.symm.trans hk')
    have mw := (DR.mb _ (List.getElem_mem him)).1
    refine ⟨rfl, .ref k, rfl, .int (min i j : Nat), rfl, .int (max i j : Nat), rfl, k, ms[i2], min i j, max i j, rfl, SqL.of (sm _ _ hkc), hlg, by omega, by omega, fun H6 q6 s6 nq6 hq6 => ?_⟩
    have nqX : q6 ≠ X := fun z => by rw [z, hgs] at nq6; cases nq6
    refine ⟨_, s6 _ _ hgs, ?_, fun b o eb => ?_, gs ++ [q6], by rw [upd_same, List.map_append]; rfl, ?_, fun y hy => ?_⟩
    · rw [List.length_map, hrows.length, List.length_map, List.length_take, List.length_map]
      exact Nat.lt_of_le_of_lt (Nat.le_trans (Nat.min_le_right _ _) (by omega : ms.length ≤ 6)) (by decide)
    · rw [upd_ne (ne_of_none eb nX)]
      exact s6 _ _ (sm b o eb)
    · have ei2 : (ms.map fun m => joinCaps m (min i j) (max i j))[i2]? = some (joinCaps ms[i2] (min i j) (max i j)) := by rw [List.getElem?_map, List.getElem?_eq_getElem him]; rfl
      rw [List.take_add_one, ei2, List.map_append]
      refine (hrows.keep fun c o e1 e2 hc => ?_).append (.cons (sm.free nq6) ?_ .nil)
      · rw [upd_ne (hneg c hc)]
        exact s6 _ _ e2
      · rw [upd_ne nqX]; exact hq6
    · rcases List.mem_append.mp hy with z | z
      · exact hneg y z
      · obtain rfl : y = q6 := by simpa using z
        exact nqX
  obtain ⟨s5, gs, hgs, hrows, hneg⟩ := p
  rw [List.take_of_length_le (by rw [List.length_map, List.length_map, hll]; exact Nat.le_refl _)] at hrows
  have s35 := s3.trans (s4.trans s5)
  refine ⟨.ref fr, rfl, fr, dx, _, rfl, s35 _ _ f1, no1 _ _ _, fr, rs, cs, ms, rfl, FA.same s35, fun l1 n1 => ?_⟩
  have k6 := same_upd (o := .lst (rs.map V.int)) n1
  have hl1 : upd H5 l1 (.lst (rs.map V.int)) l1 = some (.lst (rs.map V.int)) := upd_same
  generalize upd H5 l1 (.lst (rs.map V.int)) = H6 at k6 hl1 ⊢
  have s36 := s35.trans k6
  have s26 : Same H2 H6 := (k3.trans (s4.trans s5)).trans k6
  refine ⟨.ref l2, rfl, .int (min i j : Nat), rfl, .int (max i j : Nat), rfl, l2, cs, min i j, max i j, rfl, SqL.of (s26 _ _ hl2), hlg, hg, c6, fun z => qB i j ei ej hi hj hij z H6 s36, fun hs H7 jc s7 njc hjc => ?_⟩
  have DR2 := join_drawn DR hlg hg hs
  have s57 := k6.trans s7
  have rV : RowsV H4 H7 gs ((ms.map fun m => joinCaps m (min i j) (max i j)).map (·.map capV)) := hrows.toV.keep fun c o _ z _ => s57 _ _ z
  obtain ⟨md, Rm, okm, ofm⟩ := rp_some (K := K) (.inl (s57 _ _ hgs)) rV DR2.ml DR2.mb
  refine ⟨.ref X, rfl, fun x dx' nx ndx ne => ?_⟩
  refine init_use DR2 (.inl rfl) (.inl rfl) (s7 _ _ hl1) hjc Rm okm ofm nx ndx ne fun H9 s9 FA9 => ⟨rfl, ?_⟩
  have sAll := s36.trans s7
  exact qQ i j ei ej hi hj hij hs H9 x (sAll.trans s9) (sAll.free nx) FA9
theorem sc_joined_table : FnScope ["table", "j", "k", "rows", "lesser", "greater", "row"] ["table", "j", "k"] (defScope s_joined_table) :=
  ⟨rfl, rfl, rfl, by decide +kernel, rfl, by decide +kernel, by decide +kernel⟩
theorem ok_joined_table {f : Addr} {fd : FuncData} (F : Fun K "joined_table" "joined_table" s_joined_table f fd) (T : Txt K mg C tG tL) (c_wanted_table : Cal P w K mg base (L2.CX P w) 5 "wanted_table" ["thing"] (sp_wanted_table K (C 2)))
    (c_wanted_columns : Cal P w K mg base (L2.CX P w) 4 "wanted_columns" ["j", "k", "many"] (sp_wanted_columns K (C 4))) (c_joined_counts : Cal P w K mg base (L2.CX P w) 2 "joined_counts" ["row", "lesser", "greater"] (sp_joined_counts K (C 4))) :
    FnOk P w K mg base (L2.CX P w) 6 f fd ["table", "j", "k"] (sp_joined_table K C) := by
  refine F.okX sc_joined_table (fun vs H Q E ⟨x, v, u, t, d, e, z, _⟩ => by rw [z]; rfl) (fun cdv A outer s H vs Q E hr h => ?_)
  obtain ⟨x, v, u, t, d, e, rfl, Rx, Rv, Ru, qT, qE, qQ⟩ := h
  refine ⟨_, (pss_cons (ps_set (i := 3) sc_joined_table.nd rfl (by first | exact Or.inl rfl | exact Or.inr rfl) (pe_cal c_wanted_table (hr.mono (by decide)) (by rfl) (passes_call (takes_of rfl rfl rfl rfl) (fun _ _ _ _ h => h)) (pa_cons (pv 0) pa_nil)))
  (pss_cons (ps_asg (pe_cal c_wanted_columns (hr.mono (by decide)) (by rfl) (passes_call (takes_of rfl rfl rfl rfl) (fun _ _ _ _ h => h)) (pa_cons (pv 1) (pa_cons (pv 2) (pa_cons (pe_callB (len_ofK (K := K) rfl) (by rfl) T.n_len (by decide +kernel) (pa_cons (pe_ix (ix_listK (K := K) rfl) (pv 3) pe_int (fun _ _ => rfl)) pa_nil)) pa_nil)))) (pg_tup rfl (pgs_cons (pg_name (i := 4) sc_joined_table.nd rfl (by first | exact Or.inl rfl | exact Or.inr rfl)) (pgs_cons (pg_name (i := 5) sc_joined_table.nd rfl (by first | exact Or.inl rfl | exact Or.inr rfl)) pgs_nil))))
  (pss_one (ps_ret (pe_lc (own := [("row", 6)]) (by rfl) sc_joined_table.nd (pi_list (pv 3)) (blkOk_by (own := [("row", 6)]) (N := ["table", "j", "k", "rows", "lesser", "greater", "row"]) (sc := defScope s_joined_table) (by decide +kernel)) (fun _ _ _ _ _ => (pg_name (i := 6) sc_joined_table.nd rfl (by first | exact Or.inl rfl | exact Or.inr rfl))) (fun _ _ _ _ _ => pts_nil) (fun _ _ _ _ _ => (pe_cal c_joined_counts (hr.mono (by decide)) (by rfl) passL (pa_cons (pv 6) (pa_cons (pv 4) (pa_cons (pv 5) pa_nil)))))))))), ?_⟩
  refine ⟨x, rfl, x, t, rfl, Rx, fun z H' s' => qT z H' s', fun fm H1 D ls s1 nD hD rowsF hne => ?_⟩
  obtain ⟨wd, TA⟩ := tab_at Rx fm
  have hlen : ls.length = (formOf t).length := by rw [rowsF.length]; unfold rowsV; rw [List.length_map]
  have h1 := TA.h1
  have h6 := TA.h6
  have w6 := TA.w6
  have ew : widthOf (formOf t) = wd := by
    unfold widthOf
    cases z : formOf t with
    | nil => rw [z] at h1; exact absurd h1 (by decide)
    | cons r tb => exact (TA.row r (by rw [z]; exact List.mem_cons_self)).1
  have nth : ∀ {i k}, ls[i]? = some k → ∃ r : List Int, (formOf t)[i]? = some r ∧ H k = none ∧ H1 k = some (.lst (r.map V.int)) := fun {i k} hk => by
    obtain ⟨m, hm, g1, g2⟩ := rowsF.get hk
    unfold rowsV at hm
    rw [List.getElem?_map] at hm
    cases z : (formOf t)[i]? with
    | none => rw [z] at hm; cases hm
    | some r => rw [z] at hm; obtain rfl := Option.some.inj hm; exact ⟨r, z, g1, g2⟩
  have hl0 : 0 < ls.length := by omega
  obtain ⟨r0, hr0, _, hl0'⟩ := nth (List.getElem?_eq_getElem hl0)
  have r0l := (TA.row r0 (List.mem_of_getElem? hr0)).1
  refine ⟨v, rfl, u, rfl, .ref D, rfl, D, _, 0, .ref ls[0], rfl, rfl, SqL.of hD, atI_nat (j := 0) (by rw [List.getElem?_map, List.getElem?_eq_getElem hl0]; rfl), ls[0], _, rfl, .inl (SqL.of hl0'), v, u, d, e, widthOf (formOf t), by rw [List.length_map, r0l, ew], Rv.same s1, Ru.same s1, fun z => qE fm z H1 s1, fun i j ei ej hi hj hij p np => ?_⟩
  obtain ⟨hsum, qQ⟩ := qQ i j fm ei ej hi hj hij
  have k3 := same_upd (o := .tup [V.int (min i j : Nat), .int (max i j : Nat)]) np
  have hp : upd H1 p (.tup [V.int (min i j : Nat), .int (max i j : Nat)]) p = some (.tup [V.int (min i j : Nat), .int (max i j : Nat)]) := upd_same
  generalize upd H1 p (.tup [V.int (min i j : Nat), .int (max i j : Nat)]) = H3 at k3 hp ⊢
  refine ⟨p, _, rfl, SqT.of hp, rfl, .int (min i j : Nat), [.int (max i j : Nat)], rfl, .int (max i j : Nat), [], rfl, rfl, ?_⟩
  have hlg : min i j < max i j := by omega
  have hD3 := k3 _ _ hD
  have s3 := s1.trans k3
  refine ⟨.ref D, rfl, D, rfl, ⟨_, SqL.of hD3⟩, fun X nX => ?_⟩
  refine lc_list (K := K) (xs := ls.map V.ref) (fun i2 H' => Same H3 H' ∧ ∃ gs : List Addr, H' X = some (.lst (gs.map V.ref)) ∧ RowsF H3 H' gs (rowsV (((formOf t).map fun r => joinRow r (min i j) (max i j)).take i2)) ∧ ∀ k ∈ gs, k ≠ X) ⟨same_upd nX, [], upd_same, .nil, fun _ z => nomatch z⟩ (fun i2 H' _ p => p.1.seq (SqL.of hD3)) (fun i2 x H' hx p => ?_) (fun H5 p => ?_)
  · obtain ⟨sm, gs, hgs, hrows, hneg⟩ := p
    obtain ⟨k, hk, rfl⟩ := some_get hx
    obtain ⟨r, hr', _, hk2⟩ := nth hk
    have rl := (TA.row r (List.mem_of_getElem? hr')).1
    have rs := hsum r (List.mem_of_getElem? hr')
    refine ⟨rfl, .ref k, rfl, .int (min i j : Nat), rfl, .int (max i j : Nat), rfl, k, r, min i j, max i j, rfl, SqL.of (sm _ _ (k3 _ _ hk2)), hlg, by omega, by omega, fun z => by omega, fun _ H6 q6 s6 nq6 hq6 => ?_⟩
    have nqX : q6 ≠ X := fun z => by rw [z, hgs] at nq6; cases nq6
    refine ⟨_, s6 _ _ hgs, ?_, fun b o eb => ?_, gs ++ [q6], by rw [upd_same, List.map_append]; rfl, ?_, fun y hy => ?_⟩
    · rw [List.length_map, hrows.length]
      unfold rowsV
      rw [List.length_map, List.length_take, List.length_map]
      exact Nat.lt_of_le_of_lt (Nat.le_trans (Nat.min_le_right _ _) h6) (by decide)
    · rw [upd_ne (ne_of_none eb nX)]
      exact s6 _ _ (sm b o eb)
    · have ei2 : ((formOf t).map fun r => joinRow r (min i j) (max i j))[i2]? = some (joinRow r (min i j) (max i j)) := by rw [List.getElem?_map, hr']; rfl
      rw [List.take_add_one, ei2]
      unfold rowsV
      rw [List.map_append]
      refine (hrows.keep fun c o e1 e2 hc => ?_).append (.cons (sm.free nq6) ?_ .nil)
      · rw [upd_ne (hneg c hc)]
        exact s6 _ _ e2
      · rw [upd_ne nqX]; exact hq6
    · rcases List.mem_append.mp hy with z | z
      · exact hneg y z
      · obtain rfl : y = q6 := by simpa using z
        exact nqX
  · obtain ⟨s5, gs, hgs, hrows, hneg⟩ := p
    rw [List.take_of_length_le (by rw [List.length_map, List.length_map, hlen]; exact Nat.le_refl _)] at hrows
    exact qQ H5 X gs (s3.trans s5) (s3.free nX) hgs (hrows.up fun k hk => s3.free hk) hneg
end
end Kp14
set_option Elab.async false
set_option linter.all false
set_option maxRecDepth 100000
set_option maxHeartbeats 4000000
namespace Kp14
open PySem PySem.Spec PyProof.Rows L2 Vf
/-! ### is_table is what the law's own look says -/
theorem formOf_items {d : Dt} {l : List Dt} {tb : List (List Int)} (e : d.items = some l) (h : l.map Dt.items = tb.map fun r => some (r.map Dt.int)) : formOf d = tb := by
  unfold formOf
  rw [e]
  show l.map rowI = tb
  have e1 : l.map rowI = (l.map Dt.items).map fun o => (o.getD []).map toI := by rw [List.map_map]; rfl
  rw [e1, h, List.map_map]
  refine (List.map_congr_left fun r _ => ?_).trans (List.map_id tb)
  exact toI_int r
theorem items_mem {l : List Dt} {tb : List (List Int)} (h : l.map Dt.items = tb.map fun r => some (r.map Dt.int)) {x : Dt} (hx : x ∈ l) : ∃ r ∈ tb, x.items = some (r.map Dt.int) := by
  have : x.items ∈ l.map Dt.items := List.mem_map_of_mem hx
  rw [h] at this
  obtain ⟨r, hr, e⟩ := List.mem_map.mp this
  exact ⟨r, hr, e.symm⟩
theorem form_ok {d : Dt} {l : List Dt} {tb : List (List Int)} {wd : Nat} (e : d.items = some l) (h : l.map Dt.items = tb.map fun r => some (r.map Dt.int)) (h1 : 1 ≤ tb.length) (h6 : tb.length ≤ 6) (w1 : 1 ≤ wd) (w6 : wd ≤ 6) (row : ∀ r ∈ tb, r.length = wd ∧ ∀ n ∈ r, 0 ≤ n ∧ n ≤ 1000000000000) : isForm d = true := by
  have hl : l.length = tb.length := by have := congrArg List.length h; rwa [List.length_map, List.length_map] at this
  have ln : ∀ x ∈ l, lenD x = wd ∧ areCounts x = true := fun x hx => by
    obtain ⟨r, hr, ex⟩ := items_mem h hx
    obtain ⟨a, b⟩ := row r hr
    refine ⟨by unfold lenD; rw [ex]; simpa using a, counts_ok ex (by omega) (by omega) b⟩
  have s1 : isShort d = true := by
    unfold isShort
    rw [e]
    show (decide (1 ≤ l.length) && decide (l.length ≤ 6)) = true
    rw [decide_eq_true (by omega), decide_eq_true (by omega)]; rfl
  unfold isForm
  rw [s1, e]
  show (true && l.all areCounts && l.all fun r => decide (lenD r = lenD (l.headD .non))) = true
  have a1 : l.all areCounts = true := List.all_eq_true.mpr fun x hx => (ln x hx).2
  have a2 : (l.all fun r => decide (lenD r = lenD (l.headD .non))) = true := List.all_eq_true.mpr fun x hx => by
    cases l with
    | nil => cases hx
    | cons y l => exact decide_eq_true ((ln x hx).1.trans (ln y List.mem_cons_self).1.symm)
  rw [a1, a2]; rfl
theorem zip_all {α β : Type} {f : α × β → Bool} {xs : List α} {ys : List β} (h : (xs.zip ys).all f = true) {i : Nat} {x : α} {y : β} (hx : xs[i]? = some x) (hy : ys[i]? = some y) : f (x, y) = true :=
  List.all_eq_true.mp h _ (List.mem_of_getElem? ((List.getElem?_zip_eq_some (z := (x, y))).mpr ⟨hx, hy⟩))
theorem all_zip {α β : Type} {f : α × β → Bool} {xs : List α} {ys : List β} (h : ∀ (i : Nat) x y, xs[i]? = some x → ys[i]? = some y → f (x, y) = true) : (xs.zip ys).all f = true := List.all_eq_true.mpr fun z hz => by
  obtain ⟨i, hi⟩ := List.mem_iff_getElem?.mp hz
  obtain ⟨h1, h2⟩ := List.getElem?_zip_eq_some.mp hi
  exact h i z.1 z.2 h1 h2
/-! ### the mathematics of exchanged and joined tables -/
theorem perm_sum {a b : List Int} (h : a.Perm b) : a.sum = b.sum := by
  induction h with
  | nil => rfl
  | cons x _ ih => rw [List.sum_cons, List.sum_cons, ih]
  | swap x y l => rw [List.sum_cons, List.sum_cons, List.sum_cons, List.sum_cons]; omega
  | trans _ _ h1 h2 => exact h1.trans h2
theorem getD_range {α : Type} (z : α) (r : List α) : (List.range r.length).map (fun j => r.getD j z) = r := by
  refine List.ext_getElem? fun i => ?_
  rw [List.getElem?_map]
  by_cases h : i < r.length
  · rw [List.getElem?_range h, List.getElem?_eq_getElem h]
    show some (r.getD i z) = _
    rw [List.getD_eq_getElem?_getD, List.getElem?_eq_getElem h]; rfl
  · rw [List.getElem?_eq_none (by rw [List.length_range]; omega), List.getElem?_eq_none (by omega)]; rfl
theorem perm_getD {α : Type} {z : α} {r : List α} {o : List Nat} (h : o.Perm (List.range r.length)) : (o.map fun j => r.getD j z).Perm r := by
  have := h.map fun j => r.getD j z
  rw [getD_range] at this
  exact this
theorem getD_at {α : Type} {z : α} {l : List α} {i : Nat} {x : α} (h : l[i]? = some x) : l.getD i z = x := by rw [List.getD_eq_getElem?_getD, h]; rfl
theorem exch_rows {tb : List (List Int)} {ro co : List Nat} {wd : Nat} (hw : ∀ r ∈ tb, r.length = wd) (hr : ∀ i ∈ ro, i < tb.length) (hc : co.Perm (List.range wd)) : rowSums (exch 0 tb ro co) = ex1 (rowSums tb) ro := by
  unfold rowSums exch ex1
  rw [List.map_map]
  refine List.map_congr_left fun i hi => ?_
  show (co.map fun j => (tb.getD i []).getD j 0).sum = (tb.map List.sum).getD i 0
  have e : (tb.map List.sum).getD i 0 = (tb.getD i []).sum := getD_map List.sum tb i []
  rw [e]
  refine perm_sum (perm_getD ?_)
  rw [hw _ (getD_in (hr i hi))]
  exact hc
theorem exch_cols {tb : List (List Int)} {ro co : List Nat} {wd : Nat} (hr : ro.Perm (List.range tb.length)) (hc : co.Perm (List.range wd)) : colSums (exch 0 tb ro co) wd = ex1 (colSums tb wd) co := by
  have hcl : co.length = wd := by rw [hc.length_eq, List.length_range]
  refine List.ext_getElem? fun k => ?_
  by_cases hk : k < wd
  · have hkc : k < co.length := by omega
    have hck : co[k] < wd := List.mem_range.mp (hc.mem_iff.mp (List.getElem_mem hkc))
    unfold colSums ex1
    rw [List.getElem?_map, List.getElem?_range hk, List.getElem?_map, List.getElem?_eq_getElem hkc]
    show some ((exch 0 tb ro co).map fun r => r.getD k 0).sum = some (((List.range wd).map fun j => (tb.map fun r => r.getD j 0).sum).getD co[k] 0)
    have e1 : ((List.range wd).map fun j => (tb.map fun r => r.getD j 0).sum).getD co[k] 0 = (tb.map fun r => r.getD co[k] 0).sum := by
      rw [List.getD_eq_getElem?_getD, List.getElem?_map, List.getElem?_range hck]; rfl
    rw [e1]
    congr 1
    refine perm_sum ?_
    unfold exch
    rw [List.map_map]
    have e2 : (ro.map ((fun r : List Int => r.getD k 0) ∘ fun i => co.map fun j => (tb.getD i []).getD j 0)) = (ro.map fun i => tb.getD i []).map fun r => r.getD co[k] 0 := by
      rw [List.map_map]
      refine List.map_congr_left fun i _ => ?_
      show (co.map fun j => (tb.getD i []).getD j 0).getD k 0 = (tb.getD i []).getD co[k] 0
      rw [List.getD_eq_getElem?_getD, List.getElem?_map, List.getElem?_eq_getElem hkc]; rfl
    rw [e2]
    exact (perm_getD hr).map _
  · rw [List.getElem?_eq_none (by rw [colSums_length]; omega), List.getElem?_eq_none (by rw [ex1_length]; omega)]
theorem within_iff {tb : List (List Int)} {ms : List (List (Option Int))} : within tb ms = true ↔ ∀ (i j : Nat) r m n c, tb[i]? = some r → ms[i]? = some m → r[j]? = some n → m[j]? = some c → cellOk (n, c) = true := by
  refine ⟨fun h i j r m n c h1 h2 h3 h4 => ?_, fun h => ?_⟩
  · have a : rowWithin r m = true := zip_all (f := fun z => rowWithin z.1 z.2) h h1 h2
    exact zip_all (f := cellOk) a h3 h4
  · exact all_zip fun i r m h1 h2 => all_zip fun j n c h3 h4 => h i j r m n c h1 h2 h3 h4
theorem exch_within {tb : List (List Int)} {ms : List (List (Option Int))} {ro co : List Nat} {wd : Nat} (h : within tb ms = true) (hl : ms.length = tb.length) (hw : ∀ r ∈ tb, r.length = wd) (hm : ∀ m ∈ ms, m.length = wd) (hr : ∀ i ∈ ro, i < tb.length) (hc : ∀ j ∈ co, j < wd) : within (exch 0 tb ro co) (exch none ms ro co) = true := by
  rw [within_iff] at h ⊢
  intro i j r m n c h1 h2 h3 h4
  unfold exch at h1 h2
  rw [List.getElem?_map] at h1 h2
  cases e : ro[i]? with
  | none => rw [e] at h1; cases h1
  | some i' =>
    rw [e] at h1 h2
    obtain rfl := Option.some.inj h1
    obtain rfl := Option.some.inj h2
    rw [List.getElem?_map] at h3 h4
    cases e2 : co[j]? with
    | none => rw [e2] at h3; cases h3
    | some j' =>
      rw [e2] at h3 h4
      obtain rfl := Option.some.inj h3
      obtain rfl := Option.some.inj h4
      have hi := hr i' (List.mem_of_getElem? e)
      have hj := hc j' (List.mem_of_getElem? e2)
      have him : i' < ms.length := by omega
      have a1 := List.getElem?_eq_getElem hi
      have a2 := List.getElem?_eq_getElem him
      have hjr : j' < tb[i'].length := by rw [hw _ (List.getElem_mem hi)]; exact hj
      have hjm : j' < ms[i'].length := by rw [hm _ (List.getElem_mem him)]; exact hj
      show cellOk ((tb.getD i' []).getD j' 0, (ms.getD i' []).getD j' none) = true
      rw [getD_at a1, getD_at a2, getD_at (List.getElem?_eq_getElem hjr), getD_at (List.getElem?_eq_getElem hjm)]
      exact h i' j' _ _ _ _ a1 a2 (List.getElem?_eq_getElem hjr) (List.getElem?_eq_getElem hjm)
/-! the order turned back -/
def backO (o : List Nat) : List Nat := (List.range o.length).map fun k => o.idxOf k
theorem order_nodup {o : List Nat} {n : Nat} (h : o.Perm (List.range n)) : o.Nodup := h.nodup_iff.mpr List.nodup_range
theorem perm_length {o : List Nat} {n : Nat} (h : o.Perm (List.range n)) : o.length = n := by rw [h.length_eq, List.length_range]
theorem perm_mem {o : List Nat} {n k : Nat} (h : o.Perm (List.range n)) : k ∈ o ↔ k < n := h.mem_iff.trans List.mem_range
theorem back_perm {o : List Nat} {n : Nat} (h : o.Perm (List.range n)) : (backO o).Perm (List.range n) := by
  have hl := perm_length h
  have nd := order_nodup h
  unfold backO
  rw [hl]
  have h1 : ((List.range n).map fun k => o.idxOf k).Perm (o.map fun k => o.idxOf k) := (h.map fun k => o.idxOf k).symm
  have h2 : (o.map fun k => o.idxOf k) = List.range n := by
    refine List.ext_getElem? fun i => ?_
    rw [List.getElem?_map]
    by_cases hi : i < o.length
    · rw [List.getElem?_eq_getElem hi, List.getElem?_range (by omega)]
      show some (o.idxOf o[i]) = some i
      rw [nd.idxOf_getElem]
    · rw [List.getElem?_eq_none (by omega), List.getElem?_eq_none (by rw [List.length_range]; omega)]; rfl
  rw [h2] at h1
  exact h1
theorem back_length (o : List Nat) : (backO o).length = o.length := by unfold backO; rw [List.length_map, List.length_range]
theorem back_at {o : List Nat} {n k : Nat} (h : o.Perm (List.range n)) (hk : k < n) : ∃ i, (backO o)[k]? = some i ∧ o[i]? = some k := by
  have hl := perm_length h
  have hm : o.idxOf k < o.length := List.idxOf_lt_length_iff.mpr ((perm_mem h).mpr hk)
  refine ⟨o.idxOf k, ?_, ?_⟩
  · unfold backO
    rw [List.getElem?_map, List.getElem?_range (by omega)]; rfl
  · rw [List.getElem?_eq_getElem hm, List.getElem_idxOf]
/-- a list taken by an order and then by the order turned back -/
theorem back_take {α : Type} {z : α} {l : List α} {o : List Nat} (h : o.Perm (List.range l.length)) : (backO o).map (fun i => (o.map fun j => l.getD j z).getD i z) = l := by
  refine List.ext_getElem? fun k => ?_
  by_cases hk : k < l.length
  · obtain ⟨i, e1, e2⟩ := back_at h hk
    rw [List.getElem?_map, e1, List.getElem?_eq_getElem hk]
    show some ((o.map fun j => l.getD j z).getD i z) = _
    rw [getD_at (x := l.getD k z) (by rw [List.getElem?_map, e2]; rfl), getD_at (List.getElem?_eq_getElem hk)]
  · rw [List.getElem?_eq_none (by rw [List.length_map, back_length, perm_length h]; omega), List.getElem?_eq_none (by omega)]
theorem back_ex1 {l : List Int} {o : List Nat} (h : o.Perm (List.range l.length)) : ex1 (ex1 l o) (backO o) = l := back_take h
theorem back_exch {α : Type} {z : α} {ms : List (List α)} {ro co : List Nat} {wd : Nat} (hw : ∀ m ∈ ms, m.length = wd) (hr : ro.Perm (List.range ms.length)) (hc : co.Perm (List.range wd)) : exch z (exch z ms ro co) (backO ro) (backO co) = ms := by
  have e : ∀ i, (exch z ms ro co).getD i [] = (ro.map fun i => co.map fun j => (ms.getD i []).getD j z).getD i [] := fun i => rfl
  refine List.ext_getElem? fun k => ?_
  by_cases hk : k < ms.length
  · obtain ⟨i, e1, e2⟩ := back_at hr hk
    have a1 := List.getElem?_eq_getElem hk
    show ((backO ro).map fun i => (backO co).map fun j => ((exch z ms ro co).getD i []).getD j z)[k]? = _
    rw [List.getElem?_map, e1, a1]
    show some ((backO co).map fun j => ((exch z ms ro co).getD i []).getD j z) = _
    have g : (exch z ms ro co).getD i [] = co.map fun j => ms[k].getD j z := by
      unfold exch
      refine (getD_at (x := co.map fun j => (ms.getD k []).getD j z) (by rw [List.getElem?_map, e2]; rfl)).trans ?_
      rw [getD_at a1]
    rw [g]
    congr 1
    refine back_take ?_
    rw [hw _ (List.getElem_mem hk)]
    exact hc
  · rw [List.getElem?_eq_none (by unfold exch; rw [List.length_map, back_length, perm_length hr]; omega), List.getElem?_eq_none (by omega)]
/-! joined -/
theorem split_at {α : Type} {r : List α} {l g : Nat} {z : α} (h : l < g) (h2 : g < r.length) : r = r.take l ++ [r.getD l z] ++ (r.take g).drop (l + 1) ++ [r.getD g z] ++ r.drop (g + 1) := by
  have hl : l < r.length := by omega
  have e1 : r.getD l z = r[l] := getD_at (List.getElem?_eq_getElem hl)
  have e2 : r.getD g z = r[g] := getD_at (List.getElem?_eq_getElem h2)
  rw [e1, e2]
  have a : r.take g = r.take l ++ [r[l]] ++ (r.take g).drop (l + 1) := by
    have b : r.take l ++ [r[l]] = (r.take g).take (l + 1) := by
      rw [List.take_take, Nat.min_eq_left (by omega), List.take_add_one, List.getElem?_eq_getElem hl]; rfl
    rw [b, List.take_append_drop]
  have c : r = r.take g ++ [r[g]] ++ r.drop (g + 1) := by
    have d : r.take g ++ [r[g]] = r.take (g + 1) := by rw [List.take_add_one, List.getElem?_eq_getElem h2]; rfl
    rw [d, List.take_append_drop]
  rw [← a]
  exact c
theorem join_sum {r : List Int} {l g : Nat} (h : l < g) (h2 : g < r.length) : (joinRow r l g).sum = r.sum := by
  have e := congrArg List.sum (split_at (z := (0 : Int)) h h2)
  unfold joinRow joinL
  rw [e]
  simp only [List.sum_append, List.sum_cons, List.sum_nil]
  omega
theorem joinL_at {α : Type} {z : α} {xs : List α} {l g k : Nat} {x : α} (h : l < g) (h2 : g < xs.length) : (joinL xs l g x).getD k z = if k < l then xs.getD k z else if k = l then x else if k < g then xs.getD k z else xs.getD (k + 1) z := by
  unfold joinL
  simp only [List.getD_eq_getElem?_getD]
  have t1 : (xs.take l).length = l := by rw [List.length_take]; omega
  have t2 : ((xs.take g).drop (l + 1)).length = g - (l + 1) := by rw [List.length_drop, List.length_take]; omega
  by_cases a : k < l
  · rw [if_pos a, List.append_assoc, List.append_assoc, List.getElem?_append_left (by omega), List.getElem?_take_of_lt a]
  · rw [if_neg a]
    by_cases b : k = l
    · subst b
      rw [if_pos rfl, List.append_assoc, List.append_assoc, List.getElem?_append_right (by omega), t1, Nat.sub_self]; rfl
    · rw [if_neg b]
      by_cases c : k < g
      · rw [if_pos c, List.getElem?_append_left (by simp only [List.length_append, t1, t2, List.length_cons, List.length_nil]; omega), List.getElem?_append_right (by simp only [List.length_append, t1, List.length_cons, List.length_nil]; omega)]
        simp only [List.length_append, t1, List.length_cons, List.length_nil]
        rw [List.getElem?_drop, List.getElem?_take_of_lt (by omega)]
        congr 2
        omega
      · rw [if_neg c, List.getElem?_append_right (by simp only [List.length_append, t1, t2, List.length_cons, List.length_nil]; omega)]
        simp only [List.length_append, t1, t2, List.length_cons, List.length_nil]
        rw [List.getElem?_drop]
        congr 2
        omega
theorem map_sum_add (f g : List Int → Int) : ∀ tb : List (List Int), (tb.map fun r => f r + g r).sum = (tb.map f).sum + (tb.map g).sum
  | [] => rfl
  | r :: tb => by rw [List.map_cons, List.map_cons, List.map_cons, List.sum_cons, List.sum_cons, List.sum_cons, map_sum_add f g tb]; omega
theorem colSums_at {tb : List (List Int)} {wd k : Nat} (h : k < wd) : (colSums tb wd).getD k 0 = (tb.map fun r => r.getD k 0).sum := by
  unfold colSums
  rw [List.getD_eq_getElem?_getD, List.getElem?_map, List.getElem?_range h]; rfl
theorem join_cols {tb : List (List Int)} {wd l g : Nat} (hw : ∀ r ∈ tb, r.length = wd) (h : l < g) (h2 : g < wd) : colSums (tb.map fun r => joinRow r l g) (wd - 1) = joinRow (colSums tb wd) l g := by
  have hcl := colSums_length tb wd
  have h3 : g < (colSums tb wd).length := by omega
  have jl : (joinRow (colSums tb wd) l g).length + 1 = (colSums tb wd).length := joinL_length h h3
  refine List.ext_getElem? fun k => ?_
  by_cases hk : k < wd - 1
  · have hkj : k < (joinRow (colSums tb wd) l g).length := by omega
    have e1 : (joinRow (colSums tb wd) l g)[k]? = some ((joinRow (colSums tb wd) l g).getD k 0) := by rw [List.getElem?_eq_getElem hkj, getD_at (List.getElem?_eq_getElem hkj)]
    rw [e1]
    have e2 : (colSums (tb.map fun r => joinRow r l g) (wd - 1))[k]? = some ((tb.map fun r => (joinRow r l g).getD k 0).sum) := by
      unfold colSums
      rw [List.getElem?_map, List.getElem?_range hk]
      show some (((tb.map fun r => joinRow r l g).map fun r => r.getD k 0).sum) = _
      rw [List.map_map]; rfl
    rw [e2]
    congr 1
    have e3 : (tb.map fun r => (joinRow r l g).getD k 0) = tb.map fun r => if k < l then r.getD k 0 else if k = l then r.getD l 0 + r.getD g 0 else if k < g then r.getD k 0 else r.getD (k + 1) 0 := by
      refine List.map_congr_left fun r hr => ?_
      exact joinL_at h (by rw [hw r hr]; exact h2)
    have e4 : (joinRow (colSums tb wd) l g).getD k 0 = if k < l then (colSums tb wd).getD k 0 else if k = l then (colSums tb wd).getD l 0 + (colSums tb wd).getD g 0 else if k < g then (colSums tb wd).getD k 0 else (colSums tb wd).getD (k + 1) 0 := joinL_at h h3
    rw [e3, e4]
    by_cases a : k < l
    · simp only [if_pos a]
      rw [colSums_at (by omega)]
    · simp only [if_neg a]
      by_cases b : k = l
      · simp only [if_pos b]
        rw [map_sum_add (fun r => r.getD l 0) (fun r => r.getD g 0), colSums_at (by omega), colSums_at (by omega)]
      · simp only [if_neg b]
        by_cases c : k < g
        · simp only [if_pos c]
          rw [colSums_at (by omega)]
        · simp only [if_neg c]
          rw [colSums_at (by omega)]
  · rw [List.getElem?_eq_none (by rw [colSums_length]; omega), List.getElem?_eq_none (by omega)]
theorem join_cell {a b : Int} {c d : Option Int} (h1 : cellOk (a, c) = true) (h2 : cellOk (b, d) = true) (h3 : a + b ≤ 1000000000000) : cellOk (a + b, joinCap c d) = true := by
  cases c with
  | none => rfl
  | some c =>
    cases d with
    | none => rfl
    | some d =>
      have h1 : a ≤ c := of_decide_eq_true h1
      have h2 : b ≤ d := of_decide_eq_true h2
      refine decide_eq_true (show a + b ≤ if (1000000000000 : Int) < c + d then 1000000000000 else c + d from ?_)
      split <;> omega
theorem join_within {tb : List (List Int)} {ms : List (List (Option Int))} {wd l g : Nat} (h : within tb ms = true) (hw : ∀ r ∈ tb, r.length = wd) (hm : ∀ m ∈ ms, m.length = wd) (hlg : l < g) (h2 : g < wd) (hs : ∀ r ∈ tb, r.getD l 0 + r.getD g 0 ≤ 1000000000000) :
    within (tb.map fun r => joinRow r l g) (ms.map fun m => joinCaps m l g) = true := by
  rw [within_iff] at h ⊢
  intro i j r m n c h1 h2' h3 h4
  rw [List.getElem?_map] at h1 h2'
  cases e1 : tb[i]? with
  | none => rw [e1] at h1; cases h1
  | some r0 =>
    cases e2 : ms[i]? with
    | none => rw [e2] at h2'; cases h2'
    | some m0 =>
      rw [e1] at h1
      rw [e2] at h2'
      obtain rfl := Option.some.inj h1
      obtain rfl := Option.some.inj h2'
      have rl := hw r0 (List.mem_of_getElem? e1)
      have ml := hm m0 (List.mem_of_getElem? e2)
      have g1 : (joinRow r0 l g).getD j 0 = n := getD_at h3
      have g2 : (joinCaps m0 l g).getD j none = c := getD_at h4
      have jl : (joinRow r0 l g).length + 1 = r0.length := joinL_length hlg (by omega)
      have hj : j < (joinRow r0 l g).length := (List.getElem?_eq_some_iff.mp h3).1
      have cell : ∀ k, k < wd → cellOk (r0.getD k 0, m0.getD k none) = true := fun k hk => by
        have a := List.getElem?_eq_getElem (show k < r0.length by omega)
        have b := List.getElem?_eq_getElem (show k < m0.length by omega)
        rw [getD_at a, getD_at b]
        exact h i k r0 m0 _ _ e1 e2 a b
      rw [← g1, ← g2]
      have e3 : (joinRow r0 l g).getD j 0 = _ := joinL_at hlg (by omega)
      have e4 : (joinCaps m0 l g).getD j none = _ := joinL_at hlg (by omega)
      rw [e3, e4]
      by_cases a : j < l
      · rw [if_pos a, if_pos a]; exact cell j (by omega)
      · rw [if_neg a, if_neg a]
        by_cases b : j = l
        · rw [if_pos b, if_pos b]
          exact join_cell (cell l (by omega)) (cell g (by omega)) (hs r0 (List.mem_of_getElem? e1))
        · rw [if_neg b, if_neg b]
          by_cases cc : j < g
          · rw [if_pos cc, if_pos cc]; exact cell j (by omega)
          · rw [if_neg cc, if_neg cc]; exact cell (j + 1) (by omega)
/-- a thing that is a table of the frame -/
theorem tab_yes {d : Dt} {l : List Dt} {tb : List (List Int)} {rs cs : List Int} {ms : List (List (Option Int))} {wd : Nat} (e : d.items = some l) (h : l.map Dt.items = tb.map fun r => some (r.map Dt.int)) (h1 : 1 ≤ tb.length) (h6 : tb.length ≤ 6) (w1 : 1 ≤ wd) (w6 : wd ≤ 6)
    (row : ∀ r ∈ tb, r.length = wd ∧ ∀ n ∈ r, 0 ≤ n ∧ n ≤ 1000000000000) (hr : rowSums tb = rs) (hc : colSums tb wd = cs) (hw : within tb ms = true) : isTab d rs cs ms = true := by
  have ew : widthOf tb = wd := by
    unfold widthOf
    cases tb with
    | nil => exact absurd h1 (by decide)
    | cons r tb => exact (row r List.mem_cons_self).1
  unfold isTab
  rw [form_ok e h h1 h6 w1 w6 row, formOf_items e h, decide_eq_true hr, ew, decide_eq_true hc, hw]; rfl
end Kp14
set_option Elab.async false
set_option linter.all false
set_option maxRecDepth 100000
set_option maxHeartbeats 4000000
namespace Kp14
open PySem PySem.Spec PyProof.Rows L2 Vf
/-! ### the law's orders, grids, and what is told -/
def sp_lorder : Sp := fun vs H Q _ => ∃ (t : Addr) (n : Nat), vs = [.ref t, .int n] ∧ Tp H t ∧ n ≤ 6 ∧ ∀ (H' : Hp) (p : Addr) (o : List Nat), Kp t H H' → H p = none → p ≠ t → H' p = some (.lst (ixV o)) → o.Perm (List.range n) → Q (.ref p) H'
def sp_lback (K : PySem.W.Frag) : Sp := fun vs H Q _ => ∃ (p : Addr) (o : List Nat) (n : Nat), vs = [.ref p] ∧ SqL K H p (ixV o) ∧ o.Perm (List.range n) ∧ n ≤ 6 ∧ ∀ (H' : Hp) (q : Addr), Same H H' → H q = none → H' q = some (.lst (ixV (backO o))) → Q (.ref q) H'
theorem ixV_erase (o : List Nat) (k : Nat) : (ixV o).eraseIdx k = ixV (o.eraseIdx k) := by
  unfold ixV
  rw [List.eraseIdx_eq_take_drop_succ, List.eraseIdx_eq_take_drop_succ, List.map_append, List.map_take, List.map_drop]
theorem erase_perm {o : List Nat} {k : Nat} (h : k < o.length) : (o[k] :: o.eraseIdx k).Perm o := by
  rw [List.eraseIdx_eq_take_drop_succ]
  have e : o = o.take k ++ o[k] :: o.drop (k + 1) := by rw [List.getElem_cons_drop, List.take_append_drop]
  exact List.perm_middle.symm.trans (by rw [← e])
theorem ixV_get {o : List Nat} {i : Nat} {x : V} (h : (ixV o)[i]? = some x) : ∃ n : Nat, o[i]? = some n ∧ x = .int n := some_get (f := fun i : Nat => V.int (i : Nat)) h
theorem ixV_at {o : List Nat} {i n : Nat} (h : o[i]? = some n) : (ixV o)[i]? = some (.int n) := by unfold ixV; rw [List.getElem?_map, h]; rfl
theorem ixV_len (o : List Nat) : (ixV o).length = o.length := List.length_map ..
theorem flat_ixV (o : List Nat) : (ixV o).all flatV = true := by
  rw [List.all_eq_true]
  intro x hx
  obtain ⟨i, _, rfl⟩ := List.mem_map.mp hx
  rfl
theorem eqV_nat (a b : Nat) : eqV (.int (a : Nat)) (.int (b : Nat)) = decide (a = b) := by
  show (((a : Int)) == ((b : Int))) = decide (a = b)
  by_cases h : a = b
  · subst h; simp
  · rw [decide_eq_false h, beq_eq_false_iff_ne]; omega
section
variable {P : Program} {w : World} {K : PySem.W.Frag} {mg : Str → Option Value} {base : Heap} {C : Nat → Addr} {tG tL : Tok} {CF : Addr}
theorem sc_l_order : FnScope ["_law_tape_here", "_law_many", "_law_left", "_law_k"] ["_law_tape_here", "_law_many"] (defScope s_l_order) :=
  ⟨rfl, rfl, rfl, by decide +kernel, rfl, by decide +kernel, by decide +kernel⟩
theorem ok_lorder {f : Addr} {fd : FuncData} (F : Fun K "_law_order" "_law_order" s_l_order f fd) (T : Txt K mg C tG tL) (c_l_digit : Cal P w K mg base CX0 1 "_law_digit" ["_law_tape_here", "_law_size"] sp_digit) : FnOk P w K mg base CX0 2 f fd ["_law_tape_here", "_law_many"] sp_lorder := by
  refine F.ok sc_l_order (fun vs H Q E ⟨t, n, e, _⟩ => by rw [e]; rfl) (fun cdv A outer s H vs Q E hr h => ?_)
  obtain ⟨t, n, rfl, tp, n6, q⟩ := h
  refine ⟨_, (pss_cons (ps_set (i := 2) sc_l_order.nd rfl (by first | exact Or.inl rfl | exact Or.inr rfl) (pe_listRg (by rfl) (by rfl) T.n_list (prg_1 (by rfl) T.n_range (pv 1))))
  (pss_one (ps_ret (pe_lc (own := [("_law_k", 3)]) (by rfl) sc_l_order.nd (pi_range1 (by rfl) T.n_range (pa_cons (pv 1) pa_nil)) (blkOk_by (own := [("_law_k", 3)]) (N := ["_law_tape_here", "_law_many", "_law_left", "_law_k"]) (sc := defScope s_l_order) (by decide +kernel)) (fun _ _ _ _ _ => (pg_name (i := 3) sc_l_order.nd rfl (by first | exact Or.inl rfl | exact Or.inr rfl))) (fun _ _ _ _ _ => pts_nil) (fun _ _ _ _ _ => (pe_bmK (K := K) rfl PySem.F.plainAttrs_list PySem.F.slot_list_pop PySem.F.type_list_pop mt_popAt (pv 2) (pa_cons (pe_cal c_l_digit (hr.mono (by decide)) (by rfl) pass0 (pa_cons (pv 0) (pa_cons (pe_callB (len_ofK (K := K) rfl) (by rfl) T.n_len (by decide +kernel) (pa_cons (pv 2) pa_nil)) pa_nil))) pa_nil))))))), ?_⟩
  refine ⟨.int n, rfl, (n : Int), rfl, RgOk.of_le (by decide) (by omega) (by decide) (by omega), fun L nL => ?_⟩
  rw [rg_nat]
  have eL : ((List.range n).map fun i : Nat => (i : Int)).map V.int = ixV (List.range n) := by unfold ixV; rw [List.map_map]; rfl
  rw [eL]
  have hLt : L ≠ t := fun z => by obtain ⟨m, e⟩ := tp; rw [z, e] at nL; cases nL
  have k1 : Kp t H (upd H L (.lst (ixV (List.range n)))) := (Kp.refl tp).lay nL
  have hL : upd H L (.lst (ixV (List.range n))) L = some (.lst (ixV (List.range n))) := upd_same
  generalize upd H L (.lst (ixV (List.range n))) = H1 at k1 hL ⊢
  refine ⟨.int n, rfl, (n : Int), rfl, by omega, by omega, fun D nD => ?_⟩
  have nD0 := k1.free tp nD
  have hDt : D ≠ t := fun z => by obtain ⟨m, e⟩ := k1.2; rw [z, e] at nD; cases nD
  have hDL : D ≠ L := fun z => by rw [z, hL] at nD; cases nD
  refine lc_range (n := Int.toNat (n : Int)) (fun i H' => Kp t H H' ∧ ∃ o rest : List Nat, H' D = some (.lst (ixV o)) ∧ H' L = some (.lst (ixV rest)) ∧ (o ++ rest).Perm (List.range n) ∧ o.length = i) ⟨k1.lay nD, [], List.range n, upd_same, by rw [upd_ne hDL.symm]; exact hL, List.Perm.refl _, rfl⟩ (fun i H' hi p => ?_) (fun H' p => ?_)
  · obtain ⟨kp, o, rest, hD, hL', pm, ol⟩ := p
    rw [Int.toNat_natCast] at hi
    have tot : o.length + rest.length = n := by have := pm.length_eq; rw [List.length_append, List.length_range] at this; exact this
    obtain ⟨m, ht⟩ := kp.2
    refine ⟨rfl, .ref L, rfl, .inl ⟨rfl, _, SqL.of hL'⟩, .ref t, rfl, .ref L, rfl, L, _, rfl, .inl (SqL.of hL'), t, m, _, rfl, ht, by rw [ixV_len]; omega, by rw [ixV_len]; omega, fun d m2 d0 d1 => ?_⟩
    rw [ixV_len] at d1
    obtain ⟨k, rfl⟩ : ∃ k : Nat, d = (k : Int) := ⟨d.toNat, by omega⟩
    have hk : k < rest.length := by omega
    have hL2 : upd H' t (.lst [V.int m2]) L = some (.lst (ixV rest)) := (upd_ne hLt).trans hL'
    refine ⟨L, _, (k : Int), k, .int rest[k], rfl, rfl, hL2, by omega, by omega, ?_, ixV_at (List.getElem?_eq_getElem hk), ?_⟩
    · unfold seqIndex?
      rw [ixV_len]
      have a1 : ¬ ((k : Int) < 0) := by omega
      rw [if_neg a1]
      have a2 : (decide (0 ≤ (k : Int)) && decide ((k : Int) < (rest.length : Int))) = true := by rw [decide_eq_true (by omega), decide_eq_true (by omega)]; rfl
      rw [if_pos a2, Int.toNat_natCast]
    · have hD2 : upd (upd H' t (.lst [V.int m2])) L (.lst ((ixV rest).eraseIdx k)) D = some (.lst (ixV o)) := by rw [upd_ne hDL, upd_ne hDt]; exact hD
      have kp2 := (kp.tape (n := m2)).put (b := L) (o := .lst ((ixV rest).eraseIdx k)) nL hLt
      refine ⟨_, hD2, ?_, kp2.put nD0 hDt, o ++ [rest[k]], rest.eraseIdx k, ?_, ?_, ?_, by rw [List.length_append, ol]; rfl⟩
      · rw [ixV_len, ol]
        exact Nat.lt_of_lt_of_le (show i < 7 by omega) (by decide)
      · rw [upd_same]
        unfold ixV
        rw [List.map_append]; rfl
      · rw [upd_ne hDL.symm, upd_same, ixV_erase]
      · rw [List.append_assoc]
        exact ((erase_perm hk).append_left o).trans pm
  · obtain ⟨kp, o, rest, hD, hL', pm, ol⟩ := p
    rw [Int.toNat_natCast] at ol
    have tot : o.length + rest.length = n := by have := pm.length_eq; rw [List.length_append, List.length_range] at this; exact this
    have hr0 : rest = [] := List.eq_nil_of_length_eq_zero (by omega)
    subst hr0
    rw [List.append_nil] at pm
    exact q H' D o kp nD0 hDt hD pm
theorem sc_l_back : FnScope ["_law_order_here", "_law_k"] ["_law_order_here"] (defScope s_l_back) :=
  ⟨rfl, rfl, rfl, by decide +kernel, rfl, by decide +kernel, by decide +kernel⟩
theorem ok_lback {f : Addr} {fd : FuncData} (F : Fun K "_law_back" "_law_back" s_l_back f fd) (T : Txt K mg C tG tL) : FnOk P w K mg base CX0 1 f fd ["_law_order_here"] (sp_lback K) := by
  refine F.ok sc_l_back (fun vs H Q E ⟨p, o, n, e, _⟩ => by rw [e]; rfl) (fun cdv A outer s H vs Q E hr h => ?_)
  obtain ⟨p, o, n, rfl, hp, pm, n6, q⟩ := h
  have ol := perm_length pm
  refine ⟨_, (pss_one (ps_ret (pe_lc (own := [("_law_k", 1)]) (by rfl) sc_l_back.nd (pi_range1 (by rfl) T.n_range (pa_cons (pe_callB (len_ofK (K := K) rfl) (by rfl) T.n_len (by decide +kernel) (pa_cons (pv 0) pa_nil)) pa_nil)) (blkOk_by (own := [("_law_k", 1)]) (N := ["_law_order_here", "_law_k"]) (sc := defScope s_l_back) (by decide +kernel)) (fun _ _ _ _ _ => (pg_name (i := 1) sc_l_back.nd rfl (by first | exact Or.inl rfl | exact Or.inr rfl))) (fun _ _ _ _ _ => pts_nil) (fun _ _ _ _ _ => (pe_bmK (K := K) rfl PySem.F.plainAttrs_list PySem.F.slot_list_index PySem.F.type_list_index (mt_indexK (K := K) rfl) (pv 0) (pa_cons (pv 1) pa_nil)))))), ?_⟩
  refine ⟨.ref p, rfl, p, _, rfl, .inl hp, _, rfl, by rw [ixV_len]; omega, by rw [ixV_len]; omega, fun D nD => ?_⟩
  refine lc_range (n := _) (fun i H' => Same H H' ∧ H' D = some (.lst (ixV ((List.range i).map fun k => o.idxOf k)))) ⟨same_upd nD, upd_same⟩ (fun i H' hi p' => ?_) (fun H' p' => ?_)
  · rw [ixV_len, Int.toNat_natCast] at hi
    have hm : o.idxOf i < o.length := List.idxOf_lt_length_iff.mpr ((perm_mem pm).mpr (by omega))
    have e0 : (0 + (i : Int)) = (i : Nat) := by omega
    refine ⟨rfl, .ref p, rfl, .inl ⟨rfl, _, p'.1.seq hp⟩, .int (0 + (i : Int)), rfl, p, ixV o, _, o.idxOf i, .int o[o.idxOf i], rfl, rfl, p'.1.seq hp, rfl, flat_ixV o, ixV_at (List.getElem?_eq_getElem hm), ?_, fun m z' hm' hz => ?_, _, p'.2, ?_, fun b' oo e => ?_, ?_⟩
    · rw [e0, eqV_nat, List.getElem_idxOf]; exact decide_eq_true rfl
    · obtain ⟨x, hx, rfl⟩ := ixV_get hz
      rw [e0, eqV_nat]
      refine decide_eq_false fun z => ?_
      subst z
      have hml := (List.getElem?_eq_some_iff.mp hx).1
      have hmx : o[m] = x := by have := (List.getElem?_eq_getElem hml).symm.trans hx; exact Option.some.inj this
      have := (order_nodup pm).idxOf_getElem m hml
      rw [hmx] at this
      omega
    · rw [ixV_len, List.length_map, List.length_range]
      exact Nat.lt_of_lt_of_le (show i < 7 by omega) (by decide)
    · rw [upd_ne (ne_of_none e nD)]; exact p'.1 _ _ e
    · rw [upd_same, List.range_succ, List.map_append]
      unfold ixV
      rw [List.map_append]; rfl
  · rw [ixV_len, Int.toNat_natCast] at p'
    exact q H' D p'.1 nD p'.2
end
end Kp14
set_option Elab.async false
set_option linter.all false
set_option maxRecDepth 100000
set_option maxHeartbeats 4000000
namespace Kp14
open PySem PySem.Spec PyProof.Rows L2 Vf
theorem due_show {rs cs : List Int} {ms : List (List (Option Int))} (D : Drawn rs cs ms) : (dueD rs cs ms).showable = true ∧ (dueD rs cs ms).hasDict = false ∧ (dueD rs cs ms).depth ≤ 60 ∧ (dueD rs cs ms).shown.length ≤ sizeLine := by
  obtain ⟨a1, a2, a3⟩ := nice_ints rs D.rb
  obtain ⟨b1, b2, b3⟩ := nice_ints cs D.cb
  obtain ⟨c1, c2, c3⟩ := nice_rows ms D.rows
  have r6 := D.r6
  have c6 := D.c6
  have ml := D.ml
  have n : Nice (dueD rs cs ms) = true := by
    show (NiceL (rs.map PyData.int) && (NiceL (cs.map PyData.int) && (NiceL (ms.map fun m => .list (m.map capD)) && true))) = true
    rw [a1, b1, c1]; rfl
  have h : nodes (dueD rs cs ms) ≤ 1000 := by
    show 1 + ((1 + nodesL (rs.map PyData.int)) + ((1 + nodesL (cs.map PyData.int)) + ((1 + nodesL (ms.map fun m => .list (m.map capD))) + 0))) ≤ 1000
    omega
  have dd : (dueD rs cs ms).depth ≤ 60 := by
    show max (PyData.depthAll (rs.map PyData.int) + 1) (max (PyData.depthAll (cs.map PyData.int) + 1) (max (PyData.depthAll (ms.map fun m => .list (m.map capD)) + 1) 0)) + 1 ≤ 60
    omega
  obtain ⟨h1, h2, h3⟩ := nice_show _ n
  exact ⟨h1, h2, dd, by rw [sizeLine_eq]; omega⟩
/-! ### grids put, frames and grids told -/
structure FrI (K : PySem.W.Frag) (CF : Addr) : Prop where
  cl : Cls K CF
  ha : PySem.W.findIn K (.ref CF) "__class__" = some (some (.builtin "object.__class__"))
  hn : PySem.W.specialIn K (.builtin "object.__class__") "__get__" = some (some (.builtin "getset_descriptor.__get__"))
  ht : PySem.W.takesIn K (.builtin "object.__class__") = some true
  hm : PySem.W.mroIn K CF (.type "object") = some true
def sp_lshown (K : PySem.W.Frag) (CF : Addr) : Sp := fun vs H Q _ => ∃ (fr : Addr) (rs cs : List Int) (ms : List (List (Option Int))), vs = [.ref fr] ∧ FrameAt K CF H fr rs cs ms ∧ Drawn rs cs ms ∧ ∀ H', Same H H' → Q (.str (dueD rs cs ms).shown) H'
/-- small tables -/
structure Sm6 (tb : List (List Int)) : Prop where
  l : tb.length ≤ 6
  row : ∀ r ∈ tb, r.length ≤ 6 ∧ ∀ n ∈ r, 0 ≤ n ∧ n ≤ 1000000000000
def sp_lgrid (K : PySem.W.Frag) : Sp := fun vs H Q _ => ∃ (p q : Addr) (ls ks : List Addr) (tb : List (List Int)), vs = [.ref p, .ref q] ∧ H p = some (.lst (ls.map V.ref)) ∧ RowsN H ls tb ∧ (∀ l ∈ ls, l ≠ p) ∧ H q = some (.lst (ks.map V.ref)) ∧ RowsN H ks tb ∧ Sm6 tb ∧
  ∀ H' : Hp, (∀ b o, H b = some o → b ≠ p → b ∉ ls → H' b = some o) → Q (.bl true) H'
def sp_lframe (K : PySem.W.Frag) (CF : Addr) : Sp := fun vs H Q _ => ∃ (fr du : Addr) (rs cs : List Int) (ms : List (List (Option Int))), vs = [.ref fr, .ref du] ∧ FrameAt K CF H fr rs cs ms ∧ DueAt H du rs cs ms [] ∧ Drawn rs cs ms ∧ ∀ H', Same H H' → Q (.bl true) H'
theorem nice_tab : ∀ tb : List (List Int), (∀ r ∈ tb, r.length ≤ 6 ∧ ∀ n ∈ r, 0 ≤ n ∧ n ≤ 1000000000000) → NiceL (tb.map fun r => .list (r.map PyData.int)) = true ∧ nodesL (tb.map fun r => .list (r.map PyData.int)) ≤ 7 * tb.length ∧ PyData.depthAll (tb.map fun r => .list (r.map PyData.int)) ≤ 1
  | [], _ => ⟨rfl, Nat.zero_le _, Nat.zero_le _⟩
  | r :: tb, h => by
    obtain ⟨g1, g2, g3⟩ := nice_tab tb fun x hx => h x (List.mem_cons_of_mem _ hx)
    have hr := h r List.mem_cons_self
    obtain ⟨n1, n2, n3⟩ := nice_ints r hr.2
    refine ⟨?_, ?_, ?_⟩
    · show (NiceL (r.map PyData.int) && NiceL (tb.map fun r => .list (r.map PyData.int))) = true
      rw [n1, g1]; rfl
    · show (1 + nodesL (r.map PyData.int)) + nodesL (tb.map fun r => .list (r.map PyData.int)) ≤ 7 * (tb.length + 1)
      have := hr.1
      omega
    · show max (PyData.depthAll (r.map PyData.int) + 1) (PyData.depthAll (tb.map fun r => .list (r.map PyData.int))) ≤ 1
      omega
theorem tab_show {tb : List (List Int)} (S : Sm6 tb) : (tabD tb).showable = true ∧ (tabD tb).hasDict = false ∧ (tabD tb).depth ≤ 60 ∧ (tabD tb).shown.length ≤ sizeLine := by
  obtain ⟨g1, g2, g3⟩ := nice_tab tb S.row
  have l6 := S.l
  have h : nodes (tabD tb) ≤ 1000 := by show 1 + nodesL (tb.map fun r => .list (r.map PyData.int)) ≤ 1000; omega
  obtain ⟨h1, h2, h3⟩ := nice_show (tabD tb) g1
  exact ⟨h1, h2, by show PyData.depthAll (tb.map fun r => .list (r.map PyData.int)) + 1 ≤ 60; omega, by rw [sizeLine_eq]; omega⟩
section
variable {P : Program} {w : World} {K : PySem.W.Frag} {mg : Str → Option Value} {base : Heap} {C : Nat → Addr} {tG tL : Tok} {CF : Addr}
theorem sc_l_put : FnScope ["_law_grid", "_law_order_here", "_law_other", "_law_found", "_law_i", "_law_j"] ["_law_grid", "_law_order_here", "_law_other"] (defScope s_l_put) :=
  ⟨rfl, rfl, rfl, by decide +kernel, rfl, by decide +kernel, by decide +kernel⟩
theorem ok_lput {f : Addr} {fd : FuncData} (F : Fun K "_law_put" "_law_put" s_l_put f fd) (T : Txt K mg C tG tL) : FnOk P w K mg base CX0 1 f fd ["_law_grid", "_law_order_here", "_law_other"] (sp_exchanged_rows K) := by
  refine F.ok sc_l_put (fun vs H Q E ⟨R, a, b, ls, ms, ro, co, hh, wd, e, _⟩ => by rw [e]; rfl) (fun cdv A outer s H vs Q E hr h => ?_)
  obtain ⟨R, a, b, ls, ms, ro, co, hh, wd, rfl, hR, rows, ha, hb, hml, hmw, r6, c6, hro, hco, q⟩ := h
  have hlen := rows.length
  refine ⟨_, (pss_cons (ps_set (i := 3) sc_l_put.nd rfl (by first | exact Or.inl rfl | exact Or.inr rfl) (pe_lst pa_nil))
  (pss_cons (ps_for PassesOwn.never rfl (pi_list (pv 1))
  (pg_name (i := 4) sc_l_put.nd rfl (by first | exact Or.inl rfl | exact Or.inr rfl))
  (pss_one (ps_expr (pe_bm PySem.F.plainAttrs_list PySem.F.slot_list_append PySem.F.type_list_append mt_append (pv 3) (pa_cons (pe_lc (own := [("_law_j", 5)]) (by rfl) sc_l_put.nd (pi_list (pv 2)) (blkOk_by (own := [("_law_j", 5)]) (N := ["_law_grid", "_law_order_here", "_law_other", "_law_found", "_law_i", "_law_j"]) (sc := defScope s_l_put) (by decide +kernel)) (fun _ _ _ _ _ => (pg_name (i := 5) sc_l_put.nd rfl (by first | exact Or.inl rfl | exact Or.inr rfl))) (fun _ _ _ _ _ => pts_nil) (fun _ _ _ _ _ => (pe_ix (ix_listK (K := K) rfl) (pe_ix (ix_listK (K := K) rfl) (pv 0) (pv 4) (fun _ _ => rfl)) (pv 5) (fun _ _ => rfl)))) pa_nil)))))
  (pss_one (ps_ret (pv 3))))), ?_⟩
  refine ⟨Nat.zero_le _, fun D nD => ⟨.ref a, rfl, a, rfl, ⟨_, (same_upd nD).seq ha⟩, ?_⟩⟩
  refine for_list (K := K) (xs := ixV ro) (fun i σ H' => Same H H' ∧ (∃ v4 v5, σ = [some (.ref R), some (.ref a), some (.ref b), some (.ref D), v4, v5]) ∧ ∃ ks : List Addr, H' D = some (.lst (ks.map V.ref)) ∧ RowsF H H' ks (exch .non ms (ro.take i) co) ∧ ∀ k ∈ ks, k ≠ D) ⟨same_upd nD, ⟨_, _, rfl⟩, [], upd_same, .nil, fun _ z => nomatch z⟩ (fun i σ H' _ p => p.1.seq ha) (fun i x σ H' hx p => ?_) (fun σ H' p => ?_)
  · obtain ⟨sm, ⟨v4, v5, rfl⟩, ks, hks, hrows, hne⟩ := p
    obtain ⟨n, hn, rfl⟩ := ixV_get hx
    have hin := hro n (List.mem_of_getElem? hn)
    have hnl : n < ls.length := by omega
    obtain ⟨m, hm, hk⟩ := rows.get (List.getElem?_eq_getElem hnl)
    have hmwd := hmw m (List.mem_of_getElem? hm)
    refine ⟨.ref D, rfl, .inl ⟨rfl, _, SqL.of hks⟩, .ref b, rfl, b, rfl, ⟨_, sm.seq hb⟩, fun B nB => ?_⟩
    have nBD : B ≠ D := fun z => by rw [z, hks] at nB; cases nB
    refine lc_list (K := K) (xs := ixV co) (fun j H3 => Same H' H3 ∧ H3 B = some (.lst ((co.take j).map fun j => m.getD j .non))) ⟨same_upd nB, upd_same⟩ (fun j H3 _ p3 => p3.1.seq (sm.seq hb)) (fun j x H3 hx3 p3 => ?_) (fun H3 p3 => ?_)
    · obtain ⟨s3, hB⟩ := p3
      obtain ⟨c, hc, rfl⟩ := ixV_get hx3
      have hcw := hco c (List.mem_of_getElem? hc)
      have hcm : c < m.length := by omega
      have sA := sm.trans s3
      refine ⟨rfl, .ref R, rfl, .int n, rfl, R, _, n, .ref ls[n], rfl, rfl, sA.seq hR, atI_nat (by rw [List.getElem?_map, List.getElem?_eq_getElem hnl]; rfl), .int c, rfl, ls[n], _, c, m[c], rfl, rfl, sA.seq hk, atI_nat (List.getElem?_eq_getElem hcm), _, hB, ?_, fun b' o e => ?_, ?_⟩
      · rw [List.length_map, List.length_take]
        exact Nat.lt_of_le_of_lt (Nat.le_trans (Nat.min_le_right _ _) c6) (by decide)
      · rw [upd_ne (ne_of_none e nB)]; exact s3 _ _ e
      · rw [upd_same, List.take_add_one, hc, List.map_append]
        have e : m.getD c .non = m[c] := getD_at (List.getElem?_eq_getElem hcm)
        show some (HO.lst (_ ++ [m[c]])) = some (HO.lst (_ ++ [m.getD c .non]))
        rw [e]
    · obtain ⟨s3, hB⟩ := p3
      rw [ixV_len, List.take_length] at hB
      have em : ms.getD n [] = m := getD_at hm
      refine ⟨D, _, _, rfl, rfl, s3 _ _ hks, ?_, fun b' o e => ?_, ⟨_, _, rfl⟩, ks ++ [B], by rw [upd_same, List.map_append]; rfl, ?_, fun y hy => ?_⟩
      · rw [List.length_map, hrows.length]
        unfold exch
        rw [List.length_map, List.length_take]
        exact Nat.lt_of_le_of_lt (Nat.le_trans (Nat.min_le_right _ _) r6) (by decide)
      · rw [upd_ne (ne_of_none e nD)]
        exact s3 _ _ (sm b' o e)
      · have et : exch .non ms (ro.take (i + 1)) co = exch .non ms (ro.take i) co ++ [co.map fun j => m.getD j .non] := by
          unfold exch
          rw [List.take_add_one, hn, List.map_append]
          show _ ++ [co.map fun j => (ms.getD n []).getD j V.non] = _
          rw [em]
        rw [et]
        refine (hrows.keep fun c o e1 e2 hc => ?_).append (.cons (sm.free nB) ?_ .nil)
        · rw [upd_ne (hne c hc)]
          exact s3 _ _ e2
        · rw [upd_ne nBD]; exact hB
      · rcases List.mem_append.mp hy with z | z
        · exact hne y z
        · obtain rfl : y = B := by simpa using z
          exact nBD
  · obtain ⟨sm, ⟨v4, v5, rfl⟩, ks, hks, hrows, hne⟩ := p
    rw [ixV_len, List.take_length] at hrows
    exact ⟨.ref D, rfl, q H' D ks sm nD hks hrows hne⟩
theorem sc_l_shown : FnScope ["_law_frame"] ["_law_frame"] (defScope s_l_shown) :=
  ⟨rfl, rfl, rfl, by decide +kernel, rfl, by decide +kernel, by decide +kernel⟩
theorem ok_lshown {f : Addr} {fd : FuncData} (F : Fun K "_law_shown" "_law_shown" s_l_shown f fd) (T : Txt K mg C tG tL) (c_Frame_rows : Mth P w K mg base CX0 1 CF "rows" ["self"] (sp_rows K CF)) (c_Frame_columns : Mth P w K mg base CX0 1 CF "columns" ["self"] (sp_columns K CF))
    (c_Frame_caps : Mth P w K mg base CX0 1 CF "caps" ["self"] (sp_caps K CF)) : FnG P w K mg base 2 f fd ["_law_frame"] (sp_lshown K CF) := by
  refine funOkG F sc_l_shown (fun vs H Q E ⟨fr, rs, cs, ms, e, _⟩ => by rw [e]; rfl) (fun cdv A outer s H vs Q E hr h => ?_)
  obtain ⟨fr, rs, cs, ms, rfl, FA, DR, q⟩ := h
  obtain ⟨dx, tr, tc, tk, ks, f1, -, -, -, -⟩ := FA.ex
  have no1 : ∀ a b c : V, (ff a b c).lookup ("rows" : Str) = none := fun a b c => ff_no a b c (by decide +kernel) (by decide +kernel) (by decide +kernel)
  have no2 : ∀ a b c : V, (ff a b c).lookup ("columns" : Str) = none := fun a b c => ff_no a b c (by decide +kernel) (by decide +kernel) (by decide +kernel)
  have no3 : ∀ a b c : V, (ff a b c).lookup ("caps" : Str) = none := fun a b c => ff_no a b c (by decide +kernel) (by decide +kernel) (by decide +kernel)
  refine ⟨_, (pss_one (ps_ret (pe_callB (reprK (K := K) rfl hr.g hr.r.units) (by rfl) T.n_repr (by decide +kernel) (pa_cons (pe_lst (pa_cons (pe_mth0 c_Frame_rows (hr.r.mono (by decide)) pass0 (pv 0)) (pa_cons (pe_mth0 c_Frame_columns (hr.r.mono (by decide)) pass0 (pv 0)) (pa_cons (pe_mth0 c_Frame_caps (hr.r.mono (by decide)) pass0 (pv 0)) pa_nil)))) pa_nil)))), ?_⟩
  refine ⟨.ref fr, rfl, fr, dx, _, rfl, f1, no1 _ _ _, fr, rs, cs, ms, rfl, FA, fun l1 n1 => ?_⟩
  have s1 := same_upd (o := .lst (rs.map V.int)) n1
  refine ⟨.ref fr, rfl, fr, dx, _, rfl, s1 _ _ f1, no2 _ _ _, fr, rs, cs, ms, rfl, FA.same s1, fun l2 n2 => ?_⟩
  have s2' := same_upd (o := .lst (cs.map V.int)) n2
  have s2 := s1.trans s2'
  refine ⟨.ref fr, rfl, fr, dx, _, rfl, s2 _ _ f1, no3 _ _ _, fr, rs, cs, ms, rfl, FA.same s2, DR.r6, fun H3 D ls s3' nD hD rowsL hne => ⟨(by show 3 ≤ sizeLine; decide), fun p np => ?_⟩⟩
  have hl1 := s3' _ _ (s2' _ _ (upd_same (H := H) (a := l1) (o := .lst (rs.map V.int))))
  have hl2 := s3' _ _ (upd_same (H := upd H l1 (.lst (rs.map V.int))) (a := l2) (o := .lst (cs.map V.int)))
  have sp := same_upd (o := .lst [V.ref l1, .ref l2, .ref D]) np
  have rowsC : RowsC (upd H3 p (.lst [V.ref l1, .ref l2, .ref D])) ls ms := (RowsC.ofL rowsL).keep fun b _ o e => sp _ _ e
  have DA : DueAt (upd H3 p (.lst [V.ref l1, .ref l2, .ref D])) p rs cs ms [] := ⟨l1, l2, D, ls, upd_same, sp _ _ hl1, sp _ _ hl2, sp _ _ hD, rowsC, fun _ _ z => nomatch z⟩
  exact repr_due DR (dp_due DA) (q _ ((s2.trans s3').trans sp))
theorem sc_l_grid_told : FnScope ["_law_told", "_law_due", "_law_row"] ["_law_told", "_law_due"] (defScope s_l_grid_told) :=
  ⟨rfl, rfl, rfl, by decide +kernel, rfl, by decide +kernel, by decide +kernel⟩
theorem ok_lgrid {f : Addr} {fd : FuncData} (F : Fun K "_law_grid_told" "_law_grid_told" s_l_grid_told f fd) (T : Txt K mg C tG tL) : FnG P w K mg base 1 f fd ["_law_told", "_law_due"] (sp_lgrid K) := by
  refine funOkG F sc_l_grid_told (fun vs H Q E ⟨p, q, ls, ks, tb, e, _⟩ => by rw [e]; rfl) (fun cdv A outer s H vs Q E hr h => ?_)
  obtain ⟨p, q0, ls, ks, tb, rfl, hp, rows, hlp, hq, rowsQ, S, q⟩ := h
  obtain ⟨z1, z2, z3, z4⟩ := tab_show S
  refine ⟨_, (pss_cons (ps_if (pt_cmpR op_ne (pe_callB (reprK (K := K) rfl hr.g hr.r.units) (by rfl) T.n_repr (by decide +kernel) (pa_cons (pv 0) pa_nil)) (pe_callB (reprK (K := K) rfl hr.g hr.r.units) (by rfl) T.n_repr (by decide +kernel) (pa_cons (pv 1) pa_nil)) (nomark _))
  (pss_one (ps_ret pe_bl))
  pss_nil)
  (pss_cons (ps_for PassesOwn.never rfl (pi_list (pv 0))
  (pg_name (i := 2) sc_l_grid_told.nd rfl (by first | exact Or.inl rfl | exact Or.inr rfl))
  (pss_one (ps_expr (pe_bm0 PySem.F.plainAttrs_list PySem.F.slot_list_clear PySem.F.type_list_clear mt_clear (pv 2)))))
  (pss_cons (ps_expr (pe_bm PySem.F.plainAttrs_list PySem.F.slot_list_append PySem.F.type_list_append mt_append (pv 0) (pa_cons pe_int pa_nil)))
  (pss_one (ps_ret pe_bl))))), ?_⟩
  refine ⟨.ref p, rfl, .ref p, tabD tb, rfl, .lst (SqL.of hp) (dp_tab rows), z1, z2, z3, z4, .ref q0, rfl, .ref q0, tabD tb, rfl, .lst (SqL.of hq) (dp_tab rowsQ), z1, z2, z3, z4, rfl, _, rfl, iteNS rfl ?_⟩
  refine ⟨.ref p, rfl, p, rfl, ⟨_, SqL.of hp⟩, ?_⟩
  refine for_list (K := K) (xs := ls.map V.ref) (fun i σ H' => (∀ b o, H b = some o → b ∉ ls → H' b = some o) ∧ (∀ l ∈ ls, ∃ xs, H' l = some (.lst xs)) ∧ ∃ v, σ = [some (.ref p), some (.ref q0), v]) ⟨fun b o e _ => e, fun l hl => ?_, _, rfl⟩ (fun i σ H' _ p' => SqL.of (p'.1 _ _ hp fun z => hlp p z rfl)) (fun i x σ H' hx p' => ?_) (fun σ H' p' => ?_)
  · obtain ⟨i, hi⟩ := List.mem_iff_getElem?.mp hl
    obtain ⟨r, _, e⟩ := rows.get hi
    exact ⟨_, e⟩
  · obtain ⟨g1, g2, v, rfl⟩ := p'
    obtain ⟨l, hl, rfl⟩ := some_get hx
    obtain ⟨xs, hxs⟩ := g2 l (List.mem_of_getElem? hl)
    refine ⟨.ref l, rfl, .inl ⟨rfl, _, SqL.of hxs⟩, l, xs, rfl, rfl, hxs, fun b o e nb => ?_, fun y hy => ?_, _, rfl⟩
    · rw [upd_ne (show b ≠ l from fun z => nb (by rw [z]; exact List.mem_of_getElem? hl))]
      exact g1 b o e nb
    · by_cases z : y = l
      · subst z; exact ⟨_, upd_same⟩
      · rw [upd_ne z]; exact g2 y hy
  · obtain ⟨g1, g2, v, rfl⟩ := p'
    have hp' := g1 _ _ hp fun z => hlp p z rfl
    have hlen := rows.length
    refine ⟨.ref p, rfl, .inl ⟨rfl, _, SqL.of hp'⟩, p, _, _, rfl, rfl, hp', ?_, q _ fun b o e nb nl => ?_⟩
    · rw [List.length_map, hlen]
      exact Nat.lt_of_le_of_lt S.l (by decide)
    · rw [upd_ne nb]
      exact g1 b o e nl
theorem sc_l_frame_told : FnScope ["_law_told", "_law_due"] ["_law_told", "_law_due"] (defScope s_l_frame_told) :=
  ⟨rfl, rfl, rfl, by decide +kernel, rfl, by decide +kernel, by decide +kernel⟩
theorem ok_lframe {f : Addr} {fd : FuncData} (F : Fun K "_law_frame_told" "_law_frame_told" s_l_frame_told f fd) (T : Txt K mg C tG tL) (FT : FrT K mg CF) (FI : FrI K CF) (c_l_shown : CalG P w K mg base 2 "_law_shown" ["_law_frame"] (sp_lshown K CF)) (c_Frame_rows : Mth P w K mg base CX0 1 CF "rows" ["self"] (sp_rows K CF))
    (c_Frame_columns : Mth P w K mg base CX0 1 CF "columns" ["self"] (sp_columns K CF)) (c_Frame_caps : Mth P w K mg base CX0 1 CF "caps" ["self"] (sp_caps K CF)) : FnG P w K mg base 3 f fd ["_law_told", "_law_due"] (sp_lframe K CF) := by
  refine funOkG F sc_l_frame_told (fun vs H Q E ⟨fr, du, rs, cs, ms, e, _⟩ => by rw [e]; rfl) (fun cdv A outer s H vs Q E hr h => ?_)
  obtain ⟨fr, du, rs, cs, ms, rfl, FA, DA, DR, q⟩ := h
  obtain ⟨dx, tr, tc, tk, ks, f1, -, -, -, -⟩ := FA.ex
  have no1 : ∀ a b c : V, (ff a b c).lookup ("rows" : Str) = none := fun a b c => ff_no a b c (by decide +kernel) (by decide +kernel) (by decide +kernel)
  have no2 : ∀ a b c : V, (ff a b c).lookup ("columns" : Str) = none := fun a b c => ff_no a b c (by decide +kernel) (by decide +kernel) (by decide +kernel)
  have no3 : ∀ a b c : V, (ff a b c).lookup ("caps" : Str) = none := fun a b c => ff_no a b c (by decide +kernel) (by decide +kernel) (by decide +kernel)
  obtain ⟨z1, z2, z3, z4⟩ := due_show DR
  have kit : PySem.W.kitOne K (.ref CF) (.ref CF) = some true := by unfold PySem.W.kitOne; rw [if_pos (by simp)]
  refine ⟨_, (pss_cons (ps_if (PW.pt (pw_or (pt_not (pt_val (pe_callB (isiK (K := K) rfl) (by rfl) T.n_isinstance (by decide +kernel) (pa_cons (pv 0) (pa_cons (pe_glob (v := .ref _) (by rfl) FT.g rfl) pa_nil))))) (pw_or1 (pt_cmpR op_ne (pe_calG c_l_shown (hr.mono (by decide)) (by rfl) (pa_cons (pv 0) pa_nil)) (pe_callB (reprK (K := K) rfl hr.g hr.r.units) (by rfl) T.n_repr (by decide +kernel) (pa_cons (pv 1) pa_nil)) (nomark _)))))
  (pss_one (ps_ret pe_bl))
  pss_nil)
  (pss_cons (ps_expr (pe_bm0 PySem.F.plainAttrs_list PySem.F.slot_list_clear PySem.F.type_list_clear mt_clear (pe_ix (ix_listK (K := K) rfl) (pe_mth0 c_Frame_caps (hr.r.mono (by decide)) pass0 (pv 0)) pe_int (fun _ _ => rfl))))
  (pss_cons (ps_expr (pe_bm0 PySem.F.plainAttrs_list PySem.F.slot_list_clear PySem.F.type_list_clear mt_clear (pe_mth0 c_Frame_caps (hr.r.mono (by decide)) pass0 (pv 0))))
  (pss_cons (ps_expr (pe_bm0 PySem.F.plainAttrs_list PySem.F.slot_list_clear PySem.F.type_list_clear mt_clear (pe_mth0 c_Frame_rows (hr.r.mono (by decide)) pass0 (pv 0))))
  (pss_cons (ps_expr (pe_bm PySem.F.plainAttrs_list PySem.F.slot_list_append PySem.F.type_list_append mt_append (pe_mth0 c_Frame_columns (hr.r.mono (by decide)) pass0 (pv 0)) (pa_cons pe_int pa_nil)))
  (pss_one (ps_ret (pe_cmpR op_eq (pe_calG c_l_shown (hr.mono (by decide)) (by rfl) (pa_cons (pv 0) pa_nil)) (pe_callB (reprK (K := K) rfl hr.g hr.r.units) (by rfl) T.n_repr (by decide +kernel) (pa_cons (pv 1) pa_nil)) (nomark _))))))))), ?_⟩
  refine ⟨.ref fr, rfl, .ref fr, .ref CF, .ref CF, .ref CF, true, rfl, .own CF, .base (.ins f1 FI.cl FI.ha FI.hn FI.ht FI.hm), kit, _, rfl, ?_⟩
  refine ⟨.ref fr, rfl, fr, rs, cs, ms, rfl, FA, DR, fun H1 s1 => ?_⟩
  have keep : ∀ {Hx : Hp}, Same H Hx → DueAt Hx du rs cs ms [] := fun sx => DA.keep fun x o _ e => sx x o e
  refine ⟨.ref du, rfl, .ref du, dueD rs cs ms, rfl, dp_due (keep s1), z1, z2, z3, z4, rfl, _, rfl, iteNS rfl ?_⟩
  -- caps()[0].clear()
  refine ⟨.ref fr, rfl, fr, dx, _, rfl, s1 _ _ f1, no3 _ _ _, fr, rs, cs, ms, rfl, FA.same s1, DR.r6, fun H2 D ls s2 nD hD rowsL hne => ?_⟩
  have hlen := rowsL.length
  have hl0 : 0 < ls.length := by rw [hlen, DR.ml]; exact DR.r1
  have fr2 := RowsL.fresh rowsL ls[0] (List.getElem_mem hl0)
  obtain ⟨k0, hk0, hkl⟩ := (RowsC.ofL rowsL).get (List.getElem?_eq_getElem (show 0 < ms.length by omega))
  have ek : ls[0] = k0 := Option.some.inj ((List.getElem?_eq_getElem hl0).symm.trans hk0)
  rw [← ek] at hkl
  refine ⟨D, _, 0, .ref ls[0], rfl, rfl, SqL.of hD, atI_nat (j := 0) (by rw [List.getElem?_map, List.getElem?_eq_getElem hl0]; rfl), .inl ⟨rfl, _, SqL.of hkl⟩, ls[0], _, rfl, rfl, hkl, ?_⟩
  have s2' : Same H1 (upd H2 ls[0] (.lst [])) := Same.put s2 fr2
  generalize upd H2 ls[0] (.lst []) = H2' at s2' ⊢
  have sA := s1.trans s2'
  -- caps().clear()
  refine ⟨.ref fr, rfl, fr, dx, _, rfl, sA _ _ f1, no3 _ _ _, fr, rs, cs, ms, rfl, FA.same sA, DR.r6, fun H3 D3 ls3 s3 nD3 hD3 rowsL3 hne3 => ?_⟩
  refine ⟨.inl ⟨rfl, _, SqL.of hD3⟩, D3, _, rfl, rfl, hD3, ?_⟩
  have s3' : Same H2' (upd H3 D3 (.lst [])) := Same.put s3 nD3
  generalize upd H3 D3 (.lst []) = H3' at s3' ⊢
  have sB := sA.trans s3'
  -- rows().clear()
  refine ⟨.ref fr, rfl, fr, dx, _, rfl, sB _ _ f1, no1 _ _ _, fr, rs, cs, ms, rfl, FA.same sB, fun l1 n1 => ?_⟩
  refine ⟨.inl ⟨rfl, _, SqL.of upd_same⟩, l1, _, rfl, rfl, upd_same, ?_⟩
  have s4' : Same H3' (upd (upd H3' l1 (.lst (rs.map V.int))) l1 (.lst [])) := Same.put (same_upd n1) n1
  generalize upd (upd H3' l1 (.lst (rs.map V.int))) l1 (.lst []) = H4' at s4' ⊢
  have sC := sB.trans s4'
  -- columns().append(7)
  refine ⟨.ref fr, rfl, fr, dx, _, rfl, sC _ _ f1, no2 _ _ _, fr, rs, cs, ms, rfl, FA.same sC, fun l2 n2 => ?_⟩
  refine ⟨.inl ⟨rfl, _, SqL.of upd_same⟩, l2, _, _, rfl, rfl, upd_same, ?_, ?_⟩
  · rw [List.length_map]; exact Nat.lt_of_le_of_lt DR.c6 (by decide)
  have s5' : Same H4' (upd (upd H4' l2 (.lst (cs.map V.int))) l2 (.lst (cs.map V.int ++ [.int 7]))) := Same.put (same_upd n2) n2
  generalize upd (upd H4' l2 (.lst (cs.map V.int))) l2 (.lst (cs.map V.int ++ [.int 7])) = H5' at s5' ⊢
  have sD := sC.trans s5'
  refine ⟨.ref fr, rfl, fr, rs, cs, ms, rfl, FA.same sD, DR, fun H6 s6 => ?_⟩
  have sE := sD.trans s6
  refine ⟨.ref du, rfl, .ref du, dueD rs cs ms, rfl, dp_due (keep sE), z1, z2, z3, z4, rfl, ?_⟩
  rw [decide_eq_true rfl]
  exact q H6 sE
end
end Kp14
set_option Elab.async false
set_option linter.all false
set_option maxRecDepth 100000
set_option maxHeartbeats 4000000
namespace Kp14
open PySem PySem.Spec PyProof.Rows L2 Vf
/-! ### the law's own joining; a greatest table -/
theorem take_snoc {α : Type} {xs : List α} {i : Nat} (h : i < xs.length) : xs.take (i + 1) = xs.take i ++ [xs[i]] := by rw [List.take_add_one, List.getElem?_eq_getElem h]; rfl
theorem drop_snoc {α : Type} {xs : List α} {a i : Nat} (h : i < xs.length) (ha : a ≤ i) : (xs.take (i + 1)).drop a = (xs.take i).drop a ++ [xs[i]] := by
  rw [take_snoc h, List.drop_append_of_le_length (by rw [List.length_take]; omega)]
/-- the places behind the first, without the second, up to k -/
def rest2 {α : Type} (xs : List α) (l g k : Nat) : List α := if k ≤ g then (xs.take k).drop (l + 1) else (xs.take g).drop (l + 1) ++ (xs.take k).drop (g + 1)
def sp_lgreatest : Sp := fun vs H Q _ => ∃ t : Addr, vs = [.ref t] ∧ Tp H t ∧ ∀ (H' : Hp) (p l : Addr) (a c : Int), Kp t H H' → H p = none → TL t H' p [l] [[a, 1000000000000 - a, c]] → 0 ≤ a → a ≤ 1000000000000 → 1 ≤ c → c ≤ 100000000000 → Q (.ref p) H'
section
variable {P : Program} {w : World} {K : PySem.W.Frag} {mg : Str → Option Value} {base : Heap} {C : Nat → Addr} {tG tL : Tok} {CF : Addr}
theorem sc_l_joined : FnScope ["_law_row", "_law_first", "_law_second", "_law_together", "_law_j"] ["_law_row", "_law_first", "_law_second", "_law_together"] (defScope s_l_joined) :=
  ⟨rfl, rfl, rfl, by decide +kernel, rfl, by decide +kernel, by decide +kernel⟩
theorem ok_ljoined {f : Addr} {fd : FuncData} (F : Fun K "_law_joined" "_law_joined" s_l_joined f fd) (T : Txt K mg C tG tL) : FnOk P w K mg base CX0 1 f fd ["_law_row", "_law_first", "_law_second", "_law_together"] (sp_put_together K) := by
  refine F.ok sc_l_joined (fun vs H Q E ⟨R, xs, l, g, x, z, _⟩ => by rw [z]; rfl) (fun cdv A outer s H vs Q E hr h => ?_)
  obtain ⟨R, xs, l, g, x, rfl, hR, hlg, hg, h6, q⟩ := h
  have sl := sizeLine_eq
  refine ⟨_, (pss_one (ps_ret (pe_op op_cat (pe_op op_cat (pe_slice sl_list (pv 0) po_none (po_some (pv 1))) (pe_lst (pa_cons (pv 3) pa_nil))) (pe_lc (own := [("_law_j", 4)]) (by rfl) sc_l_joined.nd (pi_range2 (by rfl) T.n_range (pa_cons (pe_op op_add (pv 1) pe_int) (pa_cons (pe_callB (len_ofK (K := K) rfl) (by rfl) T.n_len (by decide +kernel) (pa_cons (pv 0) pa_nil)) pa_nil))) (blkOk_by (own := [("_law_j", 4)]) (N := ["_law_row", "_law_first", "_law_second", "_law_together", "_law_j"]) (sc := defScope s_l_joined) (by decide +kernel)) (fun _ _ _ _ _ => (pg_name (i := 4) sc_l_joined.nd rfl (by first | exact Or.inl rfl | exact Or.inr rfl))) (fun _ _ _ _ _ => pts_one (pt_cmpR op_ne (pv 4) (pv 2) (nomark _))) (fun _ _ _ _ _ => (pe_ix (ix_listK (K := K) rfl) (pv 0) (pv 4) (fun _ _ => rfl))))))), ?_⟩
  refine ⟨.ref R, rfl, .int l, rfl, l, rfl, R, xs, rfl, hR, fun p1 n1 => ?_⟩
  rw [cut_to]
  have k1 := same_upd (o := .lst (xs.take l)) n1
  refine ⟨x, rfl, (by show 1 ≤ sizeLine; decide), fun p2 n2 => ?_⟩
  have k2 := same_upd (o := .lst [x]) n2
  refine ⟨p1, p2, _, _, rfl, rfl, k2 _ _ upd_same, upd_same, by rw [List.length_take]; simp only [List.length_cons, List.length_nil]; omega, fun p3 n3 => ?_⟩
  have k3 := same_upd (o := .lst (xs.take l ++ [x])) n3
  have hp3 : upd (upd (upd H p1 (.lst (xs.take l))) p2 (.lst [x])) p3 (.lst (xs.take l ++ [x])) p3 = some (.lst (xs.take l ++ [x])) := upd_same
  have s3 := (k1.trans k2).trans k3
  generalize upd (upd (upd H p1 (.lst (xs.take l))) p2 (.lst [x])) p3 (.lst (xs.take l ++ [x])) = H3 at s3 hp3 ⊢
  refine ⟨.int l, rfl, l, 1, rfl, rfl, .ref R, rfl, R, _, rfl, .inl (s3.seq hR), _, _, rfl, ⟨by omega, by omega, by omega, by omega⟩, fun D nD => ?_⟩
  refine lc_range (lo := (l : Int) + 1) (n := (((xs.length : Nat) : Int) - ((l : Int) + 1)).toNat) (fun i H' => Same H3 H' ∧ H' D = some (.lst (rest2 xs l g (l + 1 + i)))) ⟨same_upd nD, ?_⟩ (fun i H' hi p => ?_) (fun H' p => ?_)
  · rw [upd_same]
    unfold rest2
    rw [Nat.add_zero, if_pos (by omega : l + 1 ≤ g), List.drop_of_length_le (by rw [List.length_take]; omega)]
  · have hj : l + 1 + i < xs.length := by omega
    refine ⟨rfl, .int ((l : Int) + 1 + (i : Int)), rfl, .int g, rfl, rfl, _, rfl, ?_⟩
    by_cases z : l + 1 + i = g
    · have e : decide (V.int ((l : Int) + 1 + (i : Int)) = V.int g) = true := decide_eq_true (by congr 1; omega)
      rw [e]
      refine ⟨p.1, p.2.trans ?_⟩
      unfold rest2
      rw [if_pos (by omega : l + 1 + i ≤ g), if_neg (by omega : ¬ l + 1 + (i + 1) ≤ g), z, List.drop_of_length_le (i := g + 1) (by rw [List.length_take]; omega), List.append_nil]
    · have e : decide (V.int ((l : Int) + 1 + (i : Int)) = V.int g) = false := decide_eq_false fun y => z (by have := V.int.inj y; omega)
      rw [e]
      refine ⟨.ref R, rfl, .int ((l : Int) + 1 + (i : Int)), rfl, R, xs, (l : Int) + 1 + (i : Int), xs[l + 1 + i], rfl, rfl, p.1.seq (s3.seq hR), at_of (j := l + 1 + i) (by omega) (List.getElem?_eq_getElem hj), _, p.2, ?_, fun b o eb => ?_, ?_⟩
      · have : (rest2 xs l g (l + 1 + i)).length ≤ 12 := by
          unfold rest2
          split
          · rw [List.length_drop, List.length_take]; omega
          · rw [List.length_append, List.length_drop, List.length_drop, List.length_take, List.length_take]; omega
        omega
      · rw [upd_ne (ne_of_none eb nD)]; exact p.1 _ _ eb
      · rw [upd_same]
        congr 2
        unfold rest2
        by_cases y : l + 1 + i < g
        · rw [if_pos (by omega : l + 1 + i ≤ g), if_pos (by omega : l + 1 + (i + 1) ≤ g), ← Nat.add_assoc, drop_snoc hj (by omega)]
        · rw [if_neg (by omega : ¬ l + 1 + i ≤ g), if_neg (by omega : ¬ l + 1 + (i + 1) ≤ g), ← Nat.add_assoc, drop_snoc hj (by omega), List.append_assoc]
  · obtain ⟨s4, hD⟩ := p
    have e : l + 1 + (((xs.length : Nat) : Int) - ((l : Int) + 1)).toNat = xs.length := by omega
    rw [e] at hD
    have er : rest2 xs l g xs.length = (xs.take g).drop (l + 1) ++ xs.drop (g + 1) := by
      unfold rest2
      rw [if_neg (by omega), List.take_length]
    rw [er] at hD
    refine ⟨p3, D, _, _, rfl, rfl, s4 _ _ hp3, hD, by simp only [List.length_append, List.length_drop, List.length_take, List.length_cons, List.length_nil]; omega, fun p7 n7 => ?_⟩
    have s5 := s3.trans s4
    refine q _ p7 (s5.trans (same_upd n7)) (s5.free n7) ?_
    rw [upd_same, ← List.append_assoc]; rfl
theorem sc_l_cap_of : FnScope ["_law_one", "_law_other"] ["_law_one", "_law_other"] (defScope s_l_cap_of) :=
  ⟨rfl, rfl, rfl, by decide +kernel, rfl, by decide +kernel, by decide +kernel⟩
theorem ok_lcap_of {f : Addr} {fd : FuncData} (F : Fun K "_law_cap_of" "_law_cap_of" s_l_cap_of f fd) (T : Txt K mg C tG tL) : FnOk P w K mg base CX0 1 f fd ["_law_one", "_law_other"] sp_joined_cap := by
  refine F.ok sc_l_cap_of (fun vs H Q E ⟨a, b, z, _⟩ => by rw [z]; rfl) (fun cdv A outer s H vs Q E hr h => ?_)
  obtain ⟨a, b, rfl, q⟩ := h
  refine ⟨_, (pss_cons (ps_if (PW.pt (pw_or (pt_cmpR op_isN (pv 0) pe_non (nomark _)) (pw_or1 (pt_cmpR op_isN (pv 1) pe_non (nomark _)))))
  (pss_one (ps_ret pe_non))
  pss_nil)
  (pss_one (ps_ret (pe_callB (call_min2 rfl) (by rfl) T.n_min (by decide +kernel) (pa_cons (pe_op op_pow pe_int pe_int) (pa_cons (pe_op op_add (pv 0) (pv 1)) pa_nil)))))), ?_⟩
  refine ⟨capV a, rfl, rfl, _, rfl, ?_⟩
  cases a with
  | none => exact q
  | some a =>
    refine ⟨capV b, rfl, rfl, _, rfl, ?_⟩
    cases b with
    | none => exact q
    | some b =>
      refine ⟨10, 12, rfl, rfl, cpow12, .int a, rfl, .int b, rfl, a, b, rfl, rfl, _, a + b, rfl, ?_⟩
      rw [pow12]
      have e : (if a + b < (1000000000000 : Int) then a + b else 1000000000000) = if (1000000000000 : Int) < a + b then 1000000000000 else a + b := by split <;> split <;> omega
      rw [e]
      exact q
theorem sc_l_greatest : FnScope ["_law_tape_here", "_law_part"] ["_law_tape_here"] (defScope s_l_greatest) :=
  ⟨rfl, rfl, rfl, by decide +kernel, rfl, by decide +kernel, by decide +kernel⟩
theorem ok_lgreatest {f : Addr} {fd : FuncData} (F : Fun K "_law_greatest" "_law_greatest" s_l_greatest f fd) (T : Txt K mg C tG tL) (c_l_digit : Cal P w K mg base CX0 1 "_law_digit" ["_law_tape_here", "_law_size"] sp_digit) : FnOk P w K mg base CX0 2 f fd ["_law_tape_here"] sp_lgreatest := by
  refine F.ok sc_l_greatest (fun vs H Q E ⟨t, e, _⟩ => by rw [e]; rfl) (fun cdv A outer s H vs Q E hr h => ?_)
  obtain ⟨t, rfl, tp, q⟩ := h
  obtain ⟨n, ht⟩ := id tp
  refine ⟨_, (pss_cons (ps_set (i := 1) sc_l_greatest.nd rfl (by first | exact Or.inl rfl | exact Or.inr rfl) (pe_cal c_l_digit (hr.mono (by decide)) (by rfl) pass0 (pa_cons (pv 0) (pa_cons (pe_op op_add (pe_op op_pow pe_int pe_int) pe_int) pa_nil))))
  (pss_one (ps_ret (pe_lst (pa_cons (pe_lst (pa_cons (pv 1) (pa_cons (pe_op op_sub (pe_op op_pow pe_int pe_int) (pv 1)) (pa_cons (pe_op op_add pe_int (pe_cal c_l_digit (hr.mono (by decide)) (by rfl) pass0 (pa_cons (pv 0) (pa_cons (pe_op op_pow pe_int pe_int) pa_nil)))) pa_nil)))) pa_nil))))), ?_⟩
  refine ⟨.ref t, rfl, 10, 12, rfl, rfl, cpow12, _, 1, rfl, rfl, t, n, _, rfl, ht, by rw [pow12]; decide, by rw [pow12]; decide, fun a m1 a0 a1 => ?_⟩
  rw [pow12] at a1
  have k1 : Kp t H (upd H t (.lst [.int m1])) := (Kp.refl tp).tape
  refine ⟨.int a, rfl, 10, 12, rfl, rfl, cpow12, .int a, rfl, _, a, rfl, rfl, .ref t, rfl, 10, 11, rfl, rfl, cpow11, t, m1, _, rfl, upd_same, by rw [pow11]; decide, by rw [pow11]; decide, fun d m2 d0 d1 => ⟨1, d, rfl, rfl, (by show 3 ≤ sizeLine; decide), fun l nl => ⟨(by show 1 ≤ sizeLine; decide), fun p np => ?_⟩⟩⟩
  rw [pow11] at d1
  have k2 := k1.tape (n := m2)
  have lt : l ≠ t := fun z => by obtain ⟨x, e⟩ := k2.2; rw [z, e] at nl; cases nl
  have k3 := k2.lay (o := .lst [V.int a, .int ((10 : Int) ^ Int.toNat 12 - a), .int (1 + d)]) nl
  have pt : p ≠ t := fun z => by obtain ⟨x, e⟩ := k3.2; rw [z, e] at np; cases np
  have pl : l ≠ p := ne_of_none upd_same np
  have k4 := k3.lay (o := .lst [V.ref l]) np
  refine q _ p l a (1 + d) k4 (k3.free tp np) ⟨upd_same, .cons ?_ .nil, pt, fun x hx => ?_⟩ a0 (by omega) (by omega) (by omega)
  · rw [upd_ne pl, upd_same, pow12]; rfl
  · obtain rfl : x = l := by simpa using hx
    exact lt
end
end Kp14
set_option Elab.async false
set_option linter.all false
set_option maxRecDepth 100000
set_option maxHeartbeats 4000000
namespace Kp14
open PySem PySem.Spec PyProof.Rows L2 Vf
/-! ### exchanged well -/
structure Case14 (tb : List (List Int)) (wd : Nat) (rs cs : List Int) (ms : List (List (Option Int))) : Prop where
  h1 : 1 ≤ tb.length
  h6 : tb.length ≤ 6
  w1 : 1 ≤ wd
  w6 : wd ≤ 6
  row : ∀ r ∈ tb, r.length = wd ∧ ∀ n ∈ r, 0 ≤ n ∧ n ≤ 1000000000000
  er : rowSums tb = rs
  ec : colSums tb wd = cs
  wi : within tb ms = true
  dr : Drawn rs cs ms
  two : ∀ l g, l < g → g < wd → cs.getD l 0 + cs.getD g 0 ≤ 1000000000000
  twoR : ∀ r ∈ tb, ∀ l g, l < g → g < wd → r.getD l 0 + r.getD g 0 ≤ 1000000000000
theorem Case14.rl {tb : List (List Int)} {wd : Nat} {rs cs : List Int} {ms : List (List (Option Int))} (c : Case14 tb wd rs cs ms) : rs.length = tb.length := by rw [← c.er]; unfold rowSums; rw [List.length_map]
theorem Case14.cl {tb : List (List Int)} {wd : Nat} {rs cs : List Int} {ms : List (List (Option Int))} (c : Case14 tb wd rs cs ms) : cs.length = wd := by rw [← c.ec]; exact colSums_length tb wd
/-- the parts, none of them the tape -/
structure Pts (t : Addr) (H : Hp) (pt : Addr) (rs cs : List Int) (ms : List (List (Option Int))) : Prop where
  ex : ∃ (ra ca D : Addr) (ks : List Addr), H pt = some (.tup [.ref ra, .ref ca, .ref D]) ∧ H ra = some (.lst (rs.map V.int)) ∧ H ca = some (.lst (cs.map V.int)) ∧ H D = some (.lst (ks.map V.ref)) ∧ RowsC H ks ms ∧ ∀ x ∈ pt :: ra :: ca :: D :: ks, x ≠ t
theorem Pts.kp {t : Addr} {H H' : Hp} {pt : Addr} {rs cs : List Int} {ms : List (List (Option Int))} (p : Pts t H pt rs cs ms) (k : Kp t H H') : Pts t H' pt rs cs ms := by
  obtain ⟨ra, ca, D, ks, h1, h2, h3, h4, h5, h6⟩ := p.ex
  exact ⟨ra, ca, D, ks, k.1 _ _ h1 (h6 _ (by simp)), k.1 _ _ h2 (h6 _ (by simp)), k.1 _ _ h3 (h6 _ (by simp)), k.1 _ _ h4 (h6 _ (by simp)), h5.keep fun b hb o e => k.1 _ _ e (h6 b (by simp [hb])), h6⟩
theorem Pts.same {t : Addr} {H H' : Hp} {pt : Addr} {rs cs : List Int} {ms : List (List (Option Int))} (p : Pts t H pt rs cs ms) (s : Same H H') : Pts t H' pt rs cs ms := by
  obtain ⟨ra, ca, D, ks, h1, h2, h3, h4, h5, h6⟩ := p.ex
  exact ⟨ra, ca, D, ks, s _ _ h1, s _ _ h2, s _ _ h3, s _ _ h4, h5.keep fun b hb o e => s _ _ e, h6⟩
theorem tp_same {t : Addr} {H H' : Hp} (h : Tp H t) (s : Same H H') : Tp H' t := let ⟨n, e⟩ := h; ⟨n, s _ _ e⟩
/-- an order, as a list or a tuple -/
def Ords (H : Hp) (x : Addr) (o : List Nat) : Prop := H x = some (.lst (ixV o)) ∨ H x = some (.tup (ixV o))
theorem Ords.same {H H' : Hp} {x : Addr} {o : List Nat} (h : Ords H x o) (s : Same H H') : Ords H' x o := h.imp (s _ _) (s _ _)
theorem rp_ixV {K : PySem.W.Frag} {H : Hp} : ∀ o : List Nat, RpL K H (ixV o) (o.map fun i => Dt.int (i : Nat))
  | [] => .nil
  | i :: o => .cons (.int _) (rp_ixV o)
theorem ord_rp {K : PySem.W.Frag} {H : Hp} {x : Addr} {o : List Nat} {n : Nat} (h : Ords H x o) (pm : o.Perm (List.range n)) (n6 : n ≤ 6) : ∃ d : Dt, Rp K H (.ref x) d ∧ orderOf d = o ∧ lenD d ≤ 1000 ∧ isOrder n d = true := by
  obtain ⟨d, R, e⟩ : ∃ d : Dt, Rp K H (.ref x) d ∧ d.items = some (o.map fun i => Dt.int (i : Nat)) := by
    rcases h with h | h
    · exact ⟨.lst _, .lst (SqL.of h) (rp_ixV o), rfl⟩
    · exact ⟨.tup _, .tup (SqT.of h) (rp_ixV o), rfl⟩
  obtain ⟨eo, _⟩ := order_of e
  have ol := perm_length pm
  refine ⟨d, R, eo, ?_, ?_⟩
  · unfold lenD; rw [e]; show (o.map fun i => Dt.int (i : Nat)).length ≤ 1000; rw [List.length_map]; omega
  · unfold isOrder
    rw [e, eo]
    show (true && (o.map fun i => Dt.int (i : Nat)).all (isPlace n) && o.isPerm (List.range n)) = true
    have a : (o.map fun i => Dt.int (i : Nat)).all (isPlace n) = true := by
      rw [List.all_eq_true]
      intro y hy
      obtain ⟨i, hi, rfl⟩ := List.mem_map.mp hy
      have := (perm_mem pm).mp hi
      show (decide (0 ≤ (i : Int)) && decide ((i : Int) < (n : Int))) = true
      rw [decide_eq_true (by omega), decide_eq_true (by omega)]; rfl
    rw [a, List.isPerm_iff.mpr pm]; rfl
theorem nice_ix : ∀ o : List Nat, (∀ i ∈ o, i < 6) → NiceL (o.map fun i => PyData.int (i : Nat)) = true ∧ nodesL (o.map fun i => PyData.int (i : Nat)) = o.length ∧ PyData.depthAll (o.map fun i => PyData.int (i : Nat)) = 0
  | [], _ => ⟨rfl, rfl, rfl⟩
  | i :: o, h => by
    obtain ⟨h1, h2, h3⟩ := nice_ix o fun x hx => h x (List.mem_cons_of_mem _ hx)
    have hi := h i List.mem_cons_self
    refine ⟨?_, ?_, ?_⟩
    · show (Nice (.int (i : Nat)) && NiceL (o.map fun i => PyData.int (i : Nat))) = true
      rw [nice_int (by omega), h1]; rfl
    · show 1 + nodesL (o.map fun i => PyData.int (i : Nat)) = o.length + 1
      omega
    · show max 0 (PyData.depthAll (o.map fun i => PyData.int (i : Nat))) = 0
      rw [h3]; rfl
theorem dp_ixV {K : PySem.W.Frag} {H : Hp} : ∀ o : List Nat, DpAll K H (ixV o) (o.map fun i => PyData.int (i : Nat))
  | [] => .nil
  | i :: o => .cons (.int _) (dp_ixV o)
theorem ord_data {K : PySem.W.Frag} {H : Hp} {x : Addr} {o : List Nat} {n : Nat} (h : Ords H x o) (pm : o.Perm (List.range n)) (n6 : n ≤ 6) : ∃ d : PyData, Dp K H (.ref x) d ∧ Nice d = true ∧ nodes d ≤ 10 ∧ PyData.depth d ≤ 1 := by
  have ol := perm_length pm
  obtain ⟨h1, h2, h3⟩ := nice_ix o fun i hi => Nat.lt_of_lt_of_le ((perm_mem pm).mp hi) n6
  rcases h with h | h
  · exact ⟨.list _, .lst (SqL.of h) (dp_ixV o), h1, by show 1 + nodesL _ ≤ 10; omega, by show PyData.depthAll _ + 1 ≤ 1; omega⟩
  · exact ⟨.tuple _, .tup (SqT.of h) (dp_ixV o), h1, by show 1 + nodesL _ ≤ 10; omega, by show PyData.depthAll _ + 1 ≤ 1; omega⟩
theorem some_ints (tb : List (List Int)) : (tb.map (·.map some)).map (·.map capV) = rowsV tb := by
  unfold rowsV
  rw [List.map_map]
  refine List.map_congr_left fun r _ => ?_
  show (r.map some).map capV = r.map V.int
  rw [List.map_map]
  rfl
/-- a table handed in, as data to be shown -/
theorem tab_data {K : PySem.W.Frag} {H H' : Hp} {p : Addr} {bs : List Addr} {tb : List (List Int)} {wd : Nat} (hp : H' p = some (.lst (bs.map V.ref)) ∨ H' p = some (.tup (bs.map V.ref))) (r : RowsV H H' bs (rowsV tb)) (h6 : tb.length ≤ 6) (w6 : wd ≤ 6) (row : ∀ r ∈ tb, r.length = wd ∧ ∀ n ∈ r, 0 ≤ n ∧ n ≤ 1000000000000) :
    ∃ d : PyData, Dp K H' (.ref p) d ∧ Nice d = true ∧ nodes d ≤ 100 ∧ PyData.depth d ≤ 2 := by
  rw [← some_ints] at r
  obtain ⟨ds, g1, g2, g3, g4⟩ := some_rows (K := K) r fun m hm => by
    obtain ⟨r, hr, rfl⟩ := List.mem_map.mp hm
    obtain ⟨a, b⟩ := row r hr
    refine ⟨by rw [List.length_map]; omega, fun c hc => ?_⟩
    obtain ⟨n, hn, rfl⟩ := List.mem_map.mp hc
    exact fun i hi => by obtain rfl := Option.some.inj hi; exact b n hn
  rw [List.length_map] at g3
  rcases hp with z | z
  · exact ⟨.list ds, .lst (SqL.of z) g1, g2, by show 1 + nodesL ds ≤ 100; omega, by show PyData.depthAll ds + 1 ≤ 2; omega⟩
  · exact ⟨.tuple ds, .tup (SqT.of z) g1, g2, by show 1 + nodesL ds ≤ 100; omega, by show PyData.depthAll ds + 1 ≤ 2; omega⟩
theorem show_of {d : PyData} (n : Nice d = true) (h : nodes d ≤ 1000) (hd : d.depth ≤ 60) : d.showable = true ∧ d.hasDict = false ∧ d.depth ≤ 60 ∧ d.shown.length ≤ sizeLine := by
  obtain ⟨h1, h2, h3⟩ := nice_show d n
  exact ⟨h1, h2, hd, by rw [sizeLine_eq]; omega⟩
/-- rows handed in, as data -/
theorem rp_handed {K : PySem.W.Frag} {H H' : Hp} : ∀ {bs : List Addr} {tb : List (List Int)}, RowsV H H' bs (rowsV tb) → ∃ l : List Dt, RpL K H' (bs.map V.ref) l ∧ l.map Dt.items = tb.map fun r => some (r.map Dt.int)
  | _, [], r => by cases r; exact ⟨[], .nil, rfl⟩
  | _, r :: tb, q => by
    cases q with
    | cons h1 h2 q =>
      obtain ⟨l, g1, g2⟩ := rp_handed (K := K) q
      rcases h2 with z | z
      · exact ⟨.lst (r.map Dt.int) :: l, .cons (.lst (SqL.of z) (rp_ints r)) g1, by rw [List.map_cons, List.map_cons, g2]; rfl⟩
      · exact ⟨.tup (r.map Dt.int) :: l, .cons (.tup (SqT.of z) (rp_ints r)) g1, by rw [List.map_cons, List.map_cons, g2]; rfl⟩
theorem rp_given {K : PySem.W.Frag} {H H' : Hp} {p : Addr} {bs : List Addr} {tb : List (List Int)} (hp : H' p = some (.lst (bs.map V.ref)) ∨ H' p = some (.tup (bs.map V.ref))) (r : RowsV H H' bs (rowsV tb)) : ∃ (d : Dt) (l : List Dt), Rp K H' (.ref p) d ∧ d.items = some l ∧ l.map Dt.items = tb.map fun r => some (r.map Dt.int) := by
  obtain ⟨l, g1, g2⟩ := rp_handed (K := K) r
  rcases hp with z | z
  · exact ⟨.lst l, l, .lst (SqL.of z) g1, rfl, g2⟩
  · exact ⟨.tup l, l, .tup (SqT.of z) g1, rfl, g2⟩
/-- rows told, as data -/
theorem RowsF.n {H H' : Hp} : ∀ {ks : List Addr} {tb : List (List Int)}, RowsF H H' ks (rowsV tb) → RowsN H' ks tb
  | _, [], r => by cases r; exact .nil
  | _, r :: tb, q => by
    cases q with
    | cons h1 h2 q => exact .cons h2 (RowsF.n q)
theorem rp_told {K : PySem.W.Frag} {H H' : Hp} {D : Addr} {ks : List Addr} {tb : List (List Int)} (hD : H' D = some (.lst (ks.map V.ref))) (r : RowsF H H' ks (rowsV tb)) : ∃ (d : Dt) (l : List Dt), Rp K H' (.ref D) d ∧ d.items = some l ∧ l.map Dt.items = tb.map fun r => some (r.map Dt.int) := rp_given (.inl hD) r.toV
def sp_lexch (K : PySem.W.Frag) (CF : Addr) : Sp := fun vs H Q _ => ∃ (t p fr pt : Addr) (ls : List Addr) (tb : List (List Int)) (wd : Nat) (rs cs : List Int) (ms : List (List (Option Int))), vs = [.ref t, .ref p, .ref fr, .ref pt] ∧ Tp H t ∧ TL t H p ls tb ∧ FrameAt K CF H fr rs cs ms ∧ Pts t H pt rs cs ms ∧ Case14 tb wd rs cs ms ∧
  ∀ H', Kp t H H' → Q (.bl true) H'
/-- the exchanged table is one of the exchanged frame -/
theorem case_exch {tb : List (List Int)} {wd : Nat} {rs cs : List Int} {ms : List (List (Option Int))} {ro co : List Nat} {d : Dt} {l : List Dt} (c : Case14 tb wd rs cs ms) (pr : ro.Perm (List.range tb.length)) (pc : co.Perm (List.range wd)) (e : d.items = some l) (h : l.map Dt.items = (exch 0 tb ro co).map fun r => some (r.map Dt.int)) :
    isTab d (ex1 rs ro) (ex1 cs co) (exch none ms ro co) = true := by
  have hr : ∀ i ∈ ro, i < tb.length := fun i hi => (perm_mem pr).mp hi
  have hc : ∀ i ∈ co, i < wd := fun i hi => (perm_mem pc).mp hi
  have hl : (exch 0 tb ro co).length = tb.length := by unfold exch; rw [List.length_map, perm_length pr]
  have c1 := c.h1
  have c6 := c.h6
  refine tab_yes e h (by omega) (by omega) c.w1 c.w6 (fun r hr' => ?_) ?_ ?_ ?_
  · obtain ⟨i, hi, rfl⟩ := List.mem_map.mp hr'
    refine ⟨by rw [List.length_map, perm_length pc], fun n hn => ?_⟩
    obtain ⟨j, hj, rfl⟩ := List.mem_map.mp hn
    have g := c.row _ (getD_in (z := []) (hr i hi))
    exact g.2 _ (getD_in (by rw [g.1]; exact hc j hj))
  · rw [exch_rows (fun r hr' => (c.row r hr').1) hr pc, c.er]
  · rw [exch_cols pr pc, c.ec]
  · exact exch_within c.wi (by rw [c.dr.ml, c.rl]) (fun r hr' => (c.row r hr').1) (fun m hm => by rw [(c.dr.mb m hm).1, c.cl]) hr hc
end Kp14
set_option Elab.async false
set_option linter.all false
set_option maxRecDepth 100000
set_option maxHeartbeats 4000000
namespace Kp14
open PySem PySem.Spec PyProof.Rows L2 Vf
section
variable {P : Program} {w : World} {K : PySem.W.Frag} {mg : Str → Option Value} {base : Heap} {C : Nat → Addr} {tG tL : Tok} {CF : Addr}
theorem sc_l_exchanged_well : FnScope ["_law_tape_here", "_law_table_here", "_law_frame", "_law_parts", "_law_order_here", "_law_other", "_law_due", "_law_rows_here", "_law_columns_here", "_law_caps_here", "_law_frame_due", "_law_i", "_law_j", "_law_handed", "_law_kept", "_law_turn", "_law_found", "_law_again"] ["_law_tape_here", "_law_table_here", "_law_frame", "_law_parts"] (defScope s_l_exchanged_well) :=
  ⟨rfl, rfl, rfl, by decide +kernel, rfl, by decide +kernel, by decide +kernel⟩
theorem ok_lexch {f : Addr} {fd : FuncData} (F : Fun K "_law_exchanged_well" "_law_exchanged_well" s_l_exchanged_well f fd) (T : Txt K mg C tG tL) (c_l_digit : Cal P w K mg base CX0 1 "_law_digit" ["_law_tape_here", "_law_size"] sp_digit) (c_l_order : Cal P w K mg base CX0 2 "_law_order" ["_law_tape_here", "_law_many"] sp_lorder) (c_l_back : Cal P w K mg base CX0 1 "_law_back" ["_law_order_here"] (sp_lback K))
    (c_l_put : Cal P w K mg base CX0 1 "_law_put" ["_law_grid", "_law_order_here", "_law_other"] (sp_exchanged_rows K)) (c_l_as : Cal P w K mg base CX0 2 "_law_as" ["_law_tape_here", "_law_rows_here"] (sp_as K)) (c_exchanged_frame : Cal P w K mg base (L2.CX P w) 8 "exchanged_frame" ["frame", "order", "other"] (sp_exchanged_frame K CF C)) (c_exchanged_table : Cal P w K mg base (L2.CX P w) 6 "exchanged_table" ["table", "order", "other"] (sp_exchanged_table K C))
    (c_is_table : Cal P w K mg base CX0 7 "is_table" ["frame", "thing"] (sp_is_table K CF)) (c_l_shown : CalG P w K mg base 2 "_law_shown" ["_law_frame"] (sp_lshown K CF)) (c_l_frame_told : CalG P w K mg base 3 "_law_frame_told" ["_law_told", "_law_due"] (sp_lframe K CF)) (c_l_grid_told : CalG P w K mg base 1 "_law_grid_told" ["_law_told", "_law_due"] (sp_lgrid K)) :
    FnG P w K mg base 9 f fd ["_law_tape_here", "_law_table_here", "_law_frame", "_law_parts"] (sp_lexch K CF) := by
  refine funOkG F sc_l_exchanged_well (fun vs H Q E ⟨t, p, fr, pt, ls, tb, wd, rs, cs, ms, e, _⟩ => by rw [e]; rfl) (fun cdv A outer s H vs Q E hr h => ?_)
  obtain ⟨t, p, fr, pt, ls, tb, wd, rs, cs, ms, rfl, tp, TB, FA, PT, CS, q⟩ := h
  have h1 := CS.h1
  have h6 := CS.h6
  have w6 := CS.w6
  have hrl := CS.rl
  have hcl := CS.cl
  have hlen := TB.rows.length
  have hl0 : 0 < ls.length := by omega
  refine ⟨_, (pss_cons (ps_set (i := 4) sc_l_exchanged_well.nd rfl (by first | exact Or.inl rfl | exact Or.inr rfl) (pe_cal c_l_order (hr.r.mono (by decide)) (by rfl) pass0 (pa_cons (pv 0) (pa_cons (pe_callB (len_ofK (K := K) rfl) (by rfl) T.n_len (by decide +kernel) (pa_cons (pv 1) pa_nil)) pa_nil))))
  (pss_cons (ps_set (i := 5) sc_l_exchanged_well.nd rfl (by first | exact Or.inl rfl | exact Or.inr rfl) (pe_cal c_l_order (hr.r.mono (by decide)) (by rfl) pass0 (pa_cons (pv 0) (pa_cons (pe_callB (len_ofK (K := K) rfl) (by rfl) T.n_len (by decide +kernel) (pa_cons (pe_ix (ix_listK (K := K) rfl) (pv 1) pe_int (fun _ _ => rfl)) pa_nil)) pa_nil))))
  (pss_cons (ps_set (i := 6) sc_l_exchanged_well.nd rfl (by first | exact Or.inl rfl | exact Or.inr rfl) (pe_cal c_l_put (hr.r.mono (by decide)) (by rfl) pass0 (pa_cons (pv 1) (pa_cons (pv 4) (pa_cons (pv 5) pa_nil)))))
  (pss_cons (ps_asg (pv 3) (pg_tup rfl (pgs_cons (pg_name (i := 7) sc_l_exchanged_well.nd rfl (by first | exact Or.inl rfl | exact Or.inr rfl)) (pgs_cons (pg_name (i := 8) sc_l_exchanged_well.nd rfl (by first | exact Or.inl rfl | exact Or.inr rfl)) (pgs_cons (pg_name (i := 9) sc_l_exchanged_well.nd rfl (by first | exact Or.inl rfl | exact Or.inr rfl)) pgs_nil)))))
  (pss_cons (ps_set (i := 10) sc_l_exchanged_well.nd rfl (by first | exact Or.inl rfl | exact Or.inr rfl) (pe_lst (pa_cons (pe_lc (own := [("_law_i", 11)]) (by rfl) sc_l_exchanged_well.nd (pi_list (pv 4)) (blkOk_by (own := [("_law_i", 11)]) (N := ["_law_tape_here", "_law_table_here", "_law_frame", "_law_parts", "_law_order_here", "_law_other", "_law_due", "_law_rows_here", "_law_columns_here", "_law_caps_here", "_law_frame_due", "_law_i", "_law_j", "_law_handed", "_law_kept", "_law_turn", "_law_found", "_law_again"]) (sc := defScope s_l_exchanged_well) (by decide +kernel)) (fun _ _ _ _ _ => (pg_name (i := 11) sc_l_exchanged_well.nd rfl (by first | exact Or.inl rfl | exact Or.inr rfl))) (fun _ _ _ _ _ => pts_nil) (fun _ _ _ _ _ => (pe_ix (ix_listK (K := K) rfl) (pv 7) (pv 11) (fun _ _ => rfl)))) (pa_cons (pe_lc (own := [("_law_j", 12)]) (by rfl) sc_l_exchanged_well.nd (pi_list (pv 5)) (blkOk_by (own := [("_law_j", 12)]) (N := ["_law_tape_here", "_law_table_here", "_law_frame", "_law_parts", "_law_order_here", "_law_other", "_law_due", "_law_rows_here", "_law_columns_here", "_law_caps_here", "_law_frame_due", "_law_i", "_law_j", "_law_handed", "_law_kept", "_law_turn", "_law_found", "_law_again"]) (sc := defScope s_l_exchanged_well) (by decide +kernel)) (fun _ _ _ _ _ => (pg_name (i := 12) sc_l_exchanged_well.nd rfl (by first | exact Or.inl rfl | exact Or.inr rfl))) (fun _ _ _ _ _ => pts_nil) (fun _ _ _ _ _ => (pe_ix (ix_listK (K := K) rfl) (pv 8) (pv 12) (fun _ _ => rfl)))) (pa_cons (pe_cal c_l_put (hr.r.mono (by decide)) (by rfl) pass0 (pa_cons (pv 9) (pa_cons (pv 4) (pa_cons (pv 5) pa_nil)))) pa_nil)))))
  (pss_cons (ps_set (i := 13) sc_l_exchanged_well.nd rfl (by first | exact Or.inl rfl | exact Or.inr rfl) (pe_lst (pa_cons (pe_cal c_l_as (hr.r.mono (by decide)) (by rfl) pass0 (pa_cons (pv 0) (pa_cons (pv 1) pa_nil))) (pa_cons (pe_ix (ix_listK (K := K) rfl) (pe_lst (pa_cons (pv 4) (pa_cons (pe_callTy (tuple_ofK (K := K) rfl) (by rfl) T.n_tuple (by decide +kernel) (pa_cons (pv 4) pa_nil)) pa_nil))) (pe_cal c_l_digit (hr.r.mono (by decide)) (by rfl) pass0 (pa_cons (pv 0) (pa_cons pe_int pa_nil))) (fun _ _ => rfl)) pa_nil))))
  (pss_cons (ps_expr (pe_bm PySem.F.plainAttrs_list PySem.F.slot_list_append PySem.F.type_list_append mt_append (pv 13) (pa_cons (pe_ix (ix_listK (K := K) rfl) (pe_lst (pa_cons (pv 5) (pa_cons (pe_callTy (tuple_ofK (K := K) rfl) (by rfl) T.n_tuple (by decide +kernel) (pa_cons (pv 5) pa_nil)) pa_nil))) (pe_cal c_l_digit (hr.r.mono (by decide)) (by rfl) pass0 (pa_cons (pv 0) (pa_cons pe_int pa_nil))) (fun _ _ => rfl)) pa_nil)))
  (pss_cons (ps_set (i := 14) sc_l_exchanged_well.nd rfl (by first | exact Or.inl rfl | exact Or.inr rfl) (pe_callB (reprK (K := K) rfl hr.g hr.r.units) (by rfl) T.n_repr (by decide +kernel) (pa_cons (pv 13) pa_nil)))
  (pss_cons (ps_for PassesOwn.never rfl (pi_range1 (by rfl) T.n_range (pa_cons pe_int pa_nil))
  (pg_name (i := 15) sc_l_exchanged_well.nd rfl (by first | exact Or.inl rfl | exact Or.inr rfl))
  (pss_cons (ps_set (i := 16) sc_l_exchanged_well.nd rfl (by first | exact Or.inl rfl | exact Or.inr rfl) (pe_cal c_exchanged_frame (hr.r.mono (by decide)) (by rfl) passL (pa_cons (pv 2) (pa_cons (pe_ix (ix_listK (K := K) rfl) (pv 13) pe_int (fun _ _ => rfl)) (pa_cons (pe_ix (ix_listK (K := K) rfl) (pv 13) pe_int (fun _ _ => rfl)) pa_nil)))))
  (pss_cons (ps_if (pt_not (pt_val (pe_cal c_is_table (hr.r.mono (by decide)) (by rfl) pass0 (pa_cons (pv 16) (pa_cons (pe_cal c_exchanged_table (hr.r.mono (by decide)) (by rfl) passL (pa_cons (pe_ix (ix_listK (K := K) rfl) (pv 13) pe_int (fun _ _ => rfl)) (pa_cons (pe_ix (ix_listK (K := K) rfl) (pv 13) pe_int (fun _ _ => rfl)) (pa_cons (pe_ix (ix_listK (K := K) rfl) (pv 13) pe_int (fun _ _ => rfl)) pa_nil)))) pa_nil)))))
  (pss_one (ps_ret pe_bl))
  pss_nil)
  (pss_cons (ps_set (i := 17) sc_l_exchanged_well.nd rfl (by first | exact Or.inl rfl | exact Or.inr rfl) (pe_cal c_exchanged_frame (hr.r.mono (by decide)) (by rfl) passL (pa_cons (pv 16) (pa_cons (pe_cal c_l_back (hr.r.mono (by decide)) (by rfl) pass0 (pa_cons (pv 4) pa_nil)) (pa_cons (pe_cal c_l_back (hr.r.mono (by decide)) (by rfl) pass0 (pa_cons (pv 5) pa_nil)) pa_nil)))))
  (pss_cons (ps_if (PW.pt (pw_or (pt_cmpR op_ne (pe_calG c_l_shown (hr.mono (by decide)) (by rfl) (pa_cons (pv 17) pa_nil)) (pe_callB (reprK (K := K) rfl hr.g hr.r.units) (by rfl) T.n_repr (by decide +kernel) (pa_cons (pe_callTy (list_ofK (K := K) rfl) (by rfl) T.n_list (by decide +kernel) (pa_cons (pv 3) pa_nil)) pa_nil)) (nomark _)) (pw_or1 (pt_not (pt_val (pe_calG c_l_frame_told (hr.mono (by decide)) (by rfl) (pa_cons (pv 16) (pa_cons (pv 10) pa_nil))))))))
  (pss_one (ps_ret pe_bl))
  pss_nil)
  (pss_one (ps_if (pt_not (pt_val (pe_calG c_l_grid_told (hr.mono (by decide)) (by rfl) (pa_cons (pe_cal c_exchanged_table (hr.r.mono (by decide)) (by rfl) passL (pa_cons (pe_ix (ix_listK (K := K) rfl) (pv 13) pe_int (fun _ _ => rfl)) (pa_cons (pe_ix (ix_listK (K := K) rfl) (pv 13) pe_int (fun _ _ => rfl)) (pa_cons (pe_ix (ix_listK (K := K) rfl) (pv 13) pe_int (fun _ _ => rfl)) pa_nil)))) (pa_cons (pv 6) pa_nil)))))
  (pss_one (ps_ret pe_bl))
  pss_nil)))))))
  (pss_one (ps_ret (pe_cmpR op_eq (pe_callB (reprK (K := K) rfl hr.g hr.r.units) (by rfl) T.n_repr (by decide +kernel) (pa_cons (pv 13) pa_nil)) (pv 14) (nomark _))))))))))))), ?_⟩
  -- the orders
  refine ⟨.ref t, rfl, .ref p, rfl, p, _, rfl, .inl (SqL.of TB.at_), t, tb.length, by rw [List.length_map, hlen], tp, h6, fun H1 a ro k1 na0 hat ha pr => ?_⟩
  have TB1 := TB.kp k1
  obtain ⟨r0, hr0, hk0⟩ := TB1.rows.get (List.getElem?_eq_getElem hl0)
  have r0l := (CS.row r0 (List.mem_of_getElem? hr0)).1
  refine ⟨.ref t, rfl, .ref p, rfl, p, _, 0, .ref ls[0], rfl, rfl, SqL.of TB1.at_, atI_nat (j := 0) (by rw [List.getElem?_map, List.getElem?_eq_getElem hl0]; rfl), ls[0], _, rfl, .inl (SqL.of hk0), t, wd, by rw [List.length_map, r0l], k1.2, w6, fun H2 b co k2 nb0 hbt hb pc => ?_⟩
  have k12 := k1.trans k2
  have TB2 := TB1.kp k2
  have ha2 := k2.1 _ _ ha hat
  have hro : ∀ i ∈ ro, i < tb.length := fun i hi => (perm_mem pr).mp hi
  have hco : ∀ i ∈ co, i < wd := fun i hi => (perm_mem pc).mp hi
  have rol := perm_length pr
  have col := perm_length pc
  have hwt : ∀ m ∈ rowsV tb, m.length = wd := fun m hm => by
    unfold rowsV at hm
    obtain ⟨r, hr', rfl⟩ := List.mem_map.mp hm
    rw [List.length_map]; exact (CS.row r hr').1
  have hlt : (rowsV tb).length = tb.length := by unfold rowsV; rw [List.length_map]
  -- the table that is due
  refine ⟨.ref p, rfl, .ref a, rfl, .ref b, rfl, p, a, b, ls, rowsV tb, ro, co, tb.length, wd, rfl, SqL.of TB2.at_, TB2.rows.q, SqL.of ha2, SqL.of hb, hlt, hwt, by omega, by omega, hro, hco, fun H3 G gs s3 nG hG rowsG hneG => ?_⟩
  have eex : exch V.non (rowsV tb) ro co = rowsV (exch 0 tb ro co) := (exch_in (z' := V.int 0) hlt hwt hro hco).trans (exch_map V.int 0 tb ro co)
  rw [eex] at rowsG
  have k13 := k12.same s3
  have PT3 := PT.kp k13
  obtain ⟨ra, ca, D, ks, p1, p2, p3, p4, p5, p6⟩ := PT3.ex
  refine ⟨.ref pt, rfl, pt, _, rfl, SqT.of p1, rfl, .ref ra, [.ref ca, .ref D], rfl, .ref ca, [.ref D], rfl, .ref D, [], rfl, rfl, ?_⟩
  have ha3 := s3 _ _ ha2
  have hb3 := s3 _ _ hb
  -- the frame that is due
  refine ⟨.ref a, rfl, a, rfl, ⟨_, SqL.of ha3⟩, fun X1 nX1 => ?_⟩
  refine lc_list (K := K) (xs := ixV ro) (fun i H' => Same H3 H' ∧ H' X1 = some (.lst (((ex1 rs ro).take i).map V.int))) ⟨same_upd nX1, upd_same⟩ (fun i H' _ pv => pv.1.seq (SqL.of ha3)) (fun i x H' hx pv => ?_) (fun H4 pv => ?_)
  · obtain ⟨n, hn, rfl⟩ := ixV_get hx
    have hnr : n < rs.length := by rw [hrl]; exact hro n (List.mem_of_getElem? hn)
    refine ⟨rfl, .ref ra, rfl, .int n, rfl, ra, _, n, .int rs[n], rfl, rfl, SqL.of (pv.1 _ _ p2), atI_nat (by rw [List.getElem?_map, List.getElem?_eq_getElem hnr]; rfl), _, pv.2, ?_, fun b' o e => ?_, ?_⟩
    · rw [List.length_map, List.length_take, ex1_length, rol]
      exact Nat.lt_of_le_of_lt (Nat.le_trans (Nat.min_le_right _ _) h6) (by decide)
    · rw [upd_ne (ne_of_none e nX1)]; exact pv.1 _ _ e
    · have e : (ex1 rs ro)[i]? = some rs[n] := by
        unfold ex1
        rw [List.getElem?_map, hn]
        exact congrArg some (getD_at (List.getElem?_eq_getElem hnr))
      rw [upd_same, List.take_add_one, e, List.map_append]; rfl
  obtain ⟨s4, hX1⟩ := pv
  rw [ixV_len, List.take_of_length_le (by rw [ex1_length]; exact Nat.le_refl _)] at hX1
  refine ⟨.ref b, rfl, b, rfl, ⟨_, SqL.of (s4 _ _ hb3)⟩, fun X2 nX2 => ?_⟩
  refine lc_list (K := K) (xs := ixV co) (fun i H' => Same H4 H' ∧ H' X2 = some (.lst (((ex1 cs co).take i).map V.int))) ⟨same_upd nX2, upd_same⟩ (fun i H' _ pv => pv.1.seq (SqL.of (s4 _ _ hb3))) (fun i x H' hx pv => ?_) (fun H5 pv => ?_)
  · obtain ⟨n, hn, rfl⟩ := ixV_get hx
    have hnr : n < cs.length := by rw [hcl]; exact hco n (List.mem_of_getElem? hn)
    refine ⟨rfl, .ref ca, rfl, .int n, rfl, ca, _, n, .int cs[n], rfl, rfl, SqL.of (pv.1 _ _ (s4 _ _ p3)), atI_nat (by rw [List.getElem?_map, List.getElem?_eq_getElem hnr]; rfl), _, pv.2, ?_, fun b' o e => ?_, ?_⟩
    · rw [List.length_map, List.length_take, ex1_length, col]
      exact Nat.lt_of_le_of_lt (Nat.le_trans (Nat.min_le_right _ _) w6) (by decide)
    · rw [upd_ne (ne_of_none e nX2)]; exact pv.1 _ _ e
    · have e : (ex1 cs co)[i]? = some cs[n] := by
        unfold ex1
        rw [List.getElem?_map, hn]
        exact congrArg some (getD_at (List.getElem?_eq_getElem hnr))
      rw [upd_same, List.take_add_one, e, List.map_append]; rfl
  obtain ⟨s5, hX2⟩ := pv
  rw [ixV_len, List.take_of_length_le (by rw [ex1_length]; exact Nat.le_refl _)] at hX2
  have s35 := s4.trans s5
  have rowsD : RowsQ K H5 ks (ms.map (·.map capV)) := (p5.keep fun x _ o e => s35 _ _ e).q
  refine ⟨.ref D, rfl, .ref a, rfl, .ref b, rfl, D, a, b, ks, ms.map (·.map capV), ro, co, tb.length, wd, rfl, SqL.of (s35 _ _ p4), rowsD, SqL.of (s35 _ _ ha3), SqL.of (s35 _ _ hb3), by rw [List.length_map, CS.dr.ml, hrl], fun m hm => ?_, by omega, by omega, hro, hco, fun H6 Z zs s6 nZ hZ rowsZ hneZ => ⟨(by show 3 ≤ sizeLine; decide), fun fdu nfdu => ?_⟩⟩
  · obtain ⟨m', hm', rfl⟩ := List.mem_map.mp hm
    rw [List.length_map, (CS.dr.mb m' hm').1, hcl]
  have ecx : exch V.non (ms.map (·.map capV)) ro co = (exch none ms ro co).map (·.map capV) := exch_map capV none ms ro co
  rw [ecx] at rowsZ
  have k6 := same_upd (o := .lst [V.ref X1, .ref X2, .ref Z]) nfdu
  have hfdu : upd H6 fdu (.lst [V.ref X1, .ref X2, .ref Z]) fdu = some (.lst [V.ref X1, .ref X2, .ref Z]) := upd_same
  generalize upd H6 fdu (.lst [V.ref X1, .ref X2, .ref Z]) = H7 at k6 hfdu ⊢
  have s37 := (s35.trans s6).trans k6
  have k17 := k13.same s37
  have tp7 := k17.2
  have tp3 := k13.2
  have nt : ∀ x (Hx : Hp), Tp Hx t → Hx x = none → x ≠ t := fun x Hx tpx nx z => by obtain ⟨m, e⟩ := tpx; rw [z, e] at nx; cases nx
  have rowsZC : RowsC H7 zs (exch none ms ro co) := by
    have up : ∀ {ks : List Addr} {ms : List (List (Option Int))}, RowsF H5 H6 ks (ms.map (·.map capV)) → RowsC H7 ks ms := fun {ks ms} r => by
      induction ms generalizing ks with
      | nil => cases r; exact .nil
      | cons m ms ih =>
        cases r with
        | cons g1 g2 r => exact .cons (k6 _ _ g2) (ih r)
    exact up rowsZ
  have due7 : DueAt H7 fdu (ex1 rs ro) (ex1 cs co) (exch none ms ro co) [t] := by
    refine ⟨X1, X2, Z, zs, hfdu, k6 _ _ (s6 _ _ (s5 _ _ hX1)), k6 _ _ (s6 _ _ hX2), k6 _ _ hZ, rowsZC, fun x hx => ?_⟩
    have tp4 : Tp H4 t := tp_same tp3 s4
    have tp5 : Tp H5 t := tp_same tp4 s5
    have tp6 : Tp H6 t := tp_same tp5 s6
    have : x ≠ t := by
      rcases List.mem_cons.mp hx with rfl | hx
      · exact nt _ H6 tp6 nfdu
      · rcases List.mem_cons.mp hx with rfl | hx
        · exact nt _ H3 tp3 nX1
        · rcases List.mem_cons.mp hx with rfl | hx
          · exact nt _ H4 tp4 nX2
          · rcases List.mem_cons.mp hx with rfl | hx
            · exact nt _ H5 tp5 nZ
            · exact nt _ H5 tp5 (rowsZ.fresh x hx).1
    simpa using this
  have TB7 := (TB2.same s3).same s37
  have ha7 := s37 _ _ ha3
  have hb7 := s37 _ _ hb3
  have tp2 := k12.2
  have hGt : G ≠ t := nt _ H2 tp2 nG
  have hgst : ∀ x ∈ gs, x ≠ t := fun x hx => nt _ H2 tp2 (rowsG.fresh x hx).1
  have hG7 := s37 _ _ hG
  have rowsG7 : RowsN H7 gs (exch 0 tb ro co) := rowsG.n.same s37
  -- what is handed in
  refine ⟨.ref t, rfl, .ref p, rfl, t, p, ls, rowsV tb, rfl, tp7, SqL.of TB7.at_, TB7.rows.q, by omega, TB7.np, TB7.nl, fun H8 h0 bs k8 nh0 hh0 rV8 hneb => ?_⟩
  have ha8 := k8.1 _ _ ha7 hat
  have hb8 := k8.1 _ _ hb7 hbt
  have hh0t : h0 ≠ t := nt _ H7 tp7 nh0
  have hbst : ∀ x ∈ bs, x ≠ t := fun x hx => by
    obtain ⟨i, hi⟩ := List.mem_iff_getElem?.mp hx
    obtain ⟨m, _, nx, _⟩ := rV8.get hi
    exact nt _ H7 tp7 nx
  refine ⟨.ref a, rfl, .ref a, rfl, a, _, rfl, .inl ⟨SqL.of ha8, fun u1 nu1 => ⟨(by show 2 ≤ sizeLine; decide), fun L1 nL1 => ?_⟩⟩⟩
  have e1 := same_upd (o := .tup (ixV ro)) nu1
  have hu1 : upd H8 u1 (.tup (ixV ro)) u1 = some (.tup (ixV ro)) := upd_same
  have hu1t : u1 ≠ t := nt _ H8 k8.2 nu1
  have hL1t : L1 ≠ t := nt _ _ (tp_same k8.2 e1) nL1
  have e2 := same_upd (o := .lst [V.ref a, .ref u1]) nL1
  have k9 := (k8.same e1).same e2
  have hL1 : upd (upd H8 u1 (.tup (ixV ro))) L1 (.lst [V.ref a, .ref u1]) L1 = some (.lst [V.ref a, .ref u1]) := upd_same
  have e12 := e1.trans e2
  have hu1' := e2 _ _ hu1
  generalize upd (upd H8 u1 (.tup (ixV ro))) L1 (.lst [V.ref a, .ref u1]) = H9 at k9 hL1 e12 hu1' ⊢
  obtain ⟨m9, ht9⟩ := k9.2
  refine ⟨.ref t, rfl, t, m9, 2, rfl, ht9, by decide, by decide, fun g1 n1 g10 g11 => ?_⟩
  obtain ⟨x1, hx1, ox1⟩ : ∃ x1, ([V.ref a, .ref u1] : List V)[g1.toNat]? = some (.ref x1) ∧ (x1 = a ∨ x1 = u1) := by
    have : g1.toNat = 0 ∨ g1.toNat = 1 := by omega
    rcases this with z | z
    · rw [z]; exact ⟨a, rfl, .inl rfl⟩
    · rw [z]; exact ⟨u1, rfl, .inr rfl⟩
  have k10 := k9.tape (n := n1)
  have hL1' : upd H9 t (.lst [V.int n1]) L1 = some (.lst [V.ref a, .ref u1]) := (upd_ne hL1t).trans hL1
  refine ⟨L1, _, g1, .ref x1, rfl, rfl, SqL.of hL1', at_of (j := g1.toNat) (by omega) hx1, (by show 2 ≤ sizeLine; decide), fun hd nhd => ?_⟩
  have hx1t : x1 ≠ t := by rcases ox1 with rfl | rfl <;> assumption
  have O1 : Ords (upd H9 t (.lst [V.int n1])) x1 ro := by
    rcases ox1 with rfl | rfl
    · exact .inl ((upd_ne hat).trans (e12 _ _ ha8))
    · exact .inr ((upd_ne hu1t).trans hu1')
  have hb10 : upd H9 t (.lst [V.int n1]) b = some (.lst (ixV co)) := (upd_ne hbt).trans (e12 _ _ hb8)
  have hhdt : hd ≠ t := nt _ _ k10.2 nhd
  have e3 := same_upd (o := .lst [V.ref h0, .ref x1]) nhd
  have k11 := k10.same e3
  have hhd : upd (upd H9 t (.lst [V.int n1])) hd (.lst [V.ref h0, .ref x1]) hd = some (.lst [V.ref h0, .ref x1]) := upd_same
  have O1' := O1.same e3
  have hb11 := e3 _ _ hb10
  generalize upd (upd H9 t (.lst [V.int n1])) hd (.lst [V.ref h0, .ref x1]) = H11 at k11 hhd O1' hb11 e3 ⊢
  -- the other order
  refine ⟨.ref hd, rfl, .inl ⟨rfl, _, SqL.of hhd⟩, .ref b, rfl, .ref b, rfl, b, _, rfl, .inl ⟨SqL.of hb11, fun u2 nu2 => ⟨(by show 2 ≤ sizeLine; decide), fun L2 nL2 => ?_⟩⟩⟩
  have e4 := same_upd (o := .tup (ixV co)) nu2
  have hu2 : upd H11 u2 (.tup (ixV co)) u2 = some (.tup (ixV co)) := upd_same
  have hu2t : u2 ≠ t := nt _ H11 k11.2 nu2
  have hL2t : L2 ≠ t := nt _ _ (tp_same k11.2 e4) nL2
  have e5 := same_upd (o := .lst [V.ref b, .ref u2]) nL2
  have k12' := (k11.same e4).same e5
  have hL2 : upd (upd H11 u2 (.tup (ixV co))) L2 (.lst [V.ref b, .ref u2]) L2 = some (.lst [V.ref b, .ref u2]) := upd_same
  have e45 := e4.trans e5
  have hu2' := e5 _ _ hu2
  generalize upd (upd H11 u2 (.tup (ixV co))) L2 (.lst [V.ref b, .ref u2]) = H12 at k12' hL2 e45 hu2' ⊢
  obtain ⟨m12, ht12⟩ := k12'.2
  refine ⟨.ref t, rfl, t, m12, 2, rfl, ht12, by decide, by decide, fun g2 n2 g20 g21 => ?_⟩
  obtain ⟨x2, hx2, ox2⟩ : ∃ x2, ([V.ref b, .ref u2] : List V)[g2.toNat]? = some (.ref x2) ∧ (x2 = b ∨ x2 = u2) := by
    have : g2.toNat = 0 ∨ g2.toNat = 1 := by omega
    rcases this with z | z
    · rw [z]; exact ⟨b, rfl, .inl rfl⟩
    · rw [z]; exact ⟨u2, rfl, .inr rfl⟩
  have k14 := k12'.tape (n := n2)
  have hL2' : upd H12 t (.lst [V.int n2]) L2 = some (.lst [V.ref b, .ref u2]) := (upd_ne hL2t).trans hL2
  have hhd14 : upd H12 t (.lst [V.int n2]) hd = some (.lst [V.ref h0, .ref x1]) := (upd_ne hhdt).trans (e45 _ _ hhd)
  refine ⟨L2, _, g2, .ref x2, rfl, rfl, SqL.of hL2', at_of (j := g2.toNat) (by omega) hx2, hd, _, _, rfl, rfl, hhd14, (by show 2 < sizeLine; decide), ?_⟩
  have hx2t : x2 ≠ t := by rcases ox2 with rfl | rfl <;> assumption
  have O2 : Ords (upd H12 t (.lst [V.int n2])) x2 co := by
    rcases ox2 with rfl | rfl
    · exact .inl ((upd_ne hbt).trans (e45 _ _ hb11))
    · exact .inr ((upd_ne hu2t).trans hu2')
  have O1'' : Ords (upd H12 t (.lst [V.int n2])) x1 ro := O1'.imp (fun z => (upd_ne hx1t).trans (e45 _ _ z)) fun z => (upd_ne hx1t).trans (e45 _ _ z)
  -- all drawn: the heap from here on is only added to
  have nhd7 : H7 hd = none := k10.free tp7 nhd
  have ne8 : ∀ x o, H8 x = some o → x ≠ t → x ≠ hd := fun x o e n z => by
    have y : upd H9 t (.lst [V.int n1]) x = some o := (upd_ne n).trans (e12 _ _ e)
    rw [z, nhd] at y; cases y
  have kB : Kp t H7 (upd (upd H12 t (.lst [V.int n2])) hd (.lst ([V.ref h0, .ref x1] ++ [.ref x2]))) := k14.put nhd7 hhdt
  have hhdB : upd (upd H12 t (.lst [V.int n2])) hd (.lst ([V.ref h0, .ref x1] ++ [.ref x2])) hd = some (.lst [V.ref h0, .ref x1, .ref x2]) := upd_same
  have x1hd : x1 ≠ hd := fun z => by
    rcases O1 with y | y
    · rw [z, nhd] at y; cases y
    · rw [z, nhd] at y; cases y
  have x2hd : x2 ≠ hd := fun z => by
    rcases ox2 with y | y
    · exact ne_of_none hb7 nhd7 (y ▸ z)
    · have : H11 hd = none := by rw [← z, y]; exact nu2
      rw [hhd] at this; cases this
  have O1B : Ords (upd (upd H12 t (.lst [V.int n2])) hd (.lst ([V.ref h0, .ref x1] ++ [.ref x2]))) x1 ro := O1''.imp (fun z => (upd_ne x1hd).trans z) fun z => (upd_ne x1hd).trans z
  have O2B : Ords (upd (upd H12 t (.lst [V.int n2])) hd (.lst ([V.ref h0, .ref x1] ++ [.ref x2]))) x2 co := O2.imp (fun z => (upd_ne x2hd).trans z) fun z => (upd_ne x2hd).trans z
  have stay8 : ∀ x o, H8 x = some o → x ≠ t → upd (upd H12 t (.lst [V.int n2])) hd (.lst ([V.ref h0, .ref x1] ++ [.ref x2])) x = some o := fun x o e n => by
    rw [upd_ne (ne8 x o e n), upd_ne n]
    exact e45 _ _ (e3 _ _ ((upd_ne n).trans (e12 _ _ e)))
  generalize upd (upd H12 t (.lst [V.int n2])) hd (.lst ([V.ref h0, .ref x1] ++ [.ref x2])) = HB at kB hhdB O1B O2B stay8 ⊢
  have kHB : Kp t H HB := k17.trans kB
  have FAB := FA.kp tp kHB
  have PTB := PT.kp kHB
  have aB := kB.1 _ _ ha7 hat
  have bB := kB.1 _ _ hb7 hbt
  have GB := kB.1 _ _ hG7 hGt
  have rowsGB : RowsN HB gs (exch 0 tb ro co) := rowsG7.keep fun l hl o e => kB.1 _ _ e (hgst l hl)
  have dueB : DueAt HB fdu (ex1 rs ro) (ex1 cs co) (exch none ms ro co) [] := (due7.keep fun x o hx e => kB.1 x o e (by simpa using hx)).less fun _ z => nomatch z
  have hhB : HB h0 = some (.lst (bs.map V.ref)) ∨ HB h0 = some (.tup (bs.map V.ref)) := hh0.imp (fun z => stay8 _ _ z hh0t) fun z => stay8 _ _ z hh0t
  have rVB : RowsV H7 HB bs (rowsV tb) := rV8.keep fun x o _ e hx => stay8 x o e (hbst x hx)
  obtain ⟨d0, D0, N0, M0, Y0⟩ := tab_data (K := K) hhB rVB h6 w6 CS.row
  obtain ⟨d1, D1, N1, M1, Y1⟩ := ord_data (K := K) O1B pr h6
  obtain ⟨d2, D2, N2, M2, Y2⟩ := ord_data (K := K) O2B pc w6
  have DD : Dp K HB (.ref hd) (.list [d0, d1, d2]) := .lst (SqL.of hhdB) (.cons D0 (.cons D1 (.cons D2 .nil)))
  obtain ⟨b1, b2, b3, b4⟩ := show_of (d := .list [d0, d1, d2]) (by show (Nice d0 && (Nice d1 && (Nice d2 && true))) = true; rw [N0, N1, N2]; rfl) (by show 1 + (nodes d0 + (nodes d1 + (nodes d2 + 0))) ≤ 1000; omega) (by show max (PyData.depth d0) (max (PyData.depth d1) (max (PyData.depth d2) 0)) + 1 ≤ 60; omega)
  obtain ⟨td, tl, Rt, et, mt⟩ := rp_given (K := K) hhB rVB
  have ft : isForm td = true := form_ok et mt h1 h6 CS.w1 w6 CS.row
  have eft : formOf td = tb := formOf_items et mt
  obtain ⟨od, Ro, eo, lo, iso⟩ := ord_rp (K := K) O1B pr h6
  obtain ⟨pd, Rp', ep, lp, isp⟩ := ord_rp (K := K) O2B pc w6
  have ewt : widthOf tb = wd := by
    unfold widthOf
    cases tb with
    | nil => exact absurd h1 (by decide)
    | cons r tb => exact (CS.row r List.mem_cons_self).1
  have isF : (isOrder rs.length od && isOrder cs.length pd) = true := by rw [hrl, hcl, iso, isp]; rfl
  have isT : (isOrder (formOf td).length od && isOrder (widthOf (formOf td)) pd) = true := by rw [eft, ewt, iso, isp]; rfl
  have DR2 : Drawn (ex1 rs ro) (ex1 cs co) (exch none ms ro co) := exch_drawn CS.dr (by omega) (by omega) (fun i hi => by rw [hrl]; exact hro i hi) fun i hi => by rw [hcl]; exact hco i hi
  have S6 : Sm6 (exch 0 tb ro co) := by
    refine ⟨by unfold exch; rw [List.length_map]; omega, fun r hr' => ?_⟩
    obtain ⟨i, hi, rfl⟩ := List.mem_map.mp hr'
    refine ⟨by rw [List.length_map]; omega, fun n hn => ?_⟩
    obtain ⟨j, hj, rfl⟩ := List.mem_map.mp hn
    have g := CS.row _ (getD_in (z := []) (hro i hi))
    exact g.2 _ (getD_in (by rw [g.1]; exact hco j hj))
  obtain ⟨z1, z2, z3, z4⟩ := due_show CS.dr
  refine ⟨.ref hd, rfl, .ref hd, _, rfl, DD, b1, b2, b3, b4, ?_⟩
  refine ⟨2, rfl, by decide, by decide, for_range (n := 2) (fun i σ H' => Same HB H' ∧ ∃ v11 v12 v15 v16 v17, σ = [some (.ref t), some (.ref p), some (.ref fr), some (.ref pt), some (.ref a), some (.ref b), some (.ref G), some (.ref ra), some (.ref ca), some (.ref D), some (.ref fdu), v11, v12, some (.ref hd), some (.str (PyData.list [d0, d1, d2]).shown), v15, v16, v17]) ⟨Same.refl _, _, _, _, _, _, rfl⟩ (fun i σ H' hi pv => ?_) (fun σ H' pv => ?_)⟩
  rotate_left
  · obtain ⟨sE, v11, v12, v15, v16, v17, rfl⟩ := pv
    refine ⟨.ref hd, rfl, .ref hd, _, rfl, dp_same sE DD, b1, b2, b3, b4, .str _, rfl, rfl, ?_⟩
    rw [decide_eq_true rfl]
    exact q H' (kHB.same sE)
  obtain ⟨sA, v11, v12, v15, v16, v17, rfl⟩ := pv
  have hdA := sA _ _ hhdB
  refine ⟨.ref fr, rfl, .ref hd, rfl, hd, _, 1, .ref x1, rfl, rfl, SqL.of hdA, atI_nat (j := 1) rfl, .ref hd, rfl, hd, _, 2, .ref x2, rfl, rfl, SqL.of hdA, atI_nat (j := 2) rfl, fr, rs, cs, ms, .ref x1, .ref x2, od, pd, rfl, FAB.same sA, CS.dr, Ro.same sA, Rp'.same sA, lo, lp, (fun z => by rw [isF] at z; cases z), fun _ H20 fo s20 nfo FO => ?_⟩
  rw [eo, ep] at FO
  have sB := sA.trans s20
  have hdB := sB _ _ hhdB
  refine ⟨.ref fo, rfl, .ref hd, rfl, hd, _, 0, .ref h0, rfl, rfl, SqL.of hdB, atI_nat (j := 0) rfl, .ref hd, rfl, hd, _, 1, .ref x1, rfl, rfl, SqL.of hdB, atI_nat (j := 1) rfl, .ref hd, rfl, hd, _, 2, .ref x2, rfl, rfl, SqL.of hdB, atI_nat (j := 2) rfl, .ref h0, .ref x1, .ref x2, td, od, pd, rfl, Rt.same sB, Ro.same sB, Rp'.same sB, lo, lp, (fun z => by rw [ft] at z; cases z), (fun _ z => by rw [isT] at z; cases z), fun _ _ H21 E1 es s21 nE1 hE1 rowsE hneE => ?_⟩
  rw [eft, eo, ep] at rowsE
  obtain ⟨dE, lE, RE, eE, mE⟩ := rp_told (K := K) hE1 rowsE
  refine ⟨fo, _, _, _, .ref E1, dE, rfl, FO.same s21, by rw [ex1_length]; omega, by rw [ex1_length]; omega, RE, fun H22 s22 => ?_⟩
  rw [case_exch CS pr pc eE mE]
  refine ⟨true, rfl, ?_⟩
  have sC := (sB.trans s21).trans s22
  have FOC := (FO.same s21).same s22
  -- turned back
  refine ⟨.ref fo, rfl, .ref a, rfl, a, ro, tb.length, rfl, SqL.of (sC _ _ aB), pr, h6, fun H23 qa s23 nqa hqa => ⟨.ref b, rfl, b, co, wd, rfl, SqL.of (s23 _ _ (sC _ _ bB)), pc, w6, fun H24 qb s24 nqb hqb => ?_⟩⟩
  obtain ⟨da, Ra, ea, la, isa⟩ := ord_rp (K := K) (.inl (s24 _ _ hqa)) (back_perm pr) h6
  obtain ⟨db, Rb, eb, lb, isb⟩ := ord_rp (K := K) (.inl hqb) (back_perm pc) w6
  have s2324 := s23.trans s24
  have isB : (isOrder (ex1 rs ro).length da && isOrder (ex1 cs co).length db) = true := by rw [ex1_length, ex1_length, rol, col, isa, isb]; rfl
  refine ⟨fo, _, _, _, .ref qa, .ref qb, da, db, rfl, FOC.same s2324, DR2, Ra, Rb, la, lb, (fun z => by rw [isB] at z; cases z), fun _ H25 ag s25 nag AG => ?_⟩
  rw [ea, eb, back_ex1 (by rw [hrl]; exact pr), back_ex1 (by rw [hcl]; exact pc), back_exch (fun m hm => by rw [(CS.dr.mb m hm).1, hcl]) (by rw [CS.dr.ml, hrl]; exact pr) pc] at AG
  have sD := sC.trans (s2324.trans s25)
  have FOD := (FOC.same s2324).same s25
  refine ⟨.ref ag, rfl, ag, rs, cs, ms, rfl, AG, CS.dr, fun H26 s26 => ?_⟩
  have sF := sD.trans s26
  obtain ⟨ra', ca', D', ks', p1', p2', p3', p4', p5', p6'⟩ := (PTB.same sF).ex
  refine ⟨.ref pt, rfl, pt, _, rfl, .inr (SqT.of p1'), fun Lp nLp => ?_⟩
  have e26 := same_upd (o := .lst [V.ref ra', .ref ca', .ref D']) nLp
  have DA : DueAt (upd H26 Lp (.lst [V.ref ra', .ref ca', .ref D'])) Lp rs cs ms [] := ⟨ra', ca', D', ks', upd_same, e26 _ _ p2', e26 _ _ p3', e26 _ _ p4', p5'.keep fun _ _ o e => e26 _ _ e, fun _ _ z => nomatch z⟩
  refine ⟨.ref Lp, dueD rs cs ms, rfl, dp_due DA, z1, z2, z3, z4, rfl, _, rfl, iteNS rfl ?_⟩
  have sG := sF.trans e26
  generalize upd H26 Lp (.lst [V.ref ra', .ref ca', .ref D']) = H27 at sG e26 ⊢
  refine ⟨.ref fo, rfl, .ref fdu, rfl, fo, fdu, _, _, _, rfl, (FOD.same s26).same e26, dueB.keep fun x o _ e => sG x o e, DR2, fun H28 s28 => ⟨true, rfl, ?_⟩⟩
  have sH := sG.trans s28
  have hdH := sH _ _ hhdB
  refine ⟨.ref hd, rfl, hd, _, 0, .ref h0, rfl, rfl, SqL.of hdH, atI_nat (j := 0) rfl, .ref hd, rfl, hd, _, 1, .ref x1, rfl, rfl, SqL.of hdH, atI_nat (j := 1) rfl, .ref hd, rfl, hd, _, 2, .ref x2, rfl, rfl, SqL.of hdH, atI_nat (j := 2) rfl, .ref h0, .ref x1, .ref x2, td, od, pd, rfl, Rt.same sH, Ro.same sH, Rp'.same sH, lo, lp, (fun z => by rw [ft] at z; cases z), (fun _ z => by rw [isT] at z; cases z), fun _ _ H29 E2 es2 s29 nE2 hE2 rowsE2 hneE2 => ?_⟩
  rw [eft, eo, ep] at rowsE2
  have sI := sH.trans s29
  refine ⟨.ref G, rfl, E2, G, es2, gs, exch 0 tb ro co, rfl, hE2, rowsE2.n, hneE2, sI _ _ GB, rowsGB.same sI, S6, fun H30 f30 => ⟨true, rfl, ?_⟩⟩
  refine ⟨fun x o e => ?_, _, _, _, _, _, rfl⟩
  have e28 := sH _ _ e
  refine f30 x o (s29 _ _ e28) (ne_of_none e28 nE2) fun z => ?_
  have := (rowsE2.fresh x z).1
  rw [e28] at this; cases this
end
end Kp14
set_option Elab.async false
set_option linter.all false
set_option maxRecDepth 100000
set_option maxHeartbeats 4000000
namespace Kp14
open PySem PySem.Spec PyProof.Rows L2 Vf
/-! ### joined well -/
def sp_ljoin (K : PySem.W.Frag) (CF : Addr) : Sp := fun vs H Q _ => ∃ (t p fr pt : Addr) (ls : List Addr) (tb : List (List Int)) (wd : Nat) (rs cs : List Int) (ms : List (List (Option Int))), vs = [.ref t, .ref p, .ref fr, .ref pt] ∧ Tp H t ∧ TL t H p ls tb ∧ FrameAt K CF H fr rs cs ms ∧ Pts t H pt rs cs ms ∧ Case14 tb wd rs cs ms ∧ 2 ≤ wd ∧
  ∀ H', Kp t H H' → Q (.bl true) H'
theorem case_join {tb : List (List Int)} {wd : Nat} {rs cs : List Int} {ms : List (List (Option Int))} {lo g : Nat} {d : Dt} {l : List Dt} (c : Case14 tb wd rs cs ms) (h1 : lo < g) (h2 : g < wd) (e : d.items = some l) (h : l.map Dt.items = (tb.map fun r => joinRow r lo g).map fun r => some (r.map Dt.int)) :
    isTab d rs (joinRow cs lo g) (ms.map fun m => joinCaps m lo g) = true := by
  have rl : ∀ r ∈ tb, (joinRow r lo g).length + 1 = wd := fun r hr => by
    have := (c.row r hr).1
    rw [← this]; exact joinL_length h1 (by omega)
  have w6 := c.w6
  refine tab_yes (wd := wd - 1) e h (by rw [List.length_map]; exact c.h1) (by rw [List.length_map]; exact c.h6) (by omega) (by omega) (fun r hr' => ?_) ?_ ?_ ?_
  · obtain ⟨r0, hr0, rfl⟩ := List.mem_map.mp hr'
    refine ⟨by have := rl r0 hr0; omega, fun n hn => ?_⟩
    obtain ⟨a, b⟩ := c.row r0 hr0
    rcases joinL_mem hn with rfl | hn
    · have x := b _ (getD_in (z := 0) (i := lo) (by omega))
      have y := b _ (getD_in (z := 0) (i := g) (by omega))
      have := c.twoR r0 hr0 lo g h1 h2
      omega
    · exact b n hn
  · rw [← c.er]
    unfold rowSums
    rw [List.map_map]
    exact List.map_congr_left fun r hr => join_sum h1 (by rw [(c.row r hr).1]; exact h2)
  · rw [join_cols (fun r hr => (c.row r hr).1) h1 h2, c.ec]
  · exact join_within c.wi (fun r hr => (c.row r hr).1) (fun m hm => by rw [(c.dr.mb m hm).1, c.cl]) h1 h2 fun r hr => c.twoR r hr lo g h1 h2
theorem sorted_two {x y : Int} {ms : List Int} (h : ms.Perm [x, y]) (h2 : ms.Pairwise (· ≤ ·)) : ms = [min x y, max x y] := by
  have e : [min x y, max x y].Perm [x, y] := by
    by_cases z : x ≤ y
    · rw [Int.min_eq_left z, Int.max_eq_right z]
    · rw [Int.min_eq_right (by omega), Int.max_eq_left (by omega)]
      exact List.Perm.swap _ _ _
  refine sorted_one (h.trans e.symm) h2 ?_
  rw [List.pairwise_pair]
  omega
section
variable {P : Program} {w : World} {K : PySem.W.Frag} {mg : Str → Option Value} {base : Heap} {C : Nat → Addr} {tG tL : Tok} {CF : Addr}
theorem sc_l_joined_well : FnScope ["_law_tape_here", "_law_table_here", "_law_frame", "_law_parts", "_law_rows_here", "_law_columns_here", "_law_caps_here", "_law_first", "_law_second", "_law_due", "_law_row", "_law_caps_due", "_law_frame_due", "_law_j", "_law_k", "_law_handed", "_law_kept", "_law_turn", "_law_found"] ["_law_tape_here", "_law_table_here", "_law_frame", "_law_parts"] (defScope s_l_joined_well) :=
  ⟨rfl, rfl, rfl, by decide +kernel, rfl, by decide +kernel, by decide +kernel⟩
theorem ok_ljoin {f : Addr} {fd : FuncData} (F : Fun K "_law_joined_well" "_law_joined_well" s_l_joined_well f fd) (T : Txt K mg C tG tL) (c_l_digit : Cal P w K mg base CX0 1 "_law_digit" ["_law_tape_here", "_law_size"] sp_digit) (c_l_order : Cal P w K mg base CX0 2 "_law_order" ["_law_tape_here", "_law_many"] sp_lorder)
    (c_l_joined : Cal P w K mg base CX0 1 "_law_joined" ["_law_row", "_law_first", "_law_second", "_law_together"] (sp_put_together K)) (c_l_cap_of : Cal P w K mg base CX0 1 "_law_cap_of" ["_law_one", "_law_other"] sp_joined_cap) (c_l_as : Cal P w K mg base CX0 2 "_law_as" ["_law_tape_here", "_law_rows_here"] (sp_as K)) (c_joined_frame : Cal P w K mg base (L2.CX P w) 8 "joined_frame" ["frame", "j", "k"] (sp_joined_frame K CF C)) (c_joined_table : Cal P w K mg base (L2.CX P w) 6 "joined_table" ["table", "j", "k"] (sp_joined_table K C))
    (c_is_table : Cal P w K mg base CX0 7 "is_table" ["frame", "thing"] (sp_is_table K CF)) (c_l_frame_told : CalG P w K mg base 3 "_law_frame_told" ["_law_told", "_law_due"] (sp_lframe K CF)) (c_l_grid_told : CalG P w K mg base 1 "_law_grid_told" ["_law_told", "_law_due"] (sp_lgrid K)) :
    FnG P w K mg base 9 f fd ["_law_tape_here", "_law_table_here", "_law_frame", "_law_parts"] (sp_ljoin K CF) := by
  refine funOkG F sc_l_joined_well (fun vs H Q E ⟨t, p, fr, pt, ls, tb, wd, rs, cs, ms, e, _⟩ => by rw [e]; rfl) (fun cdv A outer s H vs Q E hr h => ?_)
  obtain ⟨t, p, fr, pt, ls, tb, wd, rs, cs, ms, rfl, tp, TB, FA, PT, CS, w2, q⟩ := h
  have h1 := CS.h1
  have h6 := CS.h6
  have w6 := CS.w6
  have hrl := CS.rl
  have hcl := CS.cl
  have hlen := TB.rows.length
  have nt : ∀ x (Hx : Hp), Tp Hx t → Hx x = none → x ≠ t := fun x Hx tpx nx z => by obtain ⟨m, e⟩ := tpx; rw [z, e] at nx; cases nx
  refine ⟨_, (pss_cons (ps_asg (pv 3) (pg_tup rfl (pgs_cons (pg_name (i := 4) sc_l_joined_well.nd rfl (by first | exact Or.inl rfl | exact Or.inr rfl)) (pgs_cons (pg_name (i := 5) sc_l_joined_well.nd rfl (by first | exact Or.inl rfl | exact Or.inr rfl)) (pgs_cons (pg_name (i := 6) sc_l_joined_well.nd rfl (by first | exact Or.inl rfl | exact Or.inr rfl)) pgs_nil)))))
  (pss_cons (ps_asg (pe_callB (sortedVK (K := K) rfl) (by rfl) T.n_sorted (by decide +kernel) (pa_cons (pe_slice sl_list (pe_cal c_l_order (hr.r.mono (by decide)) (by rfl) pass0 (pa_cons (pv 0) (pa_cons (pe_callB (len_ofK (K := K) rfl) (by rfl) T.n_len (by decide +kernel) (pa_cons (pv 5) pa_nil)) pa_nil))) po_none (po_some pe_int)) pa_nil)) (L2.pg_unl rfl (pgs_cons (pg_name (i := 7) sc_l_joined_well.nd rfl (by first | exact Or.inl rfl | exact Or.inr rfl)) (pgs_cons (pg_name (i := 8) sc_l_joined_well.nd rfl (by first | exact Or.inl rfl | exact Or.inr rfl)) pgs_nil))))
  (pss_cons (ps_setLc (i := 9) (own := [("_law_row", 10)]) (by rfl) sc_l_joined_well.nd rfl rfl (sw_true rfl rfl rfl (by decide +kernel)) (pi_list (pv 1)) (blkOk_by (own := [("_law_row", 10)]) (N := ["_law_tape_here", "_law_table_here", "_law_frame", "_law_parts", "_law_rows_here", "_law_columns_here", "_law_caps_here", "_law_first", "_law_second", "_law_due", "_law_row", "_law_caps_due", "_law_frame_due", "_law_j", "_law_k", "_law_handed", "_law_kept", "_law_turn", "_law_found"]) (sc := defScope s_l_joined_well) (by decide +kernel)) (fun _ _ _ _ _ => (pg_name (i := 10) sc_l_joined_well.nd rfl (by first | exact Or.inl rfl | exact Or.inr rfl))) (fun _ _ _ _ _ => pts_nil) (fun _ _ _ _ _ => (pe_cal c_l_joined (hr.r.mono (by decide)) (by rfl) pass0 (pa_cons (pv 10) (pa_cons (pv 7) (pa_cons (pv 8) (pa_cons (pe_op op_add (pe_ix (ix_listK (K := K) rfl) (pv 10) (pv 7) (fun _ _ => rfl)) (pe_ix (ix_listK (K := K) rfl) (pv 10) (pv 8) (fun _ _ => rfl))) pa_nil)))))))
  (pss_cons (ps_setLc (i := 11) (own := [("_law_row", 10)]) (by rfl) sc_l_joined_well.nd rfl rfl (sw_true rfl rfl rfl (by decide +kernel)) (pi_list (pv 6)) (blkOk_by (own := [("_law_row", 10)]) (N := ["_law_tape_here", "_law_table_here", "_law_frame", "_law_parts", "_law_rows_here", "_law_columns_here", "_law_caps_here", "_law_first", "_law_second", "_law_due", "_law_row", "_law_caps_due", "_law_frame_due", "_law_j", "_law_k", "_law_handed", "_law_kept", "_law_turn", "_law_found"]) (sc := defScope s_l_joined_well) (by decide +kernel)) (fun _ _ _ _ _ => (pg_name (i := 10) sc_l_joined_well.nd rfl (by first | exact Or.inl rfl | exact Or.inr rfl))) (fun _ _ _ _ _ => pts_nil) (fun _ _ _ _ _ => (pe_cal c_l_joined (hr.r.mono (by decide)) (by rfl) pass0 (pa_cons (pv 10) (pa_cons (pv 7) (pa_cons (pv 8) (pa_cons (pe_cal c_l_cap_of (hr.r.mono (by decide)) (by rfl) pass0 (pa_cons (pe_ix (ix_listK (K := K) rfl) (pv 10) (pv 7) (fun _ _ => rfl)) (pa_cons (pe_ix (ix_listK (K := K) rfl) (pv 10) (pv 8) (fun _ _ => rfl)) pa_nil))) pa_nil)))))))
  (pss_cons (ps_set (i := 12) sc_l_joined_well.nd rfl (by first | exact Or.inl rfl | exact Or.inr rfl) (pe_lst (pa_cons (pv 4) (pa_cons (pe_cal c_l_joined (hr.r.mono (by decide)) (by rfl) pass0 (pa_cons (pv 5) (pa_cons (pv 7) (pa_cons (pv 8) (pa_cons (pe_op op_add (pe_ix (ix_listK (K := K) rfl) (pv 5) (pv 7) (fun _ _ => rfl)) (pe_ix (ix_listK (K := K) rfl) (pv 5) (pv 8) (fun _ _ => rfl))) pa_nil))))) (pa_cons (pv 11) pa_nil)))))
  (pss_cons (ps_asg (pe_ix (ix_listK (K := K) rfl) (pe_lst (pa_cons (pe_tup (pa_cons (pv 7) (pa_cons (pv 8) pa_nil))) (pa_cons (pe_tup (pa_cons (pv 8) (pa_cons (pv 7) pa_nil))) pa_nil))) (pe_cal c_l_digit (hr.r.mono (by decide)) (by rfl) pass0 (pa_cons (pv 0) (pa_cons pe_int pa_nil))) (fun _ _ => rfl)) (pg_tup rfl (pgs_cons (pg_name (i := 13) sc_l_joined_well.nd rfl (by first | exact Or.inl rfl | exact Or.inr rfl)) (pgs_cons (pg_name (i := 14) sc_l_joined_well.nd rfl (by first | exact Or.inl rfl | exact Or.inr rfl)) pgs_nil))))
  (pss_cons (ps_set (i := 15) sc_l_joined_well.nd rfl (by first | exact Or.inl rfl | exact Or.inr rfl) (pe_cal c_l_as (hr.r.mono (by decide)) (by rfl) pass0 (pa_cons (pv 0) (pa_cons (pv 1) pa_nil))))
  (pss_cons (ps_set (i := 16) sc_l_joined_well.nd rfl (by first | exact Or.inl rfl | exact Or.inr rfl) (pe_callB (reprK (K := K) rfl hr.g hr.r.units) (by rfl) T.n_repr (by decide +kernel) (pa_cons (pv 15) pa_nil)))
  (pss_cons (ps_for PassesOwn.never rfl (pi_range1 (by rfl) T.n_range (pa_cons pe_int pa_nil))
  (pg_name (i := 17) sc_l_joined_well.nd rfl (by first | exact Or.inl rfl | exact Or.inr rfl))
  (pss_cons (ps_set (i := 18) sc_l_joined_well.nd rfl (by first | exact Or.inl rfl | exact Or.inr rfl) (pe_cal c_joined_frame (hr.r.mono (by decide)) (by rfl) passL (pa_cons (pv 2) (pa_cons (pv 13) (pa_cons (pv 14) pa_nil)))))
  (pss_cons (ps_if (PW.pt (pw_or (pt_not (pt_val (pe_cal c_is_table (hr.r.mono (by decide)) (by rfl) pass0 (pa_cons (pv 18) (pa_cons (pe_cal c_joined_table (hr.r.mono (by decide)) (by rfl) passL (pa_cons (pv 15) (pa_cons (pv 13) (pa_cons (pv 14) pa_nil)))) pa_nil))))) (pw_or1 (pt_not (pt_val (pe_calG c_l_frame_told (hr.mono (by decide)) (by rfl) (pa_cons (pv 18) (pa_cons (pv 12) pa_nil))))))))
  (pss_one (ps_ret pe_bl))
  pss_nil)
  (pss_one (ps_if (pt_not (pt_val (pe_calG c_l_grid_told (hr.mono (by decide)) (by rfl) (pa_cons (pe_cal c_joined_table (hr.r.mono (by decide)) (by rfl) passL (pa_cons (pv 15) (pa_cons (pv 13) (pa_cons (pv 14) pa_nil)))) (pa_cons (pv 9) pa_nil)))))
  (pss_one (ps_ret pe_bl))
  pss_nil)))))
  (pss_one (ps_ret (pe_cmpR op_eq (pe_callB (reprK (K := K) rfl hr.g hr.r.units) (by rfl) T.n_repr (by decide +kernel) (pa_cons (pv 15) pa_nil)) (pv 16) (nomark _))))))))))))), ?_⟩
  obtain ⟨ra, ca, D, ks, p1, p2, p3, p4, p5, p6⟩ := PT.ex
  have rat : ra ≠ t := p6 _ (by simp)
  have cat : ca ≠ t := p6 _ (by simp)
  have hDt : D ≠ t := p6 _ (by simp)
  have kst : ∀ k ∈ ks, k ≠ t := fun k hk => p6 k (by simp [hk])
  refine ⟨.ref pt, rfl, pt, _, rfl, SqT.of p1, rfl, .ref ra, [.ref ca, .ref D], rfl, .ref ca, [.ref D], rfl, .ref D, [], rfl, rfl, ?_⟩
  -- two unlike columns
  refine ⟨.ref t, rfl, .ref ca, rfl, ca, _, rfl, .inl (SqL.of p3), t, wd, by rw [List.length_map, hcl], tp, w6, fun H1 a co k1 na0 hat ha pc => ?_⟩
  have col := perm_length pc
  obtain ⟨x, y, co', rfl⟩ : ∃ x y co', co = x :: y :: co' := by
    match co, col with
    | [], z => exact absurd z (by simp; omega)
    | [_], z => exact absurd z (by simp; omega)
    | x :: y :: co', _ => exact ⟨x, y, co', rfl⟩
  have hx : x < wd := (perm_mem pc).mp List.mem_cons_self
  have hy : y < wd := (perm_mem pc).mp (List.mem_cons_of_mem _ List.mem_cons_self)
  have hxy : x ≠ y := fun z => by
    have := order_nodup pc
    rw [z, List.nodup_cons] at this
    exact this.1 List.mem_cons_self
  refine ⟨2, rfl, a, _, rfl, SqL.of ha, fun c1 nc1 => ?_⟩
  have ecut : cutV (ixV (x :: y :: co')) none (some 2) = ([(x : Int), (y : Int)] : List Int).map V.int := cut_to (ixV (x :: y :: co')) 2
  rw [ecut]
  have s1 := same_upd (o := .lst (([(x : Int), (y : Int)] : List Int).map V.int)) nc1
  refine ⟨c1, [(x : Int), (y : Int)], rfl, .inl (SqL.of upd_same), fun mm c2 pm rise nc2 => ?_⟩
  have emm := sorted_two pm rise
  subst emm
  have s2 := same_upd (o := .lst (([min (x : Int) y, max (x : Int) y] : List Int).map V.int)) nc2
  have k2 := (k1.same s1).same s2
  obtain ⟨lo, elo⟩ : ∃ lo : Nat, lo = min x y := ⟨_, rfl⟩
  obtain ⟨g, eg⟩ : ∃ g : Nat, g = max x y := ⟨_, rfl⟩
  have hlg : lo < g := by omega
  have hgw : g < wd := by omega
  have emin : min (x : Int) y = (lo : Int) := by omega
  have emax : max (x : Int) y = (g : Int) := by omega
  refine ⟨c2, _, rfl, SqL.of upd_same, rfl, .int (min (x : Int) y), [.int (max (x : Int) y)], rfl, .int (max (x : Int) y), [], rfl, rfl, ?_⟩
  rw [emin, emax] at k2 ⊢
  generalize upd (upd H1 c1 (.lst (([(x : Int), (y : Int)] : List Int).map V.int))) c2 (.lst (([(lo : Int), (g : Int)] : List Int).map V.int)) = H2 at k2 ⊢
  have TB2 := TB.kp k2
  have tp2 := k2.2
  -- the table that is due
  refine ⟨.ref p, rfl, p, rfl, ⟨_, SqL.of TB2.at_⟩, fun G nG => ?_⟩
  refine lc_list (K := K) (xs := ls.map V.ref) (fun i H' => Same H2 H' ∧ ∃ gs : List Addr, H' G = some (.lst (gs.map V.ref)) ∧ RowsF H2 H' gs (rowsV ((tb.map fun r => joinRow r lo g).take i)) ∧ ∀ k ∈ gs, k ≠ G) ⟨same_upd nG, [], upd_same, .nil, fun _ z => nomatch z⟩ (fun i H' _ pv => pv.1.seq (SqL.of TB2.at_)) (fun i v H' hv pv => ?_) (fun H3 pv => ?_)
  · obtain ⟨sm, gs, hgs, hrows, hneg⟩ := pv
    obtain ⟨k, hk, rfl⟩ := some_get hv
    obtain ⟨r, hr', hk2⟩ := TB2.rows.get hk
    have rl := (CS.row r (List.mem_of_getElem? hr')).1
    have hkm := sm _ _ hk2
    have elo' : r.getD lo 0 = r[lo]'(by omega) := getD_at (List.getElem?_eq_getElem (by omega))
    have eg' : r.getD g 0 = r[g]'(by omega) := getD_at (List.getElem?_eq_getElem (by omega))
    refine ⟨rfl, .ref k, rfl, .int lo, rfl, .int g, rfl, .ref k, rfl, .int lo, rfl, k, _, lo, .int (r.getD lo 0), rfl, rfl, SqL.of hkm, atI_nat (by rw [List.getElem?_map, List.getElem?_eq_getElem (by omega), elo']; rfl), .ref k, rfl, .int g, rfl, k, _, g, .int (r.getD g 0), rfl, rfl, SqL.of hkm, atI_nat (by rw [List.getElem?_map, List.getElem?_eq_getElem (by omega), eg']; rfl), _, _, rfl, rfl, k, _, lo, g, .int (r.getD lo 0 + r.getD g 0), rfl, SqL.of hkm, hlg, by rw [List.length_map]; omega, by rw [List.length_map]; omega, fun H6 q6 s6 nq6 hq6 => ?_⟩
    rw [joinL_map] at hq6
    have nqX : q6 ≠ G := fun z => by rw [z, hgs] at nq6; cases nq6
    refine ⟨_, s6 _ _ hgs, ?_, fun b o eb => ?_, gs ++ [q6], by rw [upd_same, List.map_append]; rfl, ?_, fun y hy => ?_⟩
    · rw [List.length_map, hrows.length]
      unfold rowsV
      rw [List.length_map, List.length_take, List.length_map]
      exact Nat.lt_of_le_of_lt (Nat.le_trans (Nat.min_le_right _ _) h6) (by decide)
    · rw [upd_ne (ne_of_none eb nG)]
      exact s6 _ _ (sm b o eb)
    · have ei2 : (tb.map fun r => joinRow r lo g)[i]? = some (joinRow r lo g) := by rw [List.getElem?_map, hr']; rfl
      rw [List.take_add_one, ei2]
      unfold rowsV
      rw [List.map_append]
      refine (hrows.keep fun c o e1 e2 hc => ?_).append (.cons (sm.free nq6) ?_ .nil)
      · rw [upd_ne (hneg c hc)]
        exact s6 _ _ e2
      · rw [upd_ne nqX]; exact hq6
    · rcases List.mem_append.mp hy with z | z
      · exact hneg y z
      · obtain rfl : y = q6 := by simpa using z
        exact nqX
  obtain ⟨s3, gs, hG, rowsG, hneG⟩ := pv
  rw [List.take_of_length_le (by rw [List.length_map, List.length_map, hlen]; exact Nat.le_refl _)] at rowsG
  have k3 := k2.same s3
  have tp3 := k3.2
  -- the caps that are due
  have D3 := k3.1 _ _ p4 hDt
  have rowsD3 : RowsC H3 ks ms := p5.keep fun b hb o e => k3.1 _ _ e (kst b hb)
  have hkl := rowsD3.length
  have dml := CS.dr.ml
  refine ⟨.ref D, rfl, D, rfl, ⟨_, SqL.of D3⟩, fun X nX => ?_⟩
  refine lc_list (K := K) (xs := ks.map V.ref) (fun i H' => Same H3 H' ∧ ∃ zs : List Addr, H' X = some (.lst (zs.map V.ref)) ∧ RowsF H3 H' zs (((ms.map fun m => joinCaps m lo g).take i).map (·.map capV)) ∧ ∀ k ∈ zs, k ≠ X) ⟨same_upd nX, [], upd_same, .nil, fun _ z => nomatch z⟩ (fun i H' _ pv => pv.1.seq (SqL.of D3)) (fun i v H' hv pv => ?_) (fun H4 pv => ?_)
  · obtain ⟨sm, gs, hgs, hrows, hneg⟩ := pv
    obtain ⟨k, hk, rfl⟩ := some_get hv
    have hik := (List.getElem?_eq_some_iff.mp hk).1
    have him : i < ms.length := by omega
    obtain ⟨k', hk', hkc⟩ := rowsD3.get (List.getElem?_eq_getElem him)
    obtain rfl : k = k' := Option.some.inj (hk.symm.trans hk')
    have mw : ms[i].length = wd := by rw [(CS.dr.mb _ (List.getElem_mem him)).1, hcl]
    have hkm := sm _ _ hkc
    have elo' : ms[i].getD lo none = ms[i][lo]'(by omega) := getD_at (List.getElem?_eq_getElem (by omega))
    have eg' : ms[i].getD g none = ms[i][g]'(by omega) := getD_at (List.getElem?_eq_getElem (by omega))
    refine ⟨rfl, .ref k, rfl, .int lo, rfl, .int g, rfl, .ref k, rfl, .int lo, rfl, k, _, lo, capV (ms[i].getD lo none), rfl, rfl, SqL.of hkm, atI_nat (by rw [List.getElem?_map, List.getElem?_eq_getElem (by omega), elo']; rfl), .ref k, rfl, .int g, rfl, k, _, g, capV (ms[i].getD g none), rfl, rfl, SqL.of hkm, atI_nat (by rw [List.getElem?_map, List.getElem?_eq_getElem (by omega), eg']; rfl), _, _, rfl, k, _, lo, g, capV (joinCap (ms[i].getD lo none) (ms[i].getD g none)), rfl, SqL.of hkm, hlg, by rw [List.length_map]; omega, by rw [List.length_map]; omega, fun H6 q6 s6 nq6 hq6 => ?_⟩
    rw [joinL_map] at hq6
    have nqX : q6 ≠ X := fun z => by rw [z, hgs] at nq6; cases nq6
    refine ⟨_, s6 _ _ hgs, ?_, fun b o eb => ?_, gs ++ [q6], by rw [upd_same, List.map_append]; rfl, ?_, fun y hy => ?_⟩
    · rw [List.length_map, hrows.length, List.length_map, List.length_take, List.length_map]
      exact Nat.lt_of_le_of_lt (Nat.le_trans (Nat.min_le_right _ _) (by omega : ms.length ≤ 6)) (by decide)
    · rw [upd_ne (ne_of_none eb nX)]
      exact s6 _ _ (sm b o eb)
    · have ei2 : (ms.map fun m => joinCaps m lo g)[i]? = some (joinCaps ms[i] lo g) := by rw [List.getElem?_map, List.getElem?_eq_getElem him]; rfl
      rw [List.take_add_one, ei2, List.map_append]
      refine (hrows.keep fun c o e1 e2 hc => ?_).append (.cons (sm.free nq6) ?_ .nil)
      · rw [upd_ne (hneg c hc)]
        exact s6 _ _ e2
      · rw [upd_ne nqX]; exact hq6
    · rcases List.mem_append.mp hy with z | z
      · exact hneg y z
      · obtain rfl : y = q6 := by simpa using z
        exact nqX
  obtain ⟨s4, zs, hX, rowsX, hneX⟩ := pv
  rw [List.take_of_length_le (by rw [List.length_map, List.length_map, hkl]; exact Nat.le_refl _)] at rowsX
  have k4 := k3.same s4
  have tp4 := k4.2
  -- the frame that is due
  have ra4 := k4.1 _ _ p2 rat
  have ca4 := k4.1 _ _ p3 cat
  have elo' : cs.getD lo 0 = cs[lo]'(by omega) := getD_at (List.getElem?_eq_getElem (by omega))
  have eg' : cs.getD g 0 = cs[g]'(by omega) := getD_at (List.getElem?_eq_getElem (by omega))
  refine ⟨.ref ra, rfl, .ref ca, rfl, .int lo, rfl, .int g, rfl, .ref ca, rfl, .int lo, rfl, ca, _, lo, .int (cs.getD lo 0), rfl, rfl, SqL.of ca4, atI_nat (by rw [List.getElem?_map, List.getElem?_eq_getElem (by omega), elo']; rfl), .ref ca, rfl, .int g, rfl, ca, _, g, .int (cs.getD g 0), rfl, rfl, SqL.of ca4, atI_nat (by rw [List.getElem?_map, List.getElem?_eq_getElem (by omega), eg']; rfl), _, _, rfl, rfl, ca, _, lo, g, .int (cs.getD lo 0 + cs.getD g 0), rfl, SqL.of ca4, hlg, by rw [List.length_map]; omega, by rw [List.length_map]; omega, fun H5 jc s5 njc hjc => ?_⟩
  rw [joinL_map] at hjc
  refine ⟨.ref X, rfl, (by show 3 ≤ sizeLine; decide), fun fdu nfdu => ?_⟩
  have e5 := same_upd (o := .lst [V.ref ra, .ref jc, .ref X]) nfdu
  have hfdu : upd H5 fdu (.lst [V.ref ra, .ref jc, .ref X]) fdu = some (.lst [V.ref ra, .ref jc, .ref X]) := upd_same
  generalize upd H5 fdu (.lst [V.ref ra, .ref jc, .ref X]) = H6 at e5 hfdu ⊢
  have s46 := s5.trans e5
  have k6 := k4.same s46
  have tp5 := tp_same tp4 s5
  have tp6 := k6.2
  have rowsXC : RowsC H6 zs (ms.map fun m => joinCaps m lo g) := by
    have up : ∀ {ks : List Addr} {ms : List (List (Option Int))}, RowsF H3 H4 ks (ms.map (·.map capV)) → RowsC H6 ks ms := fun {ks ms} r => by
      induction ms generalizing ks with
      | nil => cases r; exact .nil
      | cons m ms ih =>
        cases r with
        | cons g1 g2 r => exact .cons (s46 _ _ g2) (ih r)
    exact up rowsX
  have due6 : DueAt H6 fdu rs (joinRow cs lo g) (ms.map fun m => joinCaps m lo g) [t] := by
    refine ⟨ra, jc, X, zs, hfdu, s46 _ _ ra4, e5 _ _ hjc, s46 _ _ hX, rowsXC, fun z hz => ?_⟩
    have : z ≠ t := by
      rcases List.mem_cons.mp hz with rfl | hz
      · exact nt _ H5 tp5 nfdu
      · rcases List.mem_cons.mp hz with rfl | hz
        · exact rat
        · rcases List.mem_cons.mp hz with rfl | hz
          · exact nt _ H4 tp4 njc
          · rcases List.mem_cons.mp hz with rfl | hz
            · exact nt _ H3 tp3 nX
            · exact nt _ H3 tp3 (rowsX.fresh z hz).1
    simpa using this
  have hGt : G ≠ t := nt _ H2 tp2 nG
  have hgst : ∀ x ∈ gs, x ≠ t := fun x hx => nt _ H2 tp2 (rowsG.fresh x hx).1
  have s36 := s4.trans s46
  have G6 := s36 _ _ hG
  have rowsG6 : RowsN H6 gs (tb.map fun r => joinRow r lo g) := rowsG.n.same s36
  -- in either turn
  refine ⟨.int lo, rfl, .int g, rfl, (by show 2 ≤ sizeLine; decide), fun t1 nt1 => ⟨.int g, rfl, .int lo, rfl, (by show 2 ≤ sizeLine; decide), fun t2 nt2 => ⟨(by show 2 ≤ sizeLine; decide), fun L nL => ?_⟩⟩⟩
  have f1 := same_upd (o := .tup [V.int lo, .int g]) nt1
  have f2 := same_upd (o := .tup [V.int g, .int lo]) nt2
  have f3 := same_upd (o := .lst [V.ref t1, .ref t2]) nL
  have ht1 : upd (upd (upd H6 t1 (.tup [V.int lo, .int g])) t2 (.tup [V.int g, .int lo])) L (.lst [V.ref t1, .ref t2]) t1 = some (.tup [V.int lo, .int g]) := f3 _ _ (f2 _ _ upd_same)
  have ht2 : upd (upd (upd H6 t1 (.tup [V.int lo, .int g])) t2 (.tup [V.int g, .int lo])) L (.lst [V.ref t1, .ref t2]) t2 = some (.tup [V.int g, .int lo]) := f3 _ _ upd_same
  have hLL : upd (upd (upd H6 t1 (.tup [V.int lo, .int g])) t2 (.tup [V.int g, .int lo])) L (.lst [V.ref t1, .ref t2]) L = some (.lst [V.ref t1, .ref t2]) := upd_same
  have s67 := (f1.trans f2).trans f3
  have t1t : t1 ≠ t := nt _ H6 tp6 nt1
  have t2t : t2 ≠ t := nt _ _ (tp_same tp6 f1) nt2
  have Lt : L ≠ t := nt _ _ (tp_same tp6 (f1.trans f2)) nL
  generalize upd (upd (upd H6 t1 (.tup [V.int lo, .int g])) t2 (.tup [V.int g, .int lo])) L (.lst [V.ref t1, .ref t2]) = H7 at s67 ht1 ht2 hLL ⊢
  have k7 := k6.same s67
  obtain ⟨m7, htp7⟩ := k7.2
  refine ⟨.ref t, rfl, t, m7, 2, rfl, htp7, by decide, by decide, fun dg n7 dg0 dg1 => ?_⟩
  have k8 : Kp t H6 (upd H7 t (.lst [V.int n7])) := ((Kp.refl tp6).same s67).tape
  obtain ⟨tx, jj, kk, htx, hty, hj, hk, hjk, hmn, hmx⟩ : ∃ (tx : Addr) (jj kk : Nat), ([V.ref t1, .ref t2] : List V)[dg.toNat]? = some (.ref tx) ∧ upd H7 t (.lst [V.int n7]) tx = some (.tup [V.int jj, .int kk]) ∧ jj < wd ∧ kk < wd ∧ jj ≠ kk ∧ min jj kk = lo ∧ max jj kk = g := by
    have : dg.toNat = 0 ∨ dg.toNat = 1 := by omega
    rcases this with z | z
    · rw [z]; exact ⟨t1, lo, g, rfl, (upd_ne t1t).trans ht1, by omega, by omega, by omega, by omega, by omega⟩
    · rw [z]; exact ⟨t2, g, lo, rfl, (upd_ne t2t).trans ht2, by omega, by omega, by omega, by omega, by omega⟩
  refine ⟨L, _, dg, .ref tx, rfl, rfl, SqL.of ((upd_ne Lt).trans hLL), at_of (j := dg.toNat) (by omega) htx, tx, _, rfl, SqT.of hty, rfl, .int jj, [.int kk], rfl, .int kk, [], rfl, rfl, ?_⟩
  generalize upd H7 t (.lst [V.int n7]) = H8 at k8 hty ⊢
  have kH8 := k6.trans k8
  have TB8 := TB.kp kH8
  -- what is handed in
  refine ⟨.ref t, rfl, .ref p, rfl, t, p, ls, rowsV tb, rfl, k8.2, SqL.of TB8.at_, TB8.rows.q, by omega, TB8.np, TB8.nl, fun HB h0 bs k9 nh0 hh0 rVB hneb => ?_⟩
  have kB := k8.trans k9
  have kHB := kH8.trans k9
  have FAB := FA.kp tp kHB
  have GB := kB.1 _ _ G6 hGt
  have rowsGB : RowsN HB gs (tb.map fun r => joinRow r lo g) := rowsG6.keep fun l hl o e => kB.1 _ _ e (hgst l hl)
  have dueB : DueAt HB fdu rs (joinRow cs lo g) (ms.map fun m => joinCaps m lo g) [] := (due6.keep fun x o hx e => kB.1 x o e (by simpa using hx)).less fun _ z => nomatch z
  obtain ⟨d0, D0, N0, M0, Y0⟩ := tab_data (K := K) hh0 rVB h6 w6 CS.row
  obtain ⟨b1, b2, b3, b4⟩ := show_of N0 (by omega) (by omega)
  obtain ⟨td, tl, Rt, et, mt⟩ := rp_given (K := K) hh0 rVB
  have ft : isForm td = true := form_ok et mt h1 h6 CS.w1 w6 CS.row
  have eft : formOf td = tb := formOf_items et mt
  have ewt : widthOf tb = wd := by
    unfold widthOf
    cases tb with
    | nil => exact absurd h1 (by decide)
    | cons r tb => exact (CS.row r List.mem_cons_self).1
  have cf : colsOk cs.length (.int jj) (.int kk) = true := by
    unfold colsOk
    show ((decide (0 ≤ (jj : Int)) && decide ((jj : Int) < (cs.length : Nat))) && (decide (0 ≤ (kk : Int)) && decide ((kk : Int) < (cs.length : Nat))) && !decide ((jj : Int) = (kk : Int))) = true
    rw [decide_eq_true (by omega), decide_eq_true (by omega), decide_eq_true (by omega), decide_eq_true (by omega), decide_eq_false (by omega)]; rfl
  have ct : colsOk (widthOf (formOf td)) (.int jj) (.int kk) = true := by rw [eft, ewt, ← hcl]; exact cf
  have two := CS.two lo g hlg hgw
  have DR2 : Drawn rs (joinRow cs lo g) (ms.map fun m => joinCaps m lo g) := join_drawn CS.dr hlg (by omega) two
  have S6 : Sm6 (tb.map fun r => joinRow r lo g) := by
    refine ⟨by rw [List.length_map]; exact h6, fun r hr' => ?_⟩
    obtain ⟨r0, hr0, rfl⟩ := List.mem_map.mp hr'
    obtain ⟨ra0, rb0⟩ := CS.row r0 hr0
    have jl : (joinRow r0 lo g).length + 1 = r0.length := joinL_length hlg (by omega)
    refine ⟨by omega, fun n hn => ?_⟩
    rcases joinL_mem hn with rfl | hn
    · have x := rb0 _ (getD_in (z := 0) (i := lo) (by omega))
      have y := rb0 _ (getD_in (z := 0) (i := g) (by omega))
      have := CS.twoR r0 hr0 lo g hlg hgw
      omega
    · exact rb0 n hn
  have natI : ∀ {a b : Nat}, Dt.int (a : Nat) = .int (b : Nat) → a = b := fun {a b} z => by have := Dt.int.inj z; omega
  refine ⟨.ref h0, rfl, .ref h0, d0, rfl, D0, b1, b2, b3, b4, ?_⟩
  refine ⟨2, rfl, by decide, by decide, for_range (n := 2) (fun i σ H' => Same HB H' ∧ ∃ v10 v17 v18, σ = [some (.ref t), some (.ref p), some (.ref fr), some (.ref pt), some (.ref ra), some (.ref ca), some (.ref D), some (.int lo), some (.int g), some (.ref G), v10, some (.ref X), some (.ref fdu), some (.int jj), some (.int kk), some (.ref h0), some (.str d0.shown), v17, v18]) ⟨Same.refl _, _, _, _, rfl⟩ (fun i σ H' hi pv => ?_) (fun σ H' pv => ?_)⟩
  rotate_left
  · obtain ⟨sE, v10, v17, v18, rfl⟩ := pv
    refine ⟨.ref h0, rfl, .ref h0, d0, rfl, dp_same sE D0, b1, b2, b3, b4, .str _, rfl, rfl, ?_⟩
    rw [decide_eq_true rfl]
    exact q H' (kHB.same sE)
  obtain ⟨sA, v10, v17, v18, rfl⟩ := pv
  refine ⟨.ref fr, rfl, .int jj, rfl, .int kk, rfl, fr, rs, cs, ms, .int jj, .int kk, .int jj, .int kk, rfl, FAB.same sA, CS.dr, .int _, .int _, (fun z => by rw [cf] at z; cases z), (fun i j ei ej _ _ _ z => ?_), fun i j ei ej _ _ _ _ H20 fo s20 nfo FO => ?_⟩
  · rw [← natI ei, ← natI ej, hmn, hmx] at z; omega
  rw [← natI ei, ← natI ej, hmn, hmx] at FO
  have sB := sA.trans s20
  refine ⟨.ref fo, rfl, .ref h0, rfl, .int jj, rfl, .int kk, rfl, .ref h0, .int jj, .int kk, td, .int jj, .int kk, rfl, Rt.same sB, .int _, .int _, (fun z => by rw [ft] at z; cases z), (fun _ z => by rw [ct] at z; cases z), fun i2 j2 _ ei2 ej2 _ _ _ => ⟨fun r hr' => ?_, fun H21 E1 es s21 nE1 hE1 rowsE hneE => ?_⟩⟩
  · rw [eft] at hr'
    rw [← natI ei2, ← natI ej2, hmn, hmx]
    exact CS.twoR r hr' lo g hlg hgw
  rw [eft, ← natI ei2, ← natI ej2, hmn, hmx] at rowsE
  obtain ⟨dE, lE, RE, eE, mE⟩ := rp_told (K := K) hE1 rowsE
  have j6 := DR2.c6
  refine ⟨fo, _, _, _, .ref E1, dE, rfl, FO.same s21, CS.dr.r6, j6, RE, fun H22 s22 => ?_⟩
  rw [case_join CS hlg hgw eE mE]
  refine ⟨true, rfl, ?_⟩
  have sC := (sB.trans s21).trans s22
  refine ⟨.ref fo, rfl, .ref fdu, rfl, fo, fdu, _, _, _, rfl, (FO.same s21).same s22, dueB.keep fun x o _ e => sC x o e, DR2, fun H28 s28 => ⟨true, rfl, ?_⟩⟩
  have sH := sC.trans s28
  refine ⟨.ref h0, rfl, .int jj, rfl, .int kk, rfl, .ref h0, .int jj, .int kk, td, .int jj, .int kk, rfl, Rt.same sH, .int _, .int _, (fun z => by rw [ft] at z; cases z), (fun _ z => by rw [ct] at z; cases z), fun i3 j3 _ ei3 ej3 _ _ _ => ⟨fun r hr' => ?_, fun H29 E2 es2 s29 nE2 hE2 rowsE2 hneE2 => ?_⟩⟩
  · rw [eft] at hr'
    rw [← natI ei3, ← natI ej3, hmn, hmx]
    exact CS.twoR r hr' lo g hlg hgw
  rw [eft, ← natI ei3, ← natI ej3, hmn, hmx] at rowsE2
  have sI := sH.trans s29
  refine ⟨.ref G, rfl, E2, G, es2, gs, tb.map fun r => joinRow r lo g, rfl, hE2, rowsE2.n, hneE2, sI _ _ GB, rowsGB.same sI, S6, fun H30 f30 => ⟨true, rfl, ?_⟩⟩
  refine ⟨fun x o e => ?_, _, _, _, rfl⟩
  have e28 := sH _ _ e
  refine f30 x o (s29 _ _ e28) (ne_of_none e28 nE2) fun z => ?_
  have := (rowsE2.fresh x z).1
  rw [e28] at this; cases this
end
end Kp14
set_option Elab.async false
set_option linter.all false
set_option maxRecDepth 100000
set_option maxHeartbeats 4000000
namespace Kp14
open PySem PySem.Spec PyProof.Rows L2 Vf
/-! ### the law -/
theorem RowsC.v {H : Hp} : ∀ {ks : List Addr} {ms : List (List (Option Int))}, RowsC H ks ms → RowsV (fun _ => none) H ks (ms.map (·.map capV))
  | _, _, .nil => .nil
  | _, _, .cons h r => .cons rfl (.inl h) (RowsC.v r)
theorem pair_le {r : List Int} {l g : Nat} (hb : ∀ n ∈ r, 0 ≤ n) (h : l < g) (h2 : g < r.length) : r.getD l 0 + r.getD g 0 ≤ r.sum := by
  have e := congrArg List.sum (split_at (z := (0 : Int)) h h2)
  simp only [List.sum_append, List.sum_cons, List.sum_nil] at e
  have nn : ∀ l : List Int, (∀ n ∈ l, 0 ≤ n) → 0 ≤ l.sum := fun l hl => by
    induction l with
    | nil => exact Int.le_refl _
    | cons x l ih =>
      rw [List.sum_cons]
      have := hl x List.mem_cons_self
      have := ih fun n hn => hl n (List.mem_cons_of_mem _ hn)
      omega
  have a := nn (r.take l) fun n hn => hb n (List.mem_of_mem_take hn)
  have b := nn ((r.take g).drop (l + 1)) fun n hn => hb n (List.mem_of_mem_take (List.mem_of_mem_drop hn))
  have c := nn (r.drop (g + 1)) fun n hn => hb n (List.mem_of_mem_drop hn)
  omega
theorem Tab.colb2 {tb : List (List Int)} {wd : Nat} (T : Tab tb wd) : ∀ r ∈ colSums tb wd, 0 ≤ r ∧ r ≤ 498000000000 := fun r hr => by
  obtain ⟨j, hj, rfl⟩ := List.mem_map.mp hr
  rw [List.mem_range] at hj
  obtain ⟨a, b⟩ := sum_le (m := 83000000000) (tb.map fun r => r.getD j 0) fun n hn => by
    obtain ⟨x, hx, rfl⟩ := List.mem_map.mp hn
    obtain ⟨h1, h2⟩ := T.row x hx
    have hjx : j < x.length := by rw [h1]; exact hj
    rw [getD_at (List.getElem?_eq_getElem hjx)]
    have := h2 _ (List.getElem_mem hjx)
    exact ⟨this.1, Int.le_of_lt this.2⟩
  have := T.h6
  rw [List.length_map] at b
  exact ⟨a, by omega⟩
theorem case_drawn {tb : List (List Int)} {wd : Nat} {ms : List (List (Option Int))} (T : Tab tb wd) (hml : ms.length = tb.length) (hmb : ∀ m ∈ ms, m.length = wd ∧ ∀ c ∈ m, capOk c) (wi : within tb ms = true) : Case14 tb wd (rowSums tb) (colSums tb wd) ms := by
  have rl : (rowSums tb).length = tb.length := by unfold rowSums; rw [List.length_map]
  have cl := colSums_length tb wd
  have t1 := T.h1
  have t6 := T.h6
  have w1 := T.w1
  have w6 := T.w6
  refine ⟨T.h1, T.h6, T.w1, T.w6, fun r hr => ⟨(T.row r hr).1, fun n hn => ?_⟩, rfl, rfl, wi, ⟨by omega, by omega, by omega, by omega, T.rowb, T.colb, by omega, fun m hm => ⟨by rw [cl]; exact (hmb m hm).1, (hmb m hm).2⟩⟩, fun l g h h2 => ?_, fun r hr l g h h2 => ?_⟩
  · have := (T.row r hr).2 n hn; omega
  · have a := T.colb2 _ (getD_in (z := 0) (show l < (colSums tb wd).length by omega))
    have b := T.colb2 _ (getD_in (z := 0) (show g < (colSums tb wd).length by omega))
    omega
  · obtain ⟨rl', rb⟩ := T.row r hr
    have a := rb _ (getD_in (z := 0) (show l < r.length by omega))
    have b := rb _ (getD_in (z := 0) (show g < r.length by omega))
    omega
theorem case_great {a : Int} (a0 : 0 ≤ a) (a1 : a ≤ 1000000000000) : Case14 [[a, 1000000000000 - a]] 2 [1000000000000] [a, 1000000000000 - a] [[none, some 1000000000000]] := by
  refine ⟨by show 1 ≤ 1; decide, by show 1 ≤ 6; decide, by decide, by decide, fun r hr => ?_, ?_, ?_, ?_, ⟨by decide, by decide, by show 1 ≤ 2; decide, by show 2 ≤ 6; decide, fun r hr => ?_, fun r hr => ?_, rfl, fun m hm => ?_⟩, fun l g h h2 => ?_, fun r hr l g h h2 => ?_⟩
  · obtain rfl : r = [a, 1000000000000 - a] := by simpa using hr
    refine ⟨rfl, fun n hn => ?_⟩
    rcases List.mem_cons.mp hn with rfl | hn
    · omega
    · obtain rfl : n = 1000000000000 - a := by simpa using hn
      omega
  · show [a + (1000000000000 - a + 0)] = [1000000000000]
    congr 1
    omega
  · show [a + 0, (1000000000000 - a) + 0] = [a, 1000000000000 - a]
    rw [Int.add_zero, Int.add_zero]
  · show ((true && (decide (1000000000000 - a ≤ 1000000000000) && true)) && true) = true
    rw [decide_eq_true (by omega)]; rfl
  · obtain rfl : r = 1000000000000 := by simpa using hr
    decide
  · rcases List.mem_cons.mp hr with rfl | hr
    · omega
    · obtain rfl : r = 1000000000000 - a := by simpa using hr
      omega
  · obtain rfl : m = [none, some 1000000000000] := by simpa using hm
    refine ⟨rfl, fun c hc => ?_⟩
    rcases List.mem_cons.mp hc with rfl | hc
    · exact fun i z => nomatch z
    · obtain rfl : c = some 1000000000000 := by simpa using hc
      exact fun i z => by obtain rfl := Option.some.inj z; decide
  · obtain rfl : l = 0 := by omega
    obtain rfl : g = 1 := by omega
    show a + (1000000000000 - a) ≤ 1000000000000
    omega
  · obtain rfl : r = [a, 1000000000000 - a] := by simpa using hr
    obtain rfl : l = 0 := by omega
    obtain rfl : g = 1 := by omega
    show a + (1000000000000 - a) ≤ 1000000000000
    omega
def sp_law (K : PySem.W.Frag) : Sp := fun vs H Q _ => ∃ (a : Addr) (ns : List Int), vs = [.ref a] ∧ SqL K H a (ns.map V.int) ∧ ∀ H' : Hp, Q (.bl true) H'
section
variable {P : Program} {w : World} {K : PySem.W.Frag} {mg : Str → Option Value} {base : Heap} {C : Nat → Addr} {tG tL : Tok} {CF fI : Addr} {fdI : FuncData}
theorem sc_law : FnScope ["_law_script", "_law_k", "_law_tape_here", "_law_table_here", "_law_row", "_law_parts", "_law_frame"] ["_law_script"] (defScope s_law) :=
  ⟨rfl, rfl, rfl, by decide +kernel, rfl, by decide +kernel, by decide +kernel⟩
theorem ok_law {f : Addr} {fd : FuncData} (F : Fun K "law" "law" s_law f fd) (T : Txt K mg C tG tL) (FT : FrT K mg CF) (M : Mk K CF fI) (FI : FnOk P w K mg base (L2.CX P w) 6 fI fdI ["self", "rows", "columns", "caps"] (sp_initF K CF C)) (bA : Binds K fdI ["self", "rows", "columns", "caps"] [])
    (c_l_cell_at : Cal P w K mg base CX0 1 "_law_cell_at" ["_law_script", "_law_k"] (sp_cell_at K)) (c_l_tape : Cal P w K mg base CX0 1 "_law_tape" ["_law_cell"] sp_tape) (c_l_digit : Cal P w K mg base CX0 1 "_law_digit" ["_law_tape_here", "_law_size"] sp_digit) (c_l_table : Cal P w K mg base CX0 3 "_law_table" ["_law_tape_here"] sp_ltable) (c_l_greatest : Cal P w K mg base CX0 2 "_law_greatest" ["_law_tape_here"] sp_lgreatest)
    (c_l_rows : Cal P w K mg base CX0 1 "_law_rows" ["_law_table_here"] (sp_lrows K)) (c_l_columns : Cal P w K mg base CX0 1 "_law_columns" ["_law_table_here"] (sp_lcolumns K)) (c_l_caps : Cal P w K mg base CX0 3 "_law_caps" ["_law_tape_here", "_law_table_here"] sp_llcaps)
    (c_l_exchanged_well : CalG P w K mg base 9 "_law_exchanged_well" ["_law_tape_here", "_law_table_here", "_law_frame", "_law_parts"] (sp_lexch K CF)) (c_l_joined_well : CalG P w K mg base 9 "_law_joined_well" ["_law_tape_here", "_law_table_here", "_law_frame", "_law_parts"] (sp_ljoin K CF)) (c_l_shown : CalG P w K mg base 2 "_law_shown" ["_law_frame"] (sp_lshown K CF)) : FnG P w K mg base 10 f fd ["_law_script"] (sp_law K) := by
  refine funOkG F sc_law (fun vs H Q E ⟨a, ns, e, _⟩ => by rw [e]; rfl) (fun cdv A outer s H vs Q E hr h => ?_)
  obtain ⟨a, ns, rfl, hS, q⟩ := h
  refine ⟨_, (pss_cons (ps_for PassesOwn.never rfl (pi_range1 (by rfl) T.n_range (pa_cons (pe_callB (call_max2 rfl) (by rfl) T.n_max (by decide +kernel) (pa_cons pe_int (pa_cons (pe_callB (call_min2 rfl) (by rfl) T.n_min (by decide +kernel) (pa_cons (pe_callB (len_ofK (K := K) rfl) (by rfl) T.n_len (by decide +kernel) (pa_cons (pv 0) pa_nil)) (pa_cons pe_int pa_nil))) pa_nil))) pa_nil))
  (pg_name (i := 1) sc_law.nd rfl (by first | exact Or.inl rfl | exact Or.inr rfl))
  (pss_cons (ps_set (i := 2) sc_law.nd rfl (by first | exact Or.inl rfl | exact Or.inr rfl) (pe_cal c_l_tape (hr.r.mono (by decide)) (by rfl) pass0 (pa_cons (pe_op op_add (pe_cal c_l_cell_at (hr.r.mono (by decide)) (by rfl) pass0 (pa_cons (pv 0) (pa_cons (pv 1) pa_nil))) (pv 1)) pa_nil)))
  (C8.pss_cut (ps_set (i := 3) sc_law.nd rfl (by first | exact Or.inl rfl | exact Or.inr rfl) (pe_ix (ix_listK (K := K) rfl) (pe_lst (pa_cons (pe_cal c_l_table (hr.r.mono (by decide)) (by rfl) pass0 (pa_cons (pv 2) pa_nil)) (pa_cons (pe_cal c_l_greatest (hr.r.mono (by decide)) (by rfl) pass0 (pa_cons (pv 2) pa_nil)) pa_nil))) (pe_callTy call_int1 (by rfl) T.n_int (by decide +kernel) (pa_cons (pe_cmpR op_eq (pe_cal c_l_digit (hr.r.mono (by decide)) (by rfl) pass0 (pa_cons (pv 2) (pa_cons pe_int pa_nil))) pe_int (nomark _)) pa_nil)) (fun _ _ => rfl)))
  (C8.pss_cut (ps_if (PW.pt (pw_and (pt_cmpR op_gt (pe_callB (sumK (K := K) rfl rfl) (by rfl) T.n_sum (by decide +kernel) (pa_cons (pe_lc (own := [("_law_row", 4)]) (by rfl) sc_law.nd (pi_list (pv 3)) (blkOk_by (own := [("_law_row", 4)]) (N := ["_law_script", "_law_k", "_law_tape_here", "_law_table_here", "_law_row", "_law_parts", "_law_frame"]) (sc := defScope s_law) (by decide +kernel)) (fun _ _ _ _ _ => (pg_name (i := 4) sc_law.nd rfl (by first | exact Or.inl rfl | exact Or.inr rfl))) (fun _ _ _ _ _ => pts_nil) (fun _ _ _ _ _ => (pe_callB (sumK (K := K) rfl rfl) (by rfl) T.n_sum (by decide +kernel) (pa_cons (pv 4) pa_nil)))) pa_nil)) (pe_op op_pow pe_int pe_int) (nomark _)) (pw_and1 (pt_cmpR op_eq (pe_callB (len_ofK (K := K) rfl) (by rfl) T.n_len (by decide +kernel) (pa_cons (pv 3) pa_nil)) pe_int (nomark _)))))
  (pss_cons (ps_set (i := 5) sc_law.nd rfl (by first | exact Or.inl rfl | exact Or.inr rfl) (pe_tup (pa_cons (pe_lst (pa_cons (pe_op op_pow pe_int pe_int) pa_nil)) (pa_cons (pe_lst (pa_cons (pe_ix (ix_listK (K := K) rfl) (pe_ix (ix_listK (K := K) rfl) (pv 3) pe_int (fun _ _ => rfl)) pe_int (fun _ _ => rfl)) (pa_cons (pe_ix (ix_listK (K := K) rfl) (pe_ix (ix_listK (K := K) rfl) (pv 3) pe_int (fun _ _ => rfl)) pe_int (fun _ _ => rfl)) pa_nil))) (pa_cons (pe_lst (pa_cons (pe_lst (pa_cons pe_non (pa_cons (pe_op op_pow pe_int pe_int) pa_nil))) pa_nil)) pa_nil)))))
  (pss_one (ps_set (i := 3) sc_law.nd rfl (by first | exact Or.inl rfl | exact Or.inr rfl) (pe_lst (pa_cons (pe_slice sl_list (pe_ix (ix_listK (K := K) rfl) (pv 3) pe_int (fun _ _ => rfl)) po_none (po_some pe_int)) pa_nil)))))
  (pss_one (ps_set (i := 5) sc_law.nd rfl (by first | exact Or.inl rfl | exact Or.inr rfl) (pe_tup (pa_cons (pe_cal c_l_rows (hr.r.mono (by decide)) (by rfl) pass0 (pa_cons (pv 3) pa_nil)) (pa_cons (pe_cal c_l_columns (hr.r.mono (by decide)) (by rfl) pass0 (pa_cons (pv 3) pa_nil)) (pa_cons (pe_cal c_l_caps (hr.r.mono (by decide)) (by rfl) pass0 (pa_cons (pv 2) (pa_cons (pv 3) pa_nil))) pa_nil)))))))
  (pss_cons (ps_set (i := 6) sc_law.nd rfl (by first | exact Or.inl rfl | exact Or.inr rfl) (pe_make M FI (hr.r.mono (by decide)) (by rfl) FT.g bA .nil passL (pa_cons (pe_ix (ix_tupK (K := K) rfl) (pv 5) pe_int (fun _ _ => rfl)) (pa_cons (pe_ix (ix_tupK (K := K) rfl) (pv 5) pe_int (fun _ _ => rfl)) (pa_cons (pe_ix (ix_tupK (K := K) rfl) (pv 5) pe_int (fun _ _ => rfl)) pa_nil)))))
  (pss_cons (ps_if (pt_not (pt_val (pe_calG c_l_exchanged_well (hr.mono (by decide)) (by rfl) (pa_cons (pv 2) (pa_cons (pv 3) (pa_cons (pv 6) (pa_cons (pv 5) pa_nil)))))))
  (pss_one (ps_ret pe_bl))
  pss_nil)
  (pss_cons (ps_if (PW.pt (pw_and (pt_cmpR op_gt (pe_callB (len_ofK (K := K) rfl) (by rfl) T.n_len (by decide +kernel) (pa_cons (pe_ix (ix_listK (K := K) rfl) (pv 3) pe_int (fun _ _ => rfl)) pa_nil)) pe_int (nomark _)) (pw_and1 (pt_not (pt_val (pe_calG c_l_joined_well (hr.mono (by decide)) (by rfl) (pa_cons (pv 2) (pa_cons (pv 3) (pa_cons (pv 6) (pa_cons (pv 5) pa_nil))))))))))
  (pss_one (ps_ret pe_bl))
  pss_nil)
  (pss_one (ps_if (pt_cmpR op_ne (pe_calG c_l_shown (hr.mono (by decide)) (by rfl) (pa_cons (pv 6) pa_nil)) (pe_callB (reprK (K := K) rfl hr.g hr.r.units) (by rfl) T.n_repr (by decide +kernel) (pa_cons (pe_callTy (list_ofK (K := K) rfl) (by rfl) T.n_list (by decide +kernel) (pa_cons (pv 5) pa_nil)) pa_nil)) (nomark _))
  (pss_one (ps_ret pe_bl))
  pss_nil)))))))))
  (pss_one (ps_ret pe_bl))), ?_⟩
  refine ⟨.ref a, rfl, a, _, rfl, .inl hS, _, _, rfl, _, _, rfl, _, rfl, ?_, ?_, ?_⟩
  · split <;> split <;> omega
  · split <;> split <;> omega
  generalize Int.toNat _ = n
  refine for_range (n := n) (fun i σ H' => Same H H' ∧ ∃ v1 v2 v3 v4 v5 v6, σ = [some (.ref a), v1, v2, v3, v4, v5, v6]) ⟨Same.refl _, none, none, none, none, none, none, rfl⟩ (fun i σ H0 hi pv => ?_) (fun σ H' pv => ?_)
  rotate_left
  · obtain ⟨s5, v1, v2, v3, v4, v5, v6, rfl⟩ := pv
    exact q H'
  obtain ⟨s0, v1, v2, v3, v4, v5, v6, rfl⟩ := pv
  refine ⟨.ref a, rfl, .int (0 + (i : Int)), rfl, a, ns, i, by rw [Int.zero_add], s0.seq hS, .int (0 + (i : Int)), rfl, _, _, rfl, rfl, _, rfl, fun H1 t m s1 nt ht => ?_⟩
  have nt0 := s0.free nt
  have tp1 : Tp H1 t := ⟨m, ht⟩
  have nte : ∀ x (Hx : Hp), Tp Hx t → Hx x = none → x ≠ t := fun x Hx tpx nx z => by obtain ⟨m, e⟩ := tpx; rw [z, e] at nx; cases nx
  -- a table of one sort or the other
  refine ⟨fun σ H5 => ∃ (p : Addr) (ls : List Addr) (tb : List (List Int)), Kp t H1 H5 ∧ TL t H5 p ls tb ∧ ((∃ wd, Tab tb wd) ∨ ∃ a c : Int, tb = [[a, 1000000000000 - a, c]] ∧ 0 ≤ a ∧ a ≤ 1000000000000 ∧ 1 ≤ c) ∧ σ = [some (.ref a), some (.int (0 + (i : Int))), some (.ref t), some (.ref p), v4, v5, v6], ?_, ?_⟩
  · refine ⟨.ref t, rfl, t, rfl, tp1, fun H2 p ls tb wd k2 np TB TT => ⟨.ref t, rfl, t, rfl, k2.2, fun H3 p2 l2 aa c k3 np2 TB2 a0 a1 c0 c1 => ⟨(by show 2 ≤ sizeLine; decide), fun L nL => ?_⟩⟩⟩
    have k13 := k2.trans k3
    have kL := same_upd (o := .lst [V.ref p, .ref p2]) nL
    have Lt : L ≠ t := nte _ H3 k3.2 nL
    have k14 := k13.same kL
    obtain ⟨m4, ht4⟩ := k14.2
    refine ⟨.ref t, rfl, t, m4, 6, rfl, ht4, by decide, by decide, fun d m5 d0 d1 => ⟨rfl, .inr ⟨_, rfl, ?_⟩⟩⟩
    have k15 := k14.tape (n := m5)
    have k35 : Kp t H3 (upd (upd H3 L (.lst [V.ref p, .ref p2])) t (.lst [V.int m5])) := ((Kp.refl k3.2).same kL).tape
    have hL5 : upd (upd H3 L (.lst [V.ref p, .ref p2])) t (.lst [V.int m5]) L = some (.lst [V.ref p, .ref p2]) := (upd_ne Lt).trans upd_same
    by_cases z : d = 5
    · subst z
      rw [decide_eq_true rfl]
      refine ⟨L, _, 1, .ref p2, rfl, rfl, SqL.of hL5, atI_nat (j := 1) rfl, ?_⟩
      exact ⟨p2, [l2], _, k15, TB2.kp k35, .inr ⟨aa, c, rfl, a0, a1, c0⟩, rfl⟩
    · rw [decide_eq_false (fun y => z (V.int.inj y))]
      refine ⟨L, _, 0, .ref p, rfl, rfl, SqL.of hL5, atI_nat (j := 0) rfl, ?_⟩
      exact ⟨p, ls, tb, k15, (TB.kp k3).kp k35, .inl ⟨wd, TT⟩, rfl⟩
  rintro σ H5 ⟨p, ls, tb, k5, TB, kind, rfl⟩
  have hlen := TB.rows.length
  -- the parts
  refine ⟨fun σ H6 => ∃ (p pt : Addr) (ls : List Addr) (tb : List (List Int)) (wd : Nat) (rs cs : List Int) (ms : List (List (Option Int))) (w4 w6 : Option V), Kp t H1 H6 ∧ TL t H6 p ls tb ∧ Pts t H6 pt rs cs ms ∧ Case14 tb wd rs cs ms ∧ σ = [some (.ref a), some (.int (0 + (i : Int))), some (.ref t), some (.ref p), w4, some (.ref pt), w6], ?_, ?_⟩
  · have tb7 : tb.length ≤ 6 := by
      rcases kind with ⟨wd, TT⟩ | ⟨a, c, rfl, _⟩
      · exact TT.h6
      · show 1 ≤ 6
        decide
    refine ⟨.ref p, rfl, p, rfl, ⟨_, SqL.of TB.at_⟩, fun S nS => ?_⟩
    refine lc_list (K := K) (xs := ls.map V.ref) (fun i H' => Same H5 H' ∧ H' S = some (.lst (((tb.take i).map List.sum).map V.int))) ⟨same_upd nS, upd_same⟩ (fun i H' _ p => p.1.seq (SqL.of TB.at_)) (fun i x H' hx pv => ?_) (fun H6 pv => ?_)
    · obtain ⟨k, hk, rfl⟩ := some_get hx
      obtain ⟨r, hr', hk2⟩ := TB.rows.get hk
      refine ⟨rfl, .ref k, rfl, k, r, rfl, SqL.of (pv.1 _ _ hk2), _, pv.2, ?_, fun b o e => ?_, ?_⟩
      · rw [List.length_map, List.length_map, List.length_take]
        exact Nat.lt_of_le_of_lt (Nat.le_trans (Nat.min_le_right _ _) tb7) (by decide)
      · rw [upd_ne (ne_of_none e nS)]; exact pv.1 b o e
      · rw [upd_same, List.take_add_one, hr']; simp
    obtain ⟨s6, hS6⟩ := pv
    rw [List.length_map, hlen, List.take_length] at hS6
    have k6 := k5.same s6
    have TB6 := TB.same s6
    refine ⟨S, tb.map List.sum, rfl, SqL.of hS6, 10, 12, rfl, rfl, cpow12, _, _, rfl, rfl, _, rfl, ?_⟩
    rw [pow12]
    rcases kind with ⟨wd, TT⟩ | ⟨aa, c, rfl, a0, a1, c0⟩
    · -- a drawn one
      have els : ∀ Hx, Same H6 Hx → Kp t H1 Hx → TL t Hx p ls tb := fun Hx sx kx => TB6.same sx
      have w6' := TT.w6
      have goElse : ∀ {R : Prop}, R → R := fun r => r
      have h1 := TT.h1
      have h6 := TT.h6
      have k6' := k6
      by_cases z : (tb.map List.sum).sum > 1000000000000
      · rw [decide_eq_true z]
        refine ⟨.ref p, rfl, p, _, rfl, .inl (SqL.of TB6.at_), rfl, _, rfl, ?_⟩
        have n1 : ¬ tb.length = 1 := fun y => by
          obtain ⟨r, rfl⟩ : ∃ r, tb = [r] := by
            match tb, y with
            | [r], _ => exact ⟨r, rfl⟩
          obtain ⟨x1, x2⟩ := TT.row r List.mem_cons_self
          obtain ⟨_, b⟩ := sum_le (m := 83000000000) r fun n hn => ⟨(x2 n hn).1, Int.le_of_lt (x2 n hn).2⟩
          have e : ([r].map List.sum).sum = r.sum + 0 := rfl
          rw [e] at z
          omega
        rw [decide_eq_false (fun y => n1 (by have := V.int.inj y; rw [List.length_map, hlen] at this; omega))]
        refine ⟨.ref p, rfl, p, ls, tb, rfl, TB6.at_, TB6.rows, by omega, fun H7 ra s7 nra hra => ⟨.ref p, rfl, p, ls, tb, wd, rfl, s7 _ _ TB6.at_, TB6.rows.same s7, h1, by omega, by omega, fun r hr' => (TT.row r hr').1, fun H8 ca s8 nca hca => ?_⟩⟩
        have s78 := s7.trans s8
        have k8 := k6.same s78
        refine ⟨.ref t, rfl, .ref p, rfl, t, p, ls, tb, wd, rfl, k8.2, TB6.same s78, TT, fun H9 D ks ms k9 nD hDt hD rowsC hfr hml hmb hwi => ⟨(by show 3 ≤ sizeLine; decide), fun pt npt => ?_⟩⟩
        have rat : ra ≠ t := nte _ H6 k6.2 nra
        have cat : ca ≠ t := nte _ H7 (k6.same s7).2 nca
        have kp := same_upd (o := .tup [V.ref ra, .ref ca, .ref D]) npt
        have ptt : pt ≠ t := nte _ H9 k9.2 npt
        refine ⟨p, pt, ls, tb, wd, rowSums tb, colSums tb wd, ms, _, _, (k8.trans k9).same kp, ((TB6.same s78).kp k9).same kp, ⟨ra, ca, D, ks, upd_same, kp _ _ (k9.1 _ _ (s8 _ _ hra) rat), kp _ _ (k9.1 _ _ hca cat), kp _ _ hD, rowsC.keep fun b hb o e => kp _ _ e, fun x hx => ?_⟩, case_drawn TT hml hmb hwi, rfl⟩
        rcases List.mem_cons.mp hx with rfl | hx
        · exact ptt
        · rcases List.mem_cons.mp hx with rfl | hx
          · exact rat
          · rcases List.mem_cons.mp hx with rfl | hx
            · exact cat
            · rcases List.mem_cons.mp hx with rfl | hx
              · exact hDt
              · exact (hfr x hx).2.2
      · rw [decide_eq_false z]
        refine ⟨.ref p, rfl, p, ls, tb, rfl, TB6.at_, TB6.rows, by omega, fun H7 ra s7 nra hra => ⟨.ref p, rfl, p, ls, tb, wd, rfl, s7 _ _ TB6.at_, TB6.rows.same s7, h1, by omega, by omega, fun r hr' => (TT.row r hr').1, fun H8 ca s8 nca hca => ?_⟩⟩
        have s78 := s7.trans s8
        have k8 := k6.same s78
        refine ⟨.ref t, rfl, .ref p, rfl, t, p, ls, tb, wd, rfl, k8.2, TB6.same s78, TT, fun H9 D ks ms k9 nD hDt hD rowsC hfr hml hmb hwi => ⟨(by show 3 ≤ sizeLine; decide), fun pt npt => ?_⟩⟩
        have rat : ra ≠ t := nte _ H6 k6.2 nra
        have cat : ca ≠ t := nte _ H7 (k6.same s7).2 nca
        have kp := same_upd (o := .tup [V.ref ra, .ref ca, .ref D]) npt
        have ptt : pt ≠ t := nte _ H9 k9.2 npt
        refine ⟨p, pt, ls, tb, wd, rowSums tb, colSums tb wd, ms, _, _, (k8.trans k9).same kp, ((TB6.same s78).kp k9).same kp, ⟨ra, ca, D, ks, upd_same, kp _ _ (k9.1 _ _ (s8 _ _ hra) rat), kp _ _ (k9.1 _ _ hca cat), kp _ _ hD, rowsC.keep fun b hb o e => kp _ _ e, fun x hx => ?_⟩, case_drawn TT hml hmb hwi, rfl⟩
        rcases List.mem_cons.mp hx with rfl | hx
        · exact ptt
        · rcases List.mem_cons.mp hx with rfl | hx
          · exact rat
          · rcases List.mem_cons.mp hx with rfl | hx
            · exact cat
            · rcases List.mem_cons.mp hx with rfl | hx
              · exact hDt
              · exact (hfr x hx).2.2
    · -- a greatest one
      have z : ([[aa, 1000000000000 - aa, c]].map List.sum).sum > 1000000000000 := by
        show (aa + (1000000000000 - aa + (c + 0))) + 0 > 1000000000000
        omega
      rw [decide_eq_true z]
      obtain ⟨l, rfl⟩ : ∃ l, ls = [l] := by
        match ls, hlen with
        | [l], _ => exact ⟨l, rfl⟩
      obtain ⟨r, hr', hl6⟩ := TB6.rows.get (i := 0) rfl
      obtain rfl : [aa, 1000000000000 - aa, c] = r := Option.some.inj hr'
      refine ⟨.ref p, rfl, p, _, rfl, .inl (SqL.of TB6.at_), rfl, _, rfl, ?_⟩
      have e1 : decide (V.int ((([l] : List Addr).map V.ref).length : Nat) = V.int 1) = true := decide_eq_true rfl
      rw [e1]
      refine ⟨10, 12, rfl, rfl, cpow12, (by show 1 ≤ sizeLine; decide), fun ra nra => ?_⟩
      have j1 := same_upd (o := .lst [V.int ((10 : Int) ^ Int.toNat 12)]) nra
      have rat : ra ≠ t := nte _ H6 k6.2 nra
      refine ⟨.ref p, rfl, p, _, 0, .ref l, rfl, rfl, SqL.of (j1 _ _ TB6.at_), atI_nat (j := 0) rfl, l, _, 0, .int aa, rfl, rfl, SqL.of (j1 _ _ hl6), atI_nat (j := 0) rfl, .ref p, rfl, p, _, 0, .ref l, rfl, rfl, SqL.of (j1 _ _ TB6.at_), atI_nat (j := 0) rfl, l, _, 1, .int (1000000000000 - aa), rfl, rfl, SqL.of (j1 _ _ hl6), atI_nat (j := 1) rfl, (by show 2 ≤ sizeLine; decide), fun ca nca => ?_⟩
      have j2 := same_upd (o := .lst [V.int aa, .int (1000000000000 - aa)]) nca
      have cat : ca ≠ t := nte _ _ (tp_same k6.2 j1) nca
      refine ⟨10, 12, rfl, rfl, cpow12, (by show 2 ≤ sizeLine; decide), fun k nk => ⟨(by show 1 ≤ sizeLine; decide), fun D nD => ⟨(by show 3 ≤ sizeLine; decide), fun pt npt => ?_⟩⟩⟩
      have j3 := same_upd (o := .lst [V.non, .int ((10 : Int) ^ Int.toNat 12)]) nk
      have kt : k ≠ t := nte _ _ (tp_same k6.2 (j1.trans j2)) nk
      have j4 := same_upd (o := .lst [V.ref k]) nD
      have hDt : D ≠ t := nte _ _ (tp_same k6.2 ((j1.trans j2).trans j3)) nD
      have j5 := same_upd (o := .tup [V.ref ra, .ref ca, .ref D]) npt
      have ptt : pt ≠ t := nte _ _ (tp_same k6.2 (((j1.trans j2).trans j3).trans j4)) npt
      have jA := (((j1.trans j2).trans j3).trans j4).trans j5
      have hra := j5 _ _ (j4 _ _ (j3 _ _ (j2 _ _ (upd_same (H := H6) (a := ra) (o := .lst [V.int ((10 : Int) ^ Int.toNat 12)])))))
      have hca := j5 _ _ (j4 _ _ (j3 _ _ (upd_same (H := upd H6 ra (.lst [V.int ((10 : Int) ^ Int.toNat 12)])) (a := ca) (o := .lst [V.int aa, .int (1000000000000 - aa)]))))
      have hk := j5 _ _ (j4 _ _ (upd_same (H := upd (upd H6 ra (.lst [V.int ((10 : Int) ^ Int.toNat 12)])) ca (.lst [V.int aa, .int (1000000000000 - aa)])) (a := k) (o := .lst [V.non, .int ((10 : Int) ^ Int.toNat 12)])))
      have hD := j5 _ _ (upd_same (H := upd (upd (upd H6 ra (.lst [V.int ((10 : Int) ^ Int.toNat 12)])) ca (.lst [V.int aa, .int (1000000000000 - aa)])) k (.lst [V.non, .int ((10 : Int) ^ Int.toNat 12)])) (a := D) (o := .lst [V.ref k]))
      have hpt : upd (upd (upd (upd (upd H6 ra (.lst [V.int ((10 : Int) ^ Int.toNat 12)])) ca (.lst [V.int aa, .int (1000000000000 - aa)])) k (.lst [V.non, .int ((10 : Int) ^ Int.toNat 12)])) D (.lst [V.ref k])) pt (.tup [V.ref ra, .ref ca, .ref D]) pt = some (.tup [V.ref ra, .ref ca, .ref D]) := upd_same
      generalize upd (upd (upd (upd (upd H6 ra (.lst [V.int ((10 : Int) ^ Int.toNat 12)])) ca (.lst [V.int aa, .int (1000000000000 - aa)])) k (.lst [V.non, .int ((10 : Int) ^ Int.toNat 12)])) D (.lst [V.ref k])) pt (.tup [V.ref ra, .ref ca, .ref D]) = H7 at jA hra hca hk hD hpt ⊢
      rw [pow12] at hra hk
      refine ⟨.ref p, rfl, p, _, 0, .ref l, rfl, rfl, SqL.of (jA _ _ TB6.at_), atI_nat (j := 0) rfl, 2, rfl, l, _, rfl, SqL.of (jA _ _ hl6), fun x nx => ⟨(by show 1 ≤ sizeLine; decide), fun y ny => ?_⟩⟩
      have ecut : cutV ([aa, 1000000000000 - aa, c].map V.int) none (some 2) = ([aa, 1000000000000 - aa] : List Int).map V.int := cut_to ([aa, 1000000000000 - aa, c].map V.int) 2
      rw [ecut] at ny ⊢
      have i1 := same_upd (o := .lst (([aa, 1000000000000 - aa] : List Int).map V.int)) nx
      have i2 := same_upd (o := .lst [V.ref x]) ny
      have tp7 := tp_same k6.2 jA
      have xt : x ≠ t := nte _ _ tp7 nx
      have yt : y ≠ t := nte _ _ (tp_same tp7 i1) ny
      have iA := i1.trans i2
      refine ⟨y, pt, [x], [[aa, 1000000000000 - aa]], 2, [1000000000000], [aa, 1000000000000 - aa], [[none, some 1000000000000]], _, _, (k6.same jA).same iA, ⟨upd_same, .cons (i2 _ _ upd_same) .nil, yt, fun z hz => ?_⟩, ⟨ra, ca, D, [k], iA _ _ hpt, iA _ _ hra, iA _ _ hca, iA _ _ hD, .cons (iA _ _ hk) .nil, fun z hz => ?_⟩, case_great a0 a1, rfl⟩
      · obtain rfl : z = x := by simpa using hz
        exact xt
      · rcases List.mem_cons.mp hz with rfl | hz
        · exact ptt
        · rcases List.mem_cons.mp hz with rfl | hz
          · exact rat
          · rcases List.mem_cons.mp hz with rfl | hz
            · exact cat
            · rcases List.mem_cons.mp hz with rfl | hz
              · exact hDt
              · obtain rfl : z = k := by simpa using hz
                exact kt
  rintro σ H6 ⟨p, pt, ls, tb, wd, rs, cs, ms, w4, w6, k6, TB, PT, CS, rfl⟩
  obtain ⟨ra, ca, D, ks, p1, p2, p3, p4, p5, p6⟩ := PT.ex
  -- the frame
  refine ⟨.ref pt, rfl, pt, _, 0, .ref ra, rfl, rfl, SqT.of p1, atI_nat (j := 0) rfl, .ref pt, rfl, pt, _, 1, .ref ca, rfl, rfl, SqT.of p1, atI_nat (j := 1) rfl, .ref pt, rfl, pt, _, 2, .ref D, rfl, rfl, SqT.of p1, atI_nat (j := 2) rfl, fun x dx nx ndx ne => ?_⟩
  have dr := CS.dr
  obtain ⟨md, Rm, okm, ofm⟩ := rp_some (K := K) (.inl p4) p5.v dr.ml dr.mb
  refine init_use dr (.inl rfl) (.inl rfl) p2 p3 Rm okm ofm nx ndx ne fun H7 s7 FA => ⟨rfl, ?_⟩
  have k7 := k6.same s7
  refine ⟨.ref t, rfl, .ref p, rfl, .ref x, rfl, .ref pt, rfl, t, p, x, pt, ls, tb, wd, rs, cs, ms, rfl, k7.2, TB.same s7, FA, PT.same s7, CS, fun H8 k8 => ⟨true, rfl, ?_⟩⟩
  have TB8 := (TB.same s7).kp k8
  have FA8 := FA.kp k7.2 k8
  have PT8 := (PT.same s7).kp k8
  have k18 := k7.trans k8
  have hlen := TB8.rows.length
  have h1 := CS.h1
  have hl0 : 0 < ls.length := by omega
  obtain ⟨r0, hr0, hk0⟩ := TB8.rows.get (List.getElem?_eq_getElem hl0)
  have r0l := (CS.row r0 (List.mem_of_getElem? hr0)).1
  have hrl := CS.rl
  have hcl := CS.cl
  obtain ⟨z1, z2, z3, z4⟩ := due_show dr
  have fin : ∀ H9, Kp t H8 H9 → ∃ x_1, (some (V.ref x) : Option V) = some x_1 := fun _ _ => ⟨_, rfl⟩
  refine ⟨.ref p, rfl, p, _, 0, .ref ls[0], rfl, rfl, SqL.of TB8.at_, atI_nat (j := 0) (by rw [List.getElem?_map, List.getElem?_eq_getElem hl0]; rfl), ls[0], _, rfl, .inl (SqL.of hk0), _, _, rfl, rfl, _, rfl, ?_⟩
  have last : ∀ H9, Kp t H8 H9 → FrameAt K CF H9 x rs cs ms ∧ Pts t H9 pt rs cs ms ∧ Kp t H1 H9 := fun H9 k9 => ⟨FA8.kp k8.2 k9, PT8.kp k9, k18.trans k9⟩
  have endd : ∀ H9 (w4 : Option V), Kp t H1 H9 → Same H H9 ∧ ∃ v1 v2 v3 v4 v5 v6, ([some (.ref a), some (.int (0 + (i : Int))), some (.ref t), some (.ref p), w4, some (.ref pt), some (.ref x)] : L2.St) = [some (.ref a), v1, v2, v3, v4, v5, v6] := fun H9 w4 k9 => ⟨fun b o e => k9.1 _ _ (s1 _ _ (s0 _ _ e)) (ne_of_none e nt0), _, _, _, _, _, _, rfl⟩
  by_cases z : ((r0.map V.int).length : Int) > 1
  · rw [decide_eq_true z]
    rw [List.length_map, r0l] at z
    refine ⟨.ref t, rfl, .ref p, rfl, .ref x, rfl, .ref pt, rfl, t, p, x, pt, ls, tb, wd, rs, cs, ms, rfl, k8.2, TB8, FA8, PT8, CS, by omega, fun H9 k9 => ⟨true, rfl, ?_⟩⟩
    obtain ⟨FA9, PT9, k19⟩ := last H9 k9
    refine ⟨.ref x, rfl, x, rs, cs, ms, rfl, FA9, dr, fun H10 s10 => ?_⟩
    obtain ⟨ra', ca', D', ks', p1', p2', p3', p4', p5', p6'⟩ := (PT9.same s10).ex
    refine ⟨.ref pt, rfl, pt, _, rfl, .inr (SqT.of p1'), fun Lp nLp => ?_⟩
    have e26 := same_upd (o := .lst [V.ref ra', .ref ca', .ref D']) nLp
    have DA : DueAt (upd H10 Lp (.lst [V.ref ra', .ref ca', .ref D'])) Lp rs cs ms [] := ⟨ra', ca', D', ks', upd_same, e26 _ _ p2', e26 _ _ p3', e26 _ _ p4', p5'.keep fun _ _ o e => e26 _ _ e, fun _ _ z => nomatch z⟩
    refine ⟨.ref Lp, dueD rs cs ms, rfl, dp_due DA, z1, z2, z3, z4, rfl, _, rfl, iteNS rfl ?_⟩
    exact endd _ _ ((k19.same s10).same e26)
  · rw [decide_eq_false z]
    obtain ⟨FA9, PT9, k19⟩ := last H8 (Kp.refl k8.2)
    refine ⟨.ref x, rfl, x, rs, cs, ms, rfl, FA9, dr, fun H10 s10 => ?_⟩
    obtain ⟨ra', ca', D', ks', p1', p2', p3', p4', p5', p6'⟩ := (PT9.same s10).ex
    refine ⟨.ref pt, rfl, pt, _, rfl, .inr (SqT.of p1'), fun Lp nLp => ?_⟩
    have e26 := same_upd (o := .lst [V.ref ra', .ref ca', .ref D']) nLp
    have DA : DueAt (upd H10 Lp (.lst [V.ref ra', .ref ca', .ref D'])) Lp rs cs ms [] := ⟨ra', ca', D', ks', upd_same, e26 _ _ p2', e26 _ _ p3', e26 _ _ p4', p5'.keep fun _ _ o e => e26 _ _ e, fun _ _ z => nomatch z⟩
    refine ⟨.ref Lp, dueD rs cs ms, rfl, dp_due DA, z1, z2, z3, z4, rfl, _, rfl, iteNS rfl ?_⟩
    exact endd _ _ ((k19.same s10).same e26)
end
end Kp14
set_option Elab.async false
set_option linter.all false
set_option maxRecDepth 100000
set_option maxHeartbeats 4000000
namespace Kp14
open PySem PySem.Spec PyProof.Rows L2 Vf
/-! ### what the top has written -/
structure ExcK (K : PySem.W.Frag) (nm : Str) (C TE : Addr) : Prop where
  g : PySem.W.nsIn K mainGlobals nm = some (some (.ref C))
  x : PySem.W.excIn K C veMro "ValueError.__new__" = true
  k : PySem.W.keepIn K (.ref C) = true
  t : PySem.W.typeIn K (.ref C) = some (.type "type")
  hg : PySem.W.findIn K (.ref C) "__getattribute__" = some (some (.builtin "BaseException.__getattribute__"))
  hk : PySem.W.findIn K (.ref C) "__getattr__" = some none
  hs : PySem.W.subIn K (.ref C) (.type "BaseException") = some true
  hd : PySem.W.hasDictIn K C = true
  ha : PySem.W.findIn K (.ref C) "__class__" = some (some (.builtin "object.__class__"))
  hm : PySem.W.mroIn K C (.type "object") = some true
  m : ∃ cd, PySem.W.clsIn K C = some cd ∧ cd.mro = .ref C :: .ref TE :: veMro
theorem ExcK.f {K : PySem.W.Frag} {nm : Str} {C TE : Addr} {h : Heap} {mg : Str → Option Value} (E : ExcK K nm C TE) (X : K.In h) (G : h.Ns mainGlobals mg) (hn : PySem.W.specialIn K (.builtin "object.__class__") "__get__" = some (some (.builtin "getset_descriptor.__get__")))
    (ht : PySem.W.takesIn K (.builtin "object.__class__") = some true) : ExcF K mg nm C TE := ⟨PySem.W.mg_of X G E.g, E.x, E.k, E.t, ⟨E.hg, E.hk, E.hs, E.hd, E.ha, hn, ht, E.hm⟩, E.m⟩
structure FrK (K : PySem.W.Frag) (CF : Addr) : Prop where
  g : PySem.W.nsIn K mainGlobals "Frame" = some (some (.ref CF))
  pg : PySem.W.plainGet K CF Str.empty = true
  hd : PySem.W.hasDictIn K CF = true
  po : PySem.W.plainOver K CF = true
  sa : PySem.W.findIn K (.ref CF) "__setattr__" = some (some (.builtin "object.__setattr__"))
  nr : PySem.W.findIn K (.ref CF) "row_sums" = some none
  nc : PySem.W.findIn K (.ref CF) "column_sums" = some none
  nk : PySem.W.findIn K (.ref CF) "cell_caps" = some none

theorem all_mk {l : PySem.W.OpenLaw} {w : World} {K : PySem.W.Frag} {h : Heap} {mg : Str → Option Value} {fa CF fI T0 : Addr} {q0 q1 q2 q3 q4 q10 q17 : Addr} (X : K.In h) (G : h.Ns mainGlobals mg) (hfa : mg "law" = some (.ref fa)) (hG : ∃ t, mg "GREATEST" = some (.int 1000000000000 t)) {tL : Tok}
    {od0 an0 : Option Addr} {sl0 : Array (Option Value)} {oc0 kV0 dc0 pm0 cd0 ct0 : Value} {f0 : Addr}
    {od1 an1 : Option Addr} {sl1 : Array (Option Value)} {oc1 kV1 dc1 pm1 cd1 ct1 : Value} {f1 : Addr}
    {od2 an2 : Option Addr} {sl2 : Array (Option Value)} {oc2 kV2 dc2 pm2 cd2 ct2 : Value} {f2 : Addr}
    {od3 an3 : Option Addr} {sl3 : Array (Option Value)} {oc3 kV3 dc3 pm3 cd3 ct3 : Value} {f3 : Addr}
    {od4 an4 : Option Addr} {sl4 : Array (Option Value)} {oc4 kV4 dc4 pm4 cd4 ct4 : Value} {f4 : Addr}
    {od5 an5 : Option Addr} {sl5 : Array (Option Value)} {oc5 kV5 dc5 pm5 cd5 ct5 : Value} {f5 : Addr}
    {od6 an6 : Option Addr} {sl6 : Array (Option Value)} {oc6 kV6 dc6 pm6 cd6 ct6 : Value} {f6 : Addr}
    {od7 an7 : Option Addr} {sl7 : Array (Option Value)} {oc7 kV7 dc7 pm7 cd7 ct7 : Value} {f7 : Addr}
    {od8 an8 : Option Addr} {sl8 : Array (Option Value)} {oc8 kV8 dc8 pm8 cd8 ct8 : Value} {f8 : Addr}
    {od9 an9 : Option Addr} {sl9 : Array (Option Value)} {oc9 kV9 dc9 pm9 cd9 ct9 : Value} {f9 : Addr}
    {od10 an10 : Option Addr} {sl10 : Array (Option Value)} {oc10 kV10 dc10 pm10 cd10 ct10 : Value} {f10 : Addr}
    {od11 an11 : Option Addr} {sl11 : Array (Option Value)} {oc11 kV11 dc11 pm11 cd11 ct11 : Value} {f11 : Addr}
    {od12 an12 : Option Addr} {sl12 : Array (Option Value)} {oc12 kV12 dc12 pm12 cd12 ct12 : Value} {f12 : Addr}
    {od13 an13 : Option Addr} {sl13 : Array (Option Value)} {oc13 kV13 dc13 pm13 cd13 ct13 : Value} {f13 : Addr}
    {od14 an14 : Option Addr} {sl14 : Array (Option Value)} {oc14 kV14 dc14 pm14 cd14 ct14 : Value} {f14 : Addr}
    {od15 an15 : Option Addr} {sl15 : Array (Option Value)} {oc15 kV15 dc15 pm15 cd15 ct15 : Value} {f15 : Addr}
    {od16 an16 : Option Addr} {sl16 : Array (Option Value)} {oc16 kV16 dc16 pm16 cd16 ct16 : Value} {f16 : Addr}
    {od17 an17 : Option Addr} {sl17 : Array (Option Value)} {oc17 kV17 dc17 pm17 cd17 ct17 : Value} {f17 : Addr}
    {od18 an18 : Option Addr} {sl18 : Array (Option Value)} {oc18 kV18 dc18 pm18 cd18 ct18 : Value} {f18 : Addr}
    {od19 an19 : Option Addr} {sl19 : Array (Option Value)} {oc19 kV19 dc19 pm19 cd19 ct19 : Value} {f19 : Addr}
    {od20 an20 : Option Addr} {sl20 : Array (Option Value)} {oc20 kV20 dc20 pm20 cd20 ct20 : Value} {f20 : Addr}
    {od21 an21 : Option Addr} {sl21 : Array (Option Value)} {oc21 kV21 dc21 pm21 cd21 ct21 : Value} {f21 : Addr}
    {od22 an22 : Option Addr} {sl22 : Array (Option Value)} {oc22 kV22 dc22 pm22 cd22 ct22 : Value} {f22 : Addr}
    {od23 an23 : Option Addr} {sl23 : Array (Option Value)} {oc23 kV23 dc23 pm23 cd23 ct23 : Value} {f23 : Addr}
    {od24 an24 : Option Addr} {sl24 : Array (Option Value)} {oc24 kV24 dc24 pm24 cd24 ct24 : Value} {f24 : Addr}
    {od25 an25 : Option Addr} {sl25 : Array (Option Value)} {oc25 kV25 dc25 pm25 cd25 ct25 : Value} {f25 : Addr}
    {od26 an26 : Option Addr} {sl26 : Array (Option Value)} {oc26 kV26 dc26 pm26 cd26 ct26 : Value} {f26 : Addr}
    {od27 an27 : Option Addr} {sl27 : Array (Option Value)} {oc27 kV27 dc27 pm27 cd27 ct27 : Value} {f27 : Addr}
    {od28 an28 : Option Addr} {sl28 : Array (Option Value)} {oc28 kV28 dc28 pm28 cd28 ct28 : Value} {f28 : Addr}
    {od29 an29 : Option Addr} {sl29 : Array (Option Value)} {oc29 kV29 dc29 pm29 cd29 ct29 : Value} {f29 : Addr}
    {od30 an30 : Option Addr} {sl30 : Array (Option Value)} {oc30 kV30 dc30 pm30 cd30 ct30 : Value} {f30 : Addr}
    {od31 an31 : Option Addr} {sl31 : Array (Option Value)} {oc31 kV31 dc31 pm31 cd31 ct31 : Value} {f31 : Addr}
    {od32 an32 : Option Addr} {sl32 : Array (Option Value)} {oc32 kV32 dc32 pm32 cd32 ct32 : Value} {f32 : Addr}
    {od33 an33 : Option Addr} {sl33 : Array (Option Value)} {oc33 kV33 dc33 pm33 cd33 ct33 : Value} {f33 : Addr}
    {od34 an34 : Option Addr} {sl34 : Array (Option Value)} {oc34 kV34 dc34 pm34 cd34 ct34 : Value} {f34 : Addr}
    {od35 an35 : Option Addr} {sl35 : Array (Option Value)} {oc35 kV35 dc35 pm35 cd35 ct35 : Value} {f35 : Addr}
    {od36 an36 : Option Addr} {sl36 : Array (Option Value)} {oc36 kV36 dc36 pm36 cd36 ct36 : Value} {f36 : Addr}
    {od37 an37 : Option Addr} {sl37 : Array (Option Value)} {oc37 kV37 dc37 pm37 cd37 ct37 : Value} {f37 : Addr}
    {od38 an38 : Option Addr} {sl38 : Array (Option Value)} {oc38 kV38 dc38 pm38 cd38 ct38 : Value} {f38 : Addr}
    {od39 an39 : Option Addr} {sl39 : Array (Option Value)} {oc39 kV39 dc39 pm39 cd39 ct39 : Value} {f39 : Addr}
    {od40 an40 : Option Addr} {sl40 : Array (Option Value)} {oc40 kV40 dc40 pm40 cd40 ct40 : Value} {f40 : Addr}
    {od41 an41 : Option Addr} {sl41 : Array (Option Value)} {oc41 kV41 dc41 pm41 cd41 ct41 : Value} {f41 : Addr}
    {od42 an42 : Option Addr} {sl42 : Array (Option Value)} {oc42 kV42 dc42 pm42 cd42 ct42 : Value} {f42 : Addr}
    {od43 an43 : Option Addr} {sl43 : Array (Option Value)} {oc43 kV43 dc43 pm43 cd43 ct43 : Value} {f43 : Addr}
    {od44 an44 : Option Addr} {sl44 : Array (Option Value)} {oc44 kV44 dc44 pm44 cd44 ct44 : Value} {f44 : Addr}
    {od45 an45 : Option Addr} {sl45 : Array (Option Value)} {oc45 kV45 dc45 pm45 cd45 ct45 : Value} {f45 : Addr}
    {od46 an46 : Option Addr} {sl46 : Array (Option Value)} {oc46 kV46 dc46 pm46 cd46 ct46 : Value} {f46 : Addr}
    {od47 an47 : Option Addr} {sl47 : Array (Option Value)} {oc47 kV47 dc47 pm47 cd47 ct47 : Value} {f47 : Addr}
    {od48 an48 : Option Addr} {sl48 : Array (Option Value)} {oc48 kV48 dc48 pm48 cd48 ct48 : Value} {f48 : Addr}
    {odI anI : Option Addr} {slI : Array (Option Value)} {ocI kVI dcI pmI cdI ctI : Value} {n0 : Nat} {o0 : Obj}
    {odM0 anM0 : Option Addr} {slM0 : Array (Option Value)} {ocM0 kVM0 dcM0 pmM0 cdM0 ctM0 : Value} {fM0 : Addr}
    {odM1 anM1 : Option Addr} {slM1 : Array (Option Value)} {ocM1 kVM1 dcM1 pmM1 cdM1 ctM1 : Value} {fM1 : Addr}
    {odM2 anM2 : Option Addr} {slM2 : Array (Option Value)} {ocM2 kVM2 dcM2 pmM2 cdM2 ctM2 : Value} {fM2 : Addr}
    (a0 : PySem.W.nsIn K mainGlobals "is_whole" = some (some (.ref f0))) (l0 : K.lookup f0 = some ⟨oc0, od0, .func (PySem.W.fnOf "is_whole" "is_whole" (defArgs s_is_whole) (defBody s_is_whole) (defScope s_is_whole) .none kV0 dc0 pm0 an0 cd0 ct0), sl0⟩) (c0 : PySem.W.codeIn K cd0 "is_whole" = true) (k0 : PySem.W.keepIn K (.ref f0) = true)
    (a1 : PySem.W.nsIn K mainGlobals "is_count" = some (some (.ref f1))) (l1 : K.lookup f1 = some ⟨oc1, od1, .func (PySem.W.fnOf "is_count" "is_count" (defArgs s_is_count) (defBody s_is_count) (defScope s_is_count) .none kV1 dc1 pm1 an1 cd1 ct1), sl1⟩) (c1 : PySem.W.codeIn K cd1 "is_count" = true) (k1 : PySem.W.keepIn K (.ref f1) = true)
    (a2 : PySem.W.nsIn K mainGlobals "is_list" = some (some (.ref f2))) (l2 : K.lookup f2 = some ⟨oc2, od2, .func (PySem.W.fnOf "is_list" "is_list" (defArgs s_is_list) (defBody s_is_list) (defScope s_is_list) .none kV2 dc2 pm2 an2 cd2 ct2), sl2⟩) (c2 : PySem.W.codeIn K cd2 "is_list" = true) (k2 : PySem.W.keepIn K (.ref f2) = true)
    (a3 : PySem.W.nsIn K mainGlobals "is_short_list" = some (some (.ref f3))) (l3 : K.lookup f3 = some ⟨oc3, od3, .func (PySem.W.fnOf "is_short_list" "is_short_list" (defArgs s_is_short_list) (defBody s_is_short_list) (defScope s_is_short_list) .none kV3 dc3 pm3 an3 cd3 ct3), sl3⟩) (c3 : PySem.W.codeIn K cd3 "is_short_list" = true) (k3 : PySem.W.keepIn K (.ref f3) = true)
    (a4 : PySem.W.nsIn K mainGlobals "are_counts" = some (some (.ref f4))) (l4 : K.lookup f4 = some ⟨oc4, od4, .func (PySem.W.fnOf "are_counts" "are_counts" (defArgs s_are_counts) (defBody s_are_counts) (defScope s_are_counts) .none kV4 dc4 pm4 an4 cd4 ct4), sl4⟩) (c4 : PySem.W.codeIn K cd4 "are_counts" = true) (k4 : PySem.W.keepIn K (.ref f4) = true)
    (a5 : PySem.W.nsIn K mainGlobals "wanted_sums" = some (some (.ref f5))) (l5 : K.lookup f5 = some ⟨oc5, od5, .func (PySem.W.fnOf "wanted_sums" "wanted_sums" (defArgs s_wanted_sums) (defBody s_wanted_sums) (defScope s_wanted_sums) .none kV5 dc5 pm5 an5 cd5 ct5), sl5⟩) (c5 : PySem.W.codeIn K cd5 "wanted_sums" = true) (k5 : PySem.W.keepIn K (.ref f5) = true)
    (a6 : PySem.W.nsIn K mainGlobals "is_cap" = some (some (.ref f6))) (l6 : K.lookup f6 = some ⟨oc6, od6, .func (PySem.W.fnOf "is_cap" "is_cap" (defArgs s_is_cap) (defBody s_is_cap) (defScope s_is_cap) .none kV6 dc6 pm6 an6 cd6 ct6), sl6⟩) (c6 : PySem.W.codeIn K cd6 "is_cap" = true) (k6 : PySem.W.keepIn K (.ref f6) = true)
    (a7 : PySem.W.nsIn K mainGlobals "are_rows" = some (some (.ref f7))) (l7 : K.lookup f7 = some ⟨oc7, od7, .func (PySem.W.fnOf "are_rows" "are_rows" (defArgs s_are_rows) (defBody s_are_rows) (defScope s_are_rows) .none kV7 dc7 pm7 an7 cd7 ct7), sl7⟩) (c7 : PySem.W.codeIn K cd7 "are_rows" = true) (k7 : PySem.W.keepIn K (.ref f7) = true)
    (a8 : PySem.W.nsIn K mainGlobals "wanted_caps" = some (some (.ref f8))) (l8 : K.lookup f8 = some ⟨oc8, od8, .func (PySem.W.fnOf "wanted_caps" "wanted_caps" (defArgs s_wanted_caps) (defBody s_wanted_caps) (defScope s_wanted_caps) .none kV8 dc8 pm8 an8 cd8 ct8), sl8⟩) (c8 : PySem.W.codeIn K cd8 "wanted_caps" = true) (k8 : PySem.W.keepIn K (.ref f8) = true)
    (a9 : PySem.W.nsIn K mainGlobals "has_table_form" = some (some (.ref f9))) (l9 : K.lookup f9 = some ⟨oc9, od9, .func (PySem.W.fnOf "has_table_form" "has_table_form" (defArgs s_has_table_form) (defBody s_has_table_form) (defScope s_has_table_form) .none kV9 dc9 pm9 an9 cd9 ct9), sl9⟩) (c9 : PySem.W.codeIn K cd9 "has_table_form" = true) (k9 : PySem.W.keepIn K (.ref f9) = true)
    (a10 : PySem.W.nsIn K mainGlobals "wanted_table" = some (some (.ref f10))) (l10 : K.lookup f10 = some ⟨oc10, od10, .func (PySem.W.fnOf "wanted_table" "wanted_table" (defArgs s_wanted_table) (defBody s_wanted_table) (defScope s_wanted_table) .none kV10 dc10 pm10 an10 cd10 ct10), sl10⟩) (c10 : PySem.W.codeIn K cd10 "wanted_table" = true) (k10 : PySem.W.keepIn K (.ref f10) = true)
    (a11 : PySem.W.nsIn K mainGlobals "table_sums" = some (some (.ref f11))) (l11 : K.lookup f11 = some ⟨oc11, od11, .func (PySem.W.fnOf "table_sums" "table_sums" (defArgs s_table_sums) (defBody s_table_sums) (defScope s_table_sums) .none kV11 dc11 pm11 an11 cd11 ct11), sl11⟩) (c11 : PySem.W.codeIn K cd11 "table_sums" = true) (k11 : PySem.W.keepIn K (.ref f11) = true)
    (a12 : PySem.W.nsIn K mainGlobals "is_within" = some (some (.ref f12))) (l12 : K.lookup f12 = some ⟨oc12, od12, .func (PySem.W.fnOf "is_within" "is_within" (defArgs s_is_within) (defBody s_is_within) (defScope s_is_within) .none kV12 dc12 pm12 an12 cd12 ct12), sl12⟩) (c12 : PySem.W.codeIn K cd12 "is_within" = true) (k12 : PySem.W.keepIn K (.ref f12) = true)
    (a13 : PySem.W.nsIn K mainGlobals "is_table" = some (some (.ref f13))) (l13 : K.lookup f13 = some ⟨oc13, od13, .func (PySem.W.fnOf "is_table" "is_table" (defArgs s_is_table) (defBody s_is_table) (defScope s_is_table) .none kV13 dc13 pm13 an13 cd13 ct13), sl13⟩) (c13 : PySem.W.codeIn K cd13 "is_table" = true) (k13 : PySem.W.keepIn K (.ref f13) = true)
    (a14 : PySem.W.nsIn K mainGlobals "is_place" = some (some (.ref f14))) (l14 : K.lookup f14 = some ⟨oc14, od14, .func (PySem.W.fnOf "is_place" "is_place" (defArgs s_is_place) (defBody s_is_place) (defScope s_is_place) .none kV14 dc14 pm14 an14 cd14 ct14), sl14⟩) (c14 : PySem.W.codeIn K cd14 "is_place" = true) (k14 : PySem.W.keepIn K (.ref f14) = true)
    (a15 : PySem.W.nsIn K mainGlobals "are_unlike_places" = some (some (.ref f15))) (l15 : K.lookup f15 = some ⟨oc15, od15, .func (PySem.W.fnOf "are_unlike_places" "are_unlike_places" (defArgs s_are_unlike_places) (defBody s_are_unlike_places) (defScope s_are_unlike_places) .none kV15 dc15 pm15 an15 cd15 ct15), sl15⟩) (c15 : PySem.W.codeIn K cd15 "are_unlike_places" = true) (k15 : PySem.W.keepIn K (.ref f15) = true)
    (a16 : PySem.W.nsIn K mainGlobals "wanted_order" = some (some (.ref f16))) (l16 : K.lookup f16 = some ⟨oc16, od16, .func (PySem.W.fnOf "wanted_order" "wanted_order" (defArgs s_wanted_order) (defBody s_wanted_order) (defScope s_wanted_order) .none kV16 dc16 pm16 an16 cd16 ct16), sl16⟩) (c16 : PySem.W.codeIn K cd16 "wanted_order" = true) (k16 : PySem.W.keepIn K (.ref f16) = true)
    (a17 : PySem.W.nsIn K mainGlobals "exchanged_rows" = some (some (.ref f17))) (l17 : K.lookup f17 = some ⟨oc17, od17, .func (PySem.W.fnOf "exchanged_rows" "exchanged_rows" (defArgs s_exchanged_rows) (defBody s_exchanged_rows) (defScope s_exchanged_rows) .none kV17 dc17 pm17 an17 cd17 ct17), sl17⟩) (c17 : PySem.W.codeIn K cd17 "exchanged_rows" = true) (k17 : PySem.W.keepIn K (.ref f17) = true)
    (a18 : PySem.W.nsIn K mainGlobals "exchanged_frame" = some (some (.ref f18))) (l18 : K.lookup f18 = some ⟨oc18, od18, .func (PySem.W.fnOf "exchanged_frame" "exchanged_frame" (defArgs s_exchanged_frame) (defBody s_exchanged_frame) (defScope s_exchanged_frame) .none kV18 dc18 pm18 an18 cd18 ct18), sl18⟩) (c18 : PySem.W.codeIn K cd18 "exchanged_frame" = true) (k18 : PySem.W.keepIn K (.ref f18) = true)
    (a19 : PySem.W.nsIn K mainGlobals "exchanged_table" = some (some (.ref f19))) (l19 : K.lookup f19 = some ⟨oc19, od19, .func (PySem.W.fnOf "exchanged_table" "exchanged_table" (defArgs s_exchanged_table) (defBody s_exchanged_table) (defScope s_exchanged_table) .none kV19 dc19 pm19 an19 cd19 ct19), sl19⟩) (c19 : PySem.W.codeIn K cd19 "exchanged_table" = true) (k19 : PySem.W.keepIn K (.ref f19) = true)
    (a20 : PySem.W.nsIn K mainGlobals "wanted_columns" = some (some (.ref f20))) (l20 : K.lookup f20 = some ⟨oc20, od20, .func (PySem.W.fnOf "wanted_columns" "wanted_columns" (defArgs s_wanted_columns) (defBody s_wanted_columns) (defScope s_wanted_columns) .none kV20 dc20 pm20 an20 cd20 ct20), sl20⟩) (c20 : PySem.W.codeIn K cd20 "wanted_columns" = true) (k20 : PySem.W.keepIn K (.ref f20) = true)
    (a21 : PySem.W.nsIn K mainGlobals "put_together" = some (some (.ref f21))) (l21 : K.lookup f21 = some ⟨oc21, od21, .func (PySem.W.fnOf "put_together" "put_together" (defArgs s_put_together) (defBody s_put_together) (defScope s_put_together) .none kV21 dc21 pm21 an21 cd21 ct21), sl21⟩) (c21 : PySem.W.codeIn K cd21 "put_together" = true) (k21 : PySem.W.keepIn K (.ref f21) = true)
    (a22 : PySem.W.nsIn K mainGlobals "joined_counts" = some (some (.ref f22))) (l22 : K.lookup f22 = some ⟨oc22, od22, .func (PySem.W.fnOf "joined_counts" "joined_counts" (defArgs s_joined_counts) (defBody s_joined_counts) (defScope s_joined_counts) .none kV22 dc22 pm22 an22 cd22 ct22), sl22⟩) (c22 : PySem.W.codeIn K cd22 "joined_counts" = true) (k22 : PySem.W.keepIn K (.ref f22) = true)
    (a23 : PySem.W.nsIn K mainGlobals "joined_cap" = some (some (.ref f23))) (l23 : K.lookup f23 = some ⟨oc23, od23, .func (PySem.W.fnOf "joined_cap" "joined_cap" (defArgs s_joined_cap) (defBody s_joined_cap) (defScope s_joined_cap) .none kV23 dc23 pm23 an23 cd23 ct23), sl23⟩) (c23 : PySem.W.codeIn K cd23 "joined_cap" = true) (k23 : PySem.W.keepIn K (.ref f23) = true)
    (a24 : PySem.W.nsIn K mainGlobals "joined_caps" = some (some (.ref f24))) (l24 : K.lookup f24 = some ⟨oc24, od24, .func (PySem.W.fnOf "joined_caps" "joined_caps" (defArgs s_joined_caps) (defBody s_joined_caps) (defScope s_joined_caps) .none kV24 dc24 pm24 an24 cd24 ct24), sl24⟩) (c24 : PySem.W.codeIn K cd24 "joined_caps" = true) (k24 : PySem.W.keepIn K (.ref f24) = true)
    (a25 : PySem.W.nsIn K mainGlobals "joined_frame" = some (some (.ref f25))) (l25 : K.lookup f25 = some ⟨oc25, od25, .func (PySem.W.fnOf "joined_frame" "joined_frame" (defArgs s_joined_frame) (defBody s_joined_frame) (defScope s_joined_frame) .none kV25 dc25 pm25 an25 cd25 ct25), sl25⟩) (c25 : PySem.W.codeIn K cd25 "joined_frame" = true) (k25 : PySem.W.keepIn K (.ref f25) = true)
    (a26 : PySem.W.nsIn K mainGlobals "joined_table" = some (some (.ref f26))) (l26 : K.lookup f26 = some ⟨oc26, od26, .func (PySem.W.fnOf "joined_table" "joined_table" (defArgs s_joined_table) (defBody s_joined_table) (defScope s_joined_table) .none kV26 dc26 pm26 an26 cd26 ct26), sl26⟩) (c26 : PySem.W.codeIn K cd26 "joined_table" = true) (k26 : PySem.W.keepIn K (.ref f26) = true)
    (a27 : PySem.W.nsIn K mainGlobals "_law_cell_at" = some (some (.ref f27))) (l27 : K.lookup f27 = some ⟨oc27, od27, .func (PySem.W.fnOf "_law_cell_at" "_law_cell_at" (defArgs s_l_cell_at) (defBody s_l_cell_at) (defScope s_l_cell_at) .none kV27 dc27 pm27 an27 cd27 ct27), sl27⟩) (c27 : PySem.W.codeIn K cd27 "_law_cell_at" = true) (k27 : PySem.W.keepIn K (.ref f27) = true)
    (a28 : PySem.W.nsIn K mainGlobals "_law_tape" = some (some (.ref f28))) (l28 : K.lookup f28 = some ⟨oc28, od28, .func (PySem.W.fnOf "_law_tape" "_law_tape" (defArgs s_l_tape) (defBody s_l_tape) (defScope s_l_tape) .none kV28 dc28 pm28 an28 cd28 ct28), sl28⟩) (c28 : PySem.W.codeIn K cd28 "_law_tape" = true) (k28 : PySem.W.keepIn K (.ref f28) = true)
    (a29 : PySem.W.nsIn K mainGlobals "_law_digit" = some (some (.ref f29))) (l29 : K.lookup f29 = some ⟨oc29, od29, .func (PySem.W.fnOf "_law_digit" "_law_digit" (defArgs s_l_digit) (defBody s_l_digit) (defScope s_l_digit) .none kV29 dc29 pm29 an29 cd29 ct29), sl29⟩) (c29 : PySem.W.codeIn K cd29 "_law_digit" = true) (k29 : PySem.W.keepIn K (.ref f29) = true)
    (a30 : PySem.W.nsIn K mainGlobals "_law_number" = some (some (.ref f30))) (l30 : K.lookup f30 = some ⟨oc30, od30, .func (PySem.W.fnOf "_law_number" "_law_number" (defArgs s_l_number) (defBody s_l_number) (defScope s_l_number) .none kV30 dc30 pm30 an30 cd30 ct30), sl30⟩) (c30 : PySem.W.codeIn K cd30 "_law_number" = true) (k30 : PySem.W.keepIn K (.ref f30) = true)
    (a31 : PySem.W.nsIn K mainGlobals "_law_table" = some (some (.ref f31))) (l31 : K.lookup f31 = some ⟨oc31, od31, .func (PySem.W.fnOf "_law_table" "_law_table" (defArgs s_l_table) (defBody s_l_table) (defScope s_l_table) .none kV31 dc31 pm31 an31 cd31 ct31), sl31⟩) (c31 : PySem.W.codeIn K cd31 "_law_table" = true) (k31 : PySem.W.keepIn K (.ref f31) = true)
    (a32 : PySem.W.nsIn K mainGlobals "_law_rows" = some (some (.ref f32))) (l32 : K.lookup f32 = some ⟨oc32, od32, .func (PySem.W.fnOf "_law_rows" "_law_rows" (defArgs s_l_rows) (defBody s_l_rows) (defScope s_l_rows) .none kV32 dc32 pm32 an32 cd32 ct32), sl32⟩) (c32 : PySem.W.codeIn K cd32 "_law_rows" = true) (k32 : PySem.W.keepIn K (.ref f32) = true)
    (a33 : PySem.W.nsIn K mainGlobals "_law_columns" = some (some (.ref f33))) (l33 : K.lookup f33 = some ⟨oc33, od33, .func (PySem.W.fnOf "_law_columns" "_law_columns" (defArgs s_l_columns) (defBody s_l_columns) (defScope s_l_columns) .none kV33 dc33 pm33 an33 cd33 ct33), sl33⟩) (c33 : PySem.W.codeIn K cd33 "_law_columns" = true) (k33 : PySem.W.keepIn K (.ref f33) = true)
    (a34 : PySem.W.nsIn K mainGlobals "_law_as" = some (some (.ref f34))) (l34 : K.lookup f34 = some ⟨oc34, od34, .func (PySem.W.fnOf "_law_as" "_law_as" (defArgs s_l_as) (defBody s_l_as) (defScope s_l_as) .none kV34 dc34 pm34 an34 cd34 ct34), sl34⟩) (c34 : PySem.W.codeIn K cd34 "_law_as" = true) (k34 : PySem.W.keepIn K (.ref f34) = true)
    (a35 : PySem.W.nsIn K mainGlobals "_law_cap" = some (some (.ref f35))) (l35 : K.lookup f35 = some ⟨oc35, od35, .func (PySem.W.fnOf "_law_cap" "_law_cap" (defArgs s_l_cap) (defBody s_l_cap) (defScope s_l_cap) .none kV35 dc35 pm35 an35 cd35 ct35), sl35⟩) (c35 : PySem.W.codeIn K cd35 "_law_cap" = true) (k35 : PySem.W.keepIn K (.ref f35) = true)
    (a36 : PySem.W.nsIn K mainGlobals "_law_caps" = some (some (.ref f36))) (l36 : K.lookup f36 = some ⟨oc36, od36, .func (PySem.W.fnOf "_law_caps" "_law_caps" (defArgs s_l_caps) (defBody s_l_caps) (defScope s_l_caps) .none kV36 dc36 pm36 an36 cd36 ct36), sl36⟩) (c36 : PySem.W.codeIn K cd36 "_law_caps" = true) (k36 : PySem.W.keepIn K (.ref f36) = true)
    (a37 : PySem.W.nsIn K mainGlobals "_law_order" = some (some (.ref f37))) (l37 : K.lookup f37 = some ⟨oc37, od37, .func (PySem.W.fnOf "_law_order" "_law_order" (defArgs s_l_order) (defBody s_l_order) (defScope s_l_order) .none kV37 dc37 pm37 an37 cd37 ct37), sl37⟩) (c37 : PySem.W.codeIn K cd37 "_law_order" = true) (k37 : PySem.W.keepIn K (.ref f37) = true)
    (a38 : PySem.W.nsIn K mainGlobals "_law_back" = some (some (.ref f38))) (l38 : K.lookup f38 = some ⟨oc38, od38, .func (PySem.W.fnOf "_law_back" "_law_back" (defArgs s_l_back) (defBody s_l_back) (defScope s_l_back) .none kV38 dc38 pm38 an38 cd38 ct38), sl38⟩) (c38 : PySem.W.codeIn K cd38 "_law_back" = true) (k38 : PySem.W.keepIn K (.ref f38) = true)
    (a39 : PySem.W.nsIn K mainGlobals "_law_put" = some (some (.ref f39))) (l39 : K.lookup f39 = some ⟨oc39, od39, .func (PySem.W.fnOf "_law_put" "_law_put" (defArgs s_l_put) (defBody s_l_put) (defScope s_l_put) .none kV39 dc39 pm39 an39 cd39 ct39), sl39⟩) (c39 : PySem.W.codeIn K cd39 "_law_put" = true) (k39 : PySem.W.keepIn K (.ref f39) = true)
    (a40 : PySem.W.nsIn K mainGlobals "_law_shown" = some (some (.ref f40))) (l40 : K.lookup f40 = some ⟨oc40, od40, .func (PySem.W.fnOf "_law_shown" "_law_shown" (defArgs s_l_shown) (defBody s_l_shown) (defScope s_l_shown) .none kV40 dc40 pm40 an40 cd40 ct40), sl40⟩) (c40 : PySem.W.codeIn K cd40 "_law_shown" = true) (k40 : PySem.W.keepIn K (.ref f40) = true)
    (a41 : PySem.W.nsIn K mainGlobals "_law_grid_told" = some (some (.ref f41))) (l41 : K.lookup f41 = some ⟨oc41, od41, .func (PySem.W.fnOf "_law_grid_told" "_law_grid_told" (defArgs s_l_grid_told) (defBody s_l_grid_told) (defScope s_l_grid_told) .none kV41 dc41 pm41 an41 cd41 ct41), sl41⟩) (c41 : PySem.W.codeIn K cd41 "_law_grid_told" = true) (k41 : PySem.W.keepIn K (.ref f41) = true)
    (a42 : PySem.W.nsIn K mainGlobals "_law_frame_told" = some (some (.ref f42))) (l42 : K.lookup f42 = some ⟨oc42, od42, .func (PySem.W.fnOf "_law_frame_told" "_law_frame_told" (defArgs s_l_frame_told) (defBody s_l_frame_told) (defScope s_l_frame_told) .none kV42 dc42 pm42 an42 cd42 ct42), sl42⟩) (c42 : PySem.W.codeIn K cd42 "_law_frame_told" = true) (k42 : PySem.W.keepIn K (.ref f42) = true)
    (a43 : PySem.W.nsIn K mainGlobals "_law_exchanged_well" = some (some (.ref f43))) (l43 : K.lookup f43 = some ⟨oc43, od43, .func (PySem.W.fnOf "_law_exchanged_well" "_law_exchanged_well" (defArgs s_l_exchanged_well) (defBody s_l_exchanged_well) (defScope s_l_exchanged_well) .none kV43 dc43 pm43 an43 cd43 ct43), sl43⟩) (c43 : PySem.W.codeIn K cd43 "_law_exchanged_well" = true) (k43 : PySem.W.keepIn K (.ref f43) = true)
    (a44 : PySem.W.nsIn K mainGlobals "_law_joined" = some (some (.ref f44))) (l44 : K.lookup f44 = some ⟨oc44, od44, .func (PySem.W.fnOf "_law_joined" "_law_joined" (defArgs s_l_joined) (defBody s_l_joined) (defScope s_l_joined) .none kV44 dc44 pm44 an44 cd44 ct44), sl44⟩) (c44 : PySem.W.codeIn K cd44 "_law_joined" = true) (k44 : PySem.W.keepIn K (.ref f44) = true)
    (a45 : PySem.W.nsIn K mainGlobals "_law_cap_of" = some (some (.ref f45))) (l45 : K.lookup f45 = some ⟨oc45, od45, .func (PySem.W.fnOf "_law_cap_of" "_law_cap_of" (defArgs s_l_cap_of) (defBody s_l_cap_of) (defScope s_l_cap_of) .none kV45 dc45 pm45 an45 cd45 ct45), sl45⟩) (c45 : PySem.W.codeIn K cd45 "_law_cap_of" = true) (k45 : PySem.W.keepIn K (.ref f45) = true)
    (a46 : PySem.W.nsIn K mainGlobals "_law_joined_well" = some (some (.ref f46))) (l46 : K.lookup f46 = some ⟨oc46, od46, .func (PySem.W.fnOf "_law_joined_well" "_law_joined_well" (defArgs s_l_joined_well) (defBody s_l_joined_well) (defScope s_l_joined_well) .none kV46 dc46 pm46 an46 cd46 ct46), sl46⟩) (c46 : PySem.W.codeIn K cd46 "_law_joined_well" = true) (k46 : PySem.W.keepIn K (.ref f46) = true)
    (a47 : PySem.W.nsIn K mainGlobals "_law_greatest" = some (some (.ref f47))) (l47 : K.lookup f47 = some ⟨oc47, od47, .func (PySem.W.fnOf "_law_greatest" "_law_greatest" (defArgs s_l_greatest) (defBody s_l_greatest) (defScope s_l_greatest) .none kV47 dc47 pm47 an47 cd47 ct47), sl47⟩) (c47 : PySem.W.codeIn K cd47 "_law_greatest" = true) (k47 : PySem.W.keepIn K (.ref f47) = true)
    (a48 : PySem.W.nsIn K mainGlobals "law" = some (some (.ref f48))) (l48 : K.lookup f48 = some ⟨oc48, od48, .func (PySem.W.fnOf "law" "law" (defArgs s_law) (defBody s_law) (defScope s_law) .none kV48 dc48 pm48 an48 cd48 ct48), sl48⟩) (c48 : PySem.W.codeIn K cd48 "law" = true) (k48 : PySem.W.keepIn K (.ref f48) = true)
    (fk : FrK K CF) (mk : PySem.W.makesIn K CF = true) (aI : PySem.W.findIn K (.ref CF) "__init__" = some (some (.ref fI))) (iI : PySem.W.isFn K (.ref fI) = true) (kF : PySem.W.keepIn K (.ref CF) = true)
    (lI : K.lookup fI = some ⟨ocI, odI, .func (PySem.W.fnOf "__init__" "Frame.__init__" (defArgs s_Frame_init) (defBody s_Frame_init) (defScope s_Frame_init) (.ref T0) kVI dcI pmI anI cdI ctI), slI⟩) (cI : PySem.W.codeIn K cdI "Frame.__init__" = true) (kI : PySem.W.keepIn K (.ref fI) = true)
    (lT : K.lookup T0 = some o0) (dT : o0.data = .seq ([Value.none] : List Value).toArray n0)
    (aM0 : PySem.W.findIn K (.ref CF) "rows" = some (some (.ref fM0))) (iM0 : PySem.W.isFn K (.ref fM0) = true) (lM0 : K.lookup fM0 = some ⟨ocM0, odM0, .func (PySem.W.fnOf "rows" "Frame.rows" (defArgs s_Frame_rows) (defBody s_Frame_rows) (defScope s_Frame_rows) .none kVM0 dcM0 pmM0 anM0 cdM0 ctM0), slM0⟩) (cM0 : PySem.W.codeIn K cdM0 "Frame.rows" = true) (kM0 : PySem.W.keepIn K (.ref fM0) = true)
    (aM1 : PySem.W.findIn K (.ref CF) "columns" = some (some (.ref fM1))) (iM1 : PySem.W.isFn K (.ref fM1) = true) (lM1 : K.lookup fM1 = some ⟨ocM1, odM1, .func (PySem.W.fnOf "columns" "Frame.columns" (defArgs s_Frame_columns) (defBody s_Frame_columns) (defScope s_Frame_columns) .none kVM1 dcM1 pmM1 anM1 cdM1 ctM1), slM1⟩) (cM1 : PySem.W.codeIn K cdM1 "Frame.columns" = true) (kM1 : PySem.W.keepIn K (.ref fM1) = true)
    (aM2 : PySem.W.findIn K (.ref CF) "caps" = some (some (.ref fM2))) (iM2 : PySem.W.isFn K (.ref fM2) = true) (lM2 : K.lookup fM2 = some ⟨ocM2, odM2, .func (PySem.W.fnOf "caps" "Frame.caps" (defArgs s_Frame_caps) (defBody s_Frame_caps) (defScope s_Frame_caps) .none kVM2 dcM2 pmM2 anM2 cdM2 ctM2), slM2⟩) (cM2 : PySem.W.codeIn K cdM2 "Frame.caps" = true) (kM2 : PySem.W.keepIn K (.ref fM2) = true)
    (bt : PySem.W.nsIn K mainGlobals "TableError" = some (some (.ref q17))) (tt : PySem.W.typeIn K (.ref q17) = some (.type "type")) (ti : PySem.W.isClsIn K q17 = true) (tb : PySem.W.subIn K (.ref q17) (.type "BaseException") = some true)
    (e0 : ExcK K "NoSums" q0 q17)
    (e1 : ExcK K "NoCaps" q1 q17)
    (e2 : ExcK K "NoTable" q2 q17)
    (e3 : ExcK K "NoOrder" q3 q17)
    (e4 : ExcK K "NoColumns" q4 q17)
    (e10 : ExcK K "NoCell" q10 q17)
    (hn : PySem.W.specialIn K (.builtin "object.__class__") "__get__" = some (some (.builtin "getset_descriptor.__get__"))) (ht : PySem.W.takesIn K (.builtin "object.__class__") = some true)
    (iA : PySem.W.findIn K (.ref CF) "__class__" = some (some (.builtin "object.__class__"))) (iO : PySem.W.mroIn K CF (.type "object") = some true)
    (gL : PySem.W.nsIn K mainGlobals "LONGEST" = some (some (.int 6 tL)))
    (z0 : PySem.W.nsIn K mainGlobals "isinstance" = some none) (z1 : PySem.W.nsIn K mainGlobals "len" = some none) (z2 : PySem.W.nsIn K mainGlobals "all" = some none) (z3 : PySem.W.nsIn K mainGlobals "range" = some none) (z4 : PySem.W.nsIn K mainGlobals "int" = some none) (z5 : PySem.W.nsIn K mainGlobals "bool" = some none) (z6 : PySem.W.nsIn K mainGlobals "list" = some none) (z7 : PySem.W.nsIn K mainGlobals "tuple" = some none) (z8 : PySem.W.nsIn K mainGlobals "repr" = some none) (z9 : PySem.W.nsIn K mainGlobals "max" = some none) (z10 : PySem.W.nsIn K mainGlobals "min" = some none) (z11 : PySem.W.nsIn K mainGlobals "sum" = some none) (z12 : PySem.W.nsIn K mainGlobals "zip" = some none) (z13 : PySem.W.nsIn K mainGlobals "enumerate" = some none) (z14 : PySem.W.nsIn K mainGlobals "reversed" = some none) (z15 : PySem.W.nsIn K mainGlobals "str" = some none) (z16 : PySem.W.nsIn K mainGlobals "sorted" = some none) :
    ∃ fd : FuncData, (∀ (s : Shared) (v : Value), BindsTo s fd ⟨[v], []⟩ [("_law_script", v)]) ∧ ∀ base : Heap, K.In base → base.Ns mainGlobals mg → FnG l.prog w K mg base 10 fa fd ["_law_script"] (sp_law K) := by
  cases hfa.symm.trans (PySem.W.mg_of X G a48)
  obtain ⟨tG, hG⟩ := hG
  have T : Txt K mg (fun i => [q0, q1, q2, q3, q4, 0, 0, 0, 0, 0, q10, 0, 0, 0, 0, 0, 0, q17].getD i 0) tG tL := ⟨hG, PySem.W.mg_of X G gL, PySem.W.mg_none_of X G z0, PySem.W.mg_none_of X G z1, PySem.W.mg_none_of X G z2, PySem.W.mg_none_of X G z3, PySem.W.mg_none_of X G z4, PySem.W.mg_none_of X G z5, PySem.W.mg_none_of X G z6, PySem.W.mg_none_of X G z7, PySem.W.mg_none_of X G z8, PySem.W.mg_none_of X G z9, PySem.W.mg_none_of X G z10, PySem.W.mg_none_of X G z11, PySem.W.mg_none_of X G z12, PySem.W.mg_none_of X G z13, PySem.W.mg_none_of X G z14, PySem.W.mg_none_of X G z15, PySem.W.mg_none_of X G z16, e0.f X G hn ht, e1.f X G hn ht, e2.f X G hn ht, e3.f X G hn ht, e4.f X G hn ht, e10.f X G hn ht⟩
  have FT : FrT K mg CF := ⟨PySem.W.mg_of X G fk.g, ⟨fk.pg, fk.hd, fk.po, fk.sa⟩, fk.nr, fk.nc, fk.nk⟩
  have F0 := fun_mk (st := s_is_whole) l0 c0 k0
  have b0 := F0.binds (ps := ["thing"]) fun _ _ _ _ _ _ us hl => match us, hl with | [_], _ => rfl
  have F1 := fun_mk (st := s_is_count) l1 c1 k1
  have b1 := F1.binds (ps := ["thing"]) fun _ _ _ _ _ _ us hl => match us, hl with | [_], _ => rfl
  have F2 := fun_mk (st := s_is_list) l2 c2 k2
  have b2 := F2.binds (ps := ["thing"]) fun _ _ _ _ _ _ us hl => match us, hl with | [_], _ => rfl
  have F3 := fun_mk (st := s_is_short_list) l3 c3 k3
  have b3 := F3.binds (ps := ["thing"]) fun _ _ _ _ _ _ us hl => match us, hl with | [_], _ => rfl
  have F4 := fun_mk (st := s_are_counts) l4 c4 k4
  have b4 := F4.binds (ps := ["thing"]) fun _ _ _ _ _ _ us hl => match us, hl with | [_], _ => rfl
  have F5 := fun_mk (st := s_wanted_sums) l5 c5 k5
  have b5 := F5.binds (ps := ["thing"]) fun _ _ _ _ _ _ us hl => match us, hl with | [_], _ => rfl
  have F6 := fun_mk (st := s_is_cap) l6 c6 k6
  have b6 := F6.binds (ps := ["thing"]) fun _ _ _ _ _ _ us hl => match us, hl with | [_], _ => rfl
  have F7 := fun_mk (st := s_are_rows) l7 c7 k7
  have b7 := F7.binds (ps := ["thing", "height", "width"]) fun _ _ _ _ _ _ us hl => match us, hl with | [_, _, _], _ => rfl
  have F8 := fun_mk (st := s_wanted_caps) l8 c8 k8
  have b8 := F8.binds (ps := ["thing", "height", "width"]) fun _ _ _ _ _ _ us hl => match us, hl with | [_, _, _], _ => rfl
  have F9 := fun_mk (st := s_has_table_form) l9 c9 k9
  have b9 := F9.binds (ps := ["thing"]) fun _ _ _ _ _ _ us hl => match us, hl with | [_], _ => rfl
  have F10 := fun_mk (st := s_wanted_table) l10 c10 k10
  have b10 := F10.binds (ps := ["thing"]) fun _ _ _ _ _ _ us hl => match us, hl with | [_], _ => rfl
  have F11 := fun_mk (st := s_table_sums) l11 c11 k11
  have b11 := F11.binds (ps := ["table"]) fun _ _ _ _ _ _ us hl => match us, hl with | [_], _ => rfl
  have F12 := fun_mk (st := s_is_within) l12 c12 k12
  have b12 := F12.binds (ps := ["rows", "caps"]) fun _ _ _ _ _ _ us hl => match us, hl with | [_, _], _ => rfl
  have F13 := fun_mk (st := s_is_table) l13 c13 k13
  have b13 := F13.binds (ps := ["frame", "thing"]) fun _ _ _ _ _ _ us hl => match us, hl with | [_, _], _ => rfl
  have F14 := fun_mk (st := s_is_place) l14 c14 k14
  have b14 := F14.binds (ps := ["thing", "many"]) fun _ _ _ _ _ _ us hl => match us, hl with | [_, _], _ => rfl
  have F15 := fun_mk (st := s_are_unlike_places) l15 c15 k15
  have b15 := F15.binds (ps := ["one", "other", "many"]) fun _ _ _ _ _ _ us hl => match us, hl with | [_, _, _], _ => rfl
  have F16 := fun_mk (st := s_wanted_order) l16 c16 k16
  have b16 := F16.binds (ps := ["thing", "many"]) fun _ _ _ _ _ _ us hl => match us, hl with | [_, _], _ => rfl
  have F17 := fun_mk (st := s_exchanged_rows) l17 c17 k17
  have b17 := F17.binds (ps := ["rows", "row_order", "column_order"]) fun _ _ _ _ _ _ us hl => match us, hl with | [_, _, _], _ => rfl
  have F18 := fun_mk (st := s_exchanged_frame) l18 c18 k18
  have b18 := F18.binds (ps := ["frame", "order", "other"]) fun _ _ _ _ _ _ us hl => match us, hl with | [_, _, _], _ => rfl
  have F19 := fun_mk (st := s_exchanged_table) l19 c19 k19
  have b19 := F19.binds (ps := ["table", "order", "other"]) fun _ _ _ _ _ _ us hl => match us, hl with | [_, _, _], _ => rfl
  have F20 := fun_mk (st := s_wanted_columns) l20 c20 k20
  have b20 := F20.binds (ps := ["j", "k", "many"]) fun _ _ _ _ _ _ us hl => match us, hl with | [_, _, _], _ => rfl
  have F21 := fun_mk (st := s_put_together) l21 c21 k21
  have b21 := F21.binds (ps := ["row", "lesser", "greater", "joined"]) fun _ _ _ _ _ _ us hl => match us, hl with | [_, _, _, _], _ => rfl
  have F22 := fun_mk (st := s_joined_counts) l22 c22 k22
  have b22 := F22.binds (ps := ["row", "lesser", "greater"]) fun _ _ _ _ _ _ us hl => match us, hl with | [_, _, _], _ => rfl
  have F23 := fun_mk (st := s_joined_cap) l23 c23 k23
  have b23 := F23.binds (ps := ["one", "other"]) fun _ _ _ _ _ _ us hl => match us, hl with | [_, _], _ => rfl
  have F24 := fun_mk (st := s_joined_caps) l24 c24 k24
  have b24 := F24.binds (ps := ["row", "lesser", "greater"]) fun _ _ _ _ _ _ us hl => match us, hl with | [_, _, _], _ => rfl
  have F25 := fun_mk (st := s_joined_frame) l25 c25 k25
  have b25 := F25.binds (ps := ["frame", "j", "k"]) fun _ _ _ _ _ _ us hl => match us, hl with | [_, _, _], _ => rfl
  have F26 := fun_mk (st := s_joined_table) l26 c26 k26
  have b26 := F26.binds (ps := ["table", "j", "k"]) fun _ _ _ _ _ _ us hl => match us, hl with | [_, _, _], _ => rfl
  have F27 := fun_mk (st := s_l_cell_at) l27 c27 k27
  have b27 := F27.binds (ps := ["_law_script", "_law_k"]) fun _ _ _ _ _ _ us hl => match us, hl with | [_, _], _ => rfl
  have F28 := fun_mk (st := s_l_tape) l28 c28 k28
  have b28 := F28.binds (ps := ["_law_cell"]) fun _ _ _ _ _ _ us hl => match us, hl with | [_], _ => rfl
  have F29 := fun_mk (st := s_l_digit) l29 c29 k29
  have b29 := F29.binds (ps := ["_law_tape_here", "_law_size"]) fun _ _ _ _ _ _ us hl => match us, hl with | [_, _], _ => rfl
  have F30 := fun_mk (st := s_l_number) l30 c30 k30
  have b30 := F30.binds (ps := ["_law_tape_here"]) fun _ _ _ _ _ _ us hl => match us, hl with | [_], _ => rfl
  have F31 := fun_mk (st := s_l_table) l31 c31 k31
  have b31 := F31.binds (ps := ["_law_tape_here"]) fun _ _ _ _ _ _ us hl => match us, hl with | [_], _ => rfl
  have F32 := fun_mk (st := s_l_rows) l32 c32 k32
  have b32 := F32.binds (ps := ["_law_table_here"]) fun _ _ _ _ _ _ us hl => match us, hl with | [_], _ => rfl
  have F33 := fun_mk (st := s_l_columns) l33 c33 k33
  have b33 := F33.binds (ps := ["_law_table_here"]) fun _ _ _ _ _ _ us hl => match us, hl with | [_], _ => rfl
  have F34 := fun_mk (st := s_l_as) l34 c34 k34
  have b34 := F34.binds (ps := ["_law_tape_here", "_law_rows_here"]) fun _ _ _ _ _ _ us hl => match us, hl with | [_, _], _ => rfl
  have F35 := fun_mk (st := s_l_cap) l35 c35 k35
  have b35 := F35.binds (ps := ["_law_tape_here", "_law_number_here"]) fun _ _ _ _ _ _ us hl => match us, hl with | [_, _], _ => rfl
  have F36 := fun_mk (st := s_l_caps) l36 c36 k36
  have b36 := F36.binds (ps := ["_law_tape_here", "_law_table_here"]) fun _ _ _ _ _ _ us hl => match us, hl with | [_, _], _ => rfl
  have F37 := fun_mk (st := s_l_order) l37 c37 k37
  have b37 := F37.binds (ps := ["_law_tape_here", "_law_many"]) fun _ _ _ _ _ _ us hl => match us, hl with | [_, _], _ => rfl
  have F38 := fun_mk (st := s_l_back) l38 c38 k38
  have b38 := F38.binds (ps := ["_law_order_here"]) fun _ _ _ _ _ _ us hl => match us, hl with | [_], _ => rfl
  have F39 := fun_mk (st := s_l_put) l39 c39 k39
  have b39 := F39.binds (ps := ["_law_grid", "_law_order_here", "_law_other"]) fun _ _ _ _ _ _ us hl => match us, hl with | [_, _, _], _ => rfl
  have F40 := fun_mk (st := s_l_shown) l40 c40 k40
  have b40 := F40.binds (ps := ["_law_frame"]) fun _ _ _ _ _ _ us hl => match us, hl with | [_], _ => rfl
  have F41 := fun_mk (st := s_l_grid_told) l41 c41 k41
  have b41 := F41.binds (ps := ["_law_told", "_law_due"]) fun _ _ _ _ _ _ us hl => match us, hl with | [_, _], _ => rfl
  have F42 := fun_mk (st := s_l_frame_told) l42 c42 k42
  have b42 := F42.binds (ps := ["_law_told", "_law_due"]) fun _ _ _ _ _ _ us hl => match us, hl with | [_, _], _ => rfl
  have F43 := fun_mk (st := s_l_exchanged_well) l43 c43 k43
  have b43 := F43.binds (ps := ["_law_tape_here", "_law_table_here", "_law_frame", "_law_parts"]) fun _ _ _ _ _ _ us hl => match us, hl with | [_, _, _, _], _ => rfl
  have F44 := fun_mk (st := s_l_joined) l44 c44 k44
  have b44 := F44.binds (ps := ["_law_row", "_law_first", "_law_second", "_law_together"]) fun _ _ _ _ _ _ us hl => match us, hl with | [_, _, _, _], _ => rfl
  have F45 := fun_mk (st := s_l_cap_of) l45 c45 k45
  have b45 := F45.binds (ps := ["_law_one", "_law_other"]) fun _ _ _ _ _ _ us hl => match us, hl with | [_, _], _ => rfl
  have F46 := fun_mk (st := s_l_joined_well) l46 c46 k46
  have b46 := F46.binds (ps := ["_law_tape_here", "_law_table_here", "_law_frame", "_law_parts"]) fun _ _ _ _ _ _ us hl => match us, hl with | [_, _, _, _], _ => rfl
  have F47 := fun_mk (st := s_l_greatest) l47 c47 k47
  have b47 := F47.binds (ps := ["_law_tape_here"]) fun _ _ _ _ _ _ us hl => match us, hl with | [_], _ => rfl
  have F48 := fun_mk (st := s_law) l48 c48 k48
  have M0 := fun_mk (st := s_Frame_rows) lM0 cM0 kM0
  have mb0 := M0.binds (ps := ["self"]) fun _ _ _ _ _ _ us hl => match us, hl with | [_], _ => rfl
  have M1 := fun_mk (st := s_Frame_columns) lM1 cM1 kM1
  have mb1 := M1.binds (ps := ["self"]) fun _ _ _ _ _ _ us hl => match us, hl with | [_], _ => rfl
  have M2 := fun_mk (st := s_Frame_caps) lM2 cM2 kM2
  have mb2 := M2.binds (ps := ["self"]) fun _ _ _ _ _ _ us hl => match us, hl with | [_], _ => rfl
  have FI : FunD K "__init__" "Frame.__init__" (defArgs s_Frame_init) (defBody s_Frame_init) (defScope s_Frame_init) [V.non] [] fI (PySem.W.fnOf "__init__" "Frame.__init__" (defArgs s_Frame_init) (defBody s_Frame_init) (defScope s_Frame_init) (.ref T0) kVI dcI pmI anI cdI ctI) :=
    ⟨⟨ocI, odI, .ref T0, kVI, dcI, pmI, anI, cdI, ctI, slI, rfl, lI, cI, .inr ⟨by simp, T0, _, [.none], n0, rfl, lT, dT, .cons rfl .nil⟩, .inl rfl⟩, kI⟩
  obtain ⟨ds, dD, bD⟩ := FI.binds1 (ps := ["self", "rows", "columns", "caps"]) 3 0 (by simp) rfl fun T kV doc pm an cdv ct us its h1 h2 => match us, its, h1, h2 with | [_, _, _], [_], _, _ => ⟨_, rfl, rfl⟩
  obtain ⟨ds4, dA, bA⟩ := FI.binds1 (ps := ["self", "rows", "columns", "caps"]) 4 1 (by simp) rfl fun T kV doc pm an cdv ct us its h1 h2 => match us, its, h1, h2 with | [_, _, _, _], [_], _, _ => ⟨_, rfl, rfl⟩
  obtain rfl : ds4 = [] := by cases dA; rfl
  refine ⟨PySem.W.fnOf "law" "law" (defArgs s_law) (defBody s_law) (defScope s_law) .none kV48 dc48 pm48 an48 cd48 ct48, fun s v => .of_eq rfl, fun base _ _ => ?_⟩
  have c_is_whole : Cal l.prog w K mg base CX0 1 "is_whole" ["thing"] (sp_is_whole K) := ⟨_, _, PySem.W.mg_of X G a0, k0, b0, ok_is_whole F0 T⟩
  have c_is_count : Cal l.prog w K mg base CX0 2 "is_count" ["thing"] (sp_is_count K) := ⟨_, _, PySem.W.mg_of X G a1, k1, b1, ok_is_count F1 T c_is_whole⟩
  have c_is_list : Cal l.prog w K mg base CX0 1 "is_list" ["thing"] (sp_is_list K) := ⟨_, _, PySem.W.mg_of X G a2, k2, b2, ok_is_list F2 T⟩
  have c_is_short_list : Cal l.prog w K mg base CX0 2 "is_short_list" ["thing"] (sp_is_short_list K) := ⟨_, _, PySem.W.mg_of X G a3, k3, b3, ok_is_short_list F3 T c_is_list⟩
  have c_are_counts : Cal l.prog w K mg base CX0 3 "are_counts" ["thing"] (sp_are_counts K) := ⟨_, _, PySem.W.mg_of X G a4, k4, b4, ok_are_counts F4 T c_is_short_list c_is_count⟩
  have c_wanted_sums : Cal l.prog w K mg base (L2.CX l.prog w) 4 "wanted_sums" ["thing"] (sp_wanted_sums K q0) := ⟨_, _, PySem.W.mg_of X G a5, k5, b5, ok_wanted_sums F5 T c_are_counts⟩
  have c_is_cap : Cal l.prog w K mg base CX0 3 "is_cap" ["thing"] (sp_is_cap K) := ⟨_, _, PySem.W.mg_of X G a6, k6, b6, ok_is_cap F6 T c_is_count⟩
  have c_are_rows : Cal l.prog w K mg base CX0 2 "are_rows" ["thing", "height", "width"] (sp_are_rows K) := ⟨_, _, PySem.W.mg_of X G a7, k7, b7, ok_are_rows F7 T c_is_list⟩
  have c_wanted_caps : Cal l.prog w K mg base (L2.CX l.prog w) 5 "wanted_caps" ["thing", "height", "width"] (sp_wanted_caps K q1) := ⟨_, _, PySem.W.mg_of X G a8, k8, b8, ok_wanted_caps F8 T c_are_rows c_is_cap⟩
  have GI := ok_initF (P := l.prog) (w := w) (base := base) FI T FT c_wanted_sums c_wanted_caps
  have c_Frame_rows : Mth l.prog w K mg base CX0 1 CF "rows" ["self"] (sp_rows K CF) := ⟨FT.cl, _, _, ⟨aM0, iM0, kM0⟩, mb0, ok_rows M0 T FT⟩
  have c_Frame_columns : Mth l.prog w K mg base CX0 1 CF "columns" ["self"] (sp_columns K CF) := ⟨FT.cl, _, _, ⟨aM1, iM1, kM1⟩, mb1, ok_columns M1 T FT⟩
  have c_Frame_caps : Mth l.prog w K mg base CX0 1 CF "caps" ["self"] (sp_caps K CF) := ⟨FT.cl, _, _, ⟨aM2, iM2, kM2⟩, mb2, ok_caps M2 T FT⟩
  have c_has_table_form : Cal l.prog w K mg base CX0 4 "has_table_form" ["thing"] (sp_has_form K) := ⟨_, _, PySem.W.mg_of X G a9, k9, b9, ok_has_form F9 T c_is_short_list c_are_counts⟩
  have c_wanted_table : Cal l.prog w K mg base (L2.CX l.prog w) 5 "wanted_table" ["thing"] (sp_wanted_table K q2) := ⟨_, _, PySem.W.mg_of X G a10, k10, b10, ok_wanted_table F10 T c_has_table_form⟩
  have c_table_sums : Cal l.prog w K mg base (L2.CX l.prog w) 6 "table_sums" ["table"] (sp_table_sums K q2) := ⟨_, _, PySem.W.mg_of X G a11, k11, b11, ok_table_sums F11 T c_wanted_table⟩
  have c_is_within : Cal l.prog w K mg base CX0 1 "is_within" ["rows", "caps"] (sp_is_within K) := ⟨_, _, PySem.W.mg_of X G a12, k12, b12, ok_is_within F12 T⟩
  have c_is_table : Cal l.prog w K mg base CX0 7 "is_table" ["frame", "thing"] (sp_is_table K CF) := ⟨_, _, PySem.W.mg_of X G a13, k13, b13, ok_is_table F13 T c_has_table_form c_table_sums c_is_within c_Frame_rows c_Frame_columns c_Frame_caps⟩
  have c_is_place : Cal l.prog w K mg base CX0 2 "is_place" ["thing", "many"] (sp_is_place K) := ⟨_, _, PySem.W.mg_of X G a14, k14, b14, ok_is_place F14 T c_is_whole⟩
  have c_wanted_order : Cal l.prog w K mg base (L2.CX l.prog w) 3 "wanted_order" ["thing", "many"] (sp_wanted_order K q3) := ⟨_, _, PySem.W.mg_of X G a16, k16, b16, ok_wanted_order F16 T c_is_list c_is_place⟩
  have c_exchanged_rows : Cal l.prog w K mg base CX0 1 "exchanged_rows" ["rows", "row_order", "column_order"] (sp_exchanged_rows K) := ⟨_, _, PySem.W.mg_of X G a17, k17, b17, ok_exchanged_rows F17 T⟩
  have c_exchanged_frame : Cal l.prog w K mg base (L2.CX l.prog w) 8 "exchanged_frame" ["frame", "order", "other"] (sp_exchanged_frame K CF (fun i => [q0, q1, q2, q3, q4, 0, 0, 0, 0, 0, q10, 0, 0, 0, 0, 0, 0, q17].getD i 0)) := ⟨_, _, PySem.W.mg_of X G a18, k18, b18, ok_exchanged_frame F18 T FT ⟨mk, aI, iI, kF⟩ GI bA c_wanted_order c_exchanged_rows c_Frame_rows c_Frame_columns c_Frame_caps⟩
  have c_exchanged_table : Cal l.prog w K mg base (L2.CX l.prog w) 6 "exchanged_table" ["table", "order", "other"] (sp_exchanged_table K (fun i => [q0, q1, q2, q3, q4, 0, 0, 0, 0, 0, q10, 0, 0, 0, 0, 0, 0, q17].getD i 0)) := ⟨_, _, PySem.W.mg_of X G a19, k19, b19, ok_exchanged_table F19 T c_wanted_table c_wanted_order c_exchanged_rows⟩
  have c_are_unlike_places : Cal l.prog w K mg base CX0 3 "are_unlike_places" ["one", "other", "many"] (sp_unlikeP K) := ⟨_, _, PySem.W.mg_of X G a15, k15, b15, ok_unlikeP F15 T c_is_place⟩
  have c_wanted_columns : Cal l.prog w K mg base (L2.CX l.prog w) 4 "wanted_columns" ["j", "k", "many"] (sp_wanted_columns K q4) := ⟨_, _, PySem.W.mg_of X G a20, k20, b20, ok_wanted_columns F20 T c_are_unlike_places⟩
  have c_put_together : Cal l.prog w K mg base CX0 1 "put_together" ["row", "lesser", "greater", "joined"] (sp_put_together K) := ⟨_, _, PySem.W.mg_of X G a21, k21, b21, ok_put_together F21 T⟩
  have c_joined_counts : Cal l.prog w K mg base (L2.CX l.prog w) 2 "joined_counts" ["row", "lesser", "greater"] (sp_joined_counts K q4) := ⟨_, _, PySem.W.mg_of X G a22, k22, b22, ok_joined_counts F22 T c_put_together⟩
  have c_joined_cap : Cal l.prog w K mg base CX0 1 "joined_cap" ["one", "other"] sp_joined_cap := ⟨_, _, PySem.W.mg_of X G a23, k23, b23, ok_joined_cap F23 T⟩
  have c_joined_caps : Cal l.prog w K mg base CX0 2 "joined_caps" ["row", "lesser", "greater"] (sp_joined_caps K) := ⟨_, _, PySem.W.mg_of X G a24, k24, b24, ok_joined_caps F24 T c_put_together c_joined_cap⟩
  have c_joined_frame : Cal l.prog w K mg base (L2.CX l.prog w) 8 "joined_frame" ["frame", "j", "k"] (sp_joined_frame K CF (fun i => [q0, q1, q2, q3, q4, 0, 0, 0, 0, 0, q10, 0, 0, 0, 0, 0, 0, q17].getD i 0)) := ⟨_, _, PySem.W.mg_of X G a25, k25, b25, ok_joined_frame F25 T FT ⟨mk, aI, iI, kF⟩ GI bA c_wanted_columns c_joined_counts c_joined_caps c_Frame_rows c_Frame_columns c_Frame_caps⟩
  have c_joined_table : Cal l.prog w K mg base (L2.CX l.prog w) 6 "joined_table" ["table", "j", "k"] (sp_joined_table K (fun i => [q0, q1, q2, q3, q4, 0, 0, 0, 0, 0, q10, 0, 0, 0, 0, 0, 0, q17].getD i 0)) := ⟨_, _, PySem.W.mg_of X G a26, k26, b26, ok_joined_table F26 T c_wanted_table c_wanted_columns c_joined_counts⟩
  have c_l_cell_at : Cal l.prog w K mg base CX0 1 "_law_cell_at" ["_law_script", "_law_k"] (sp_cell_at K) := ⟨_, _, PySem.W.mg_of X G a27, k27, b27, ok_cell_at F27 T⟩
  have c_l_tape : Cal l.prog w K mg base CX0 1 "_law_tape" ["_law_cell"] sp_tape := ⟨_, _, PySem.W.mg_of X G a28, k28, b28, ok_tape F28 T⟩
  have c_l_digit : Cal l.prog w K mg base CX0 1 "_law_digit" ["_law_tape_here", "_law_size"] sp_digit := ⟨_, _, PySem.W.mg_of X G a29, k29, b29, ok_digit F29 T⟩
  have c_l_number : Cal l.prog w K mg base CX0 2 "_law_number" ["_law_tape_here"] sp_number := ⟨_, _, PySem.W.mg_of X G a30, k30, b30, ok_number F30 T c_l_digit⟩
  have c_l_table : Cal l.prog w K mg base CX0 3 "_law_table" ["_law_tape_here"] sp_ltable := ⟨_, _, PySem.W.mg_of X G a31, k31, b31, ok_ltable F31 T c_l_digit c_l_number⟩
  have c_l_rows : Cal l.prog w K mg base CX0 1 "_law_rows" ["_law_table_here"] (sp_lrows K) := ⟨_, _, PySem.W.mg_of X G a32, k32, b32, ok_lrows F32 T⟩
  have c_l_columns : Cal l.prog w K mg base CX0 1 "_law_columns" ["_law_table_here"] (sp_lcolumns K) := ⟨_, _, PySem.W.mg_of X G a33, k33, b33, ok_lcolumns F33 T⟩
  have c_l_as : Cal l.prog w K mg base CX0 2 "_law_as" ["_law_tape_here", "_law_rows_here"] (sp_as K) := ⟨_, _, PySem.W.mg_of X G a34, k34, b34, ok_as F34 T c_l_digit⟩
  have c_l_cap : Cal l.prog w K mg base CX0 2 "_law_cap" ["_law_tape_here", "_law_number_here"] sp_lcap := ⟨_, _, PySem.W.mg_of X G a35, k35, b35, ok_lcap F35 T c_l_digit⟩
  have c_l_caps : Cal l.prog w K mg base CX0 3 "_law_caps" ["_law_tape_here", "_law_table_here"] sp_llcaps := ⟨_, _, PySem.W.mg_of X G a36, k36, b36, ok_llcaps F36 T c_l_digit c_l_cap⟩
  have c_l_order : Cal l.prog w K mg base CX0 2 "_law_order" ["_law_tape_here", "_law_many"] sp_lorder := ⟨_, _, PySem.W.mg_of X G a37, k37, b37, ok_lorder F37 T c_l_digit⟩
  have c_l_back : Cal l.prog w K mg base CX0 1 "_law_back" ["_law_order_here"] (sp_lback K) := ⟨_, _, PySem.W.mg_of X G a38, k38, b38, ok_lback F38 T⟩
  have c_l_put : Cal l.prog w K mg base CX0 1 "_law_put" ["_law_grid", "_law_order_here", "_law_other"] (sp_exchanged_rows K) := ⟨_, _, PySem.W.mg_of X G a39, k39, b39, ok_lput F39 T⟩
  have c_l_shown : CalG l.prog w K mg base 2 "_law_shown" ["_law_frame"] (sp_lshown K CF) := ⟨_, _, PySem.W.mg_of X G a40, k40, b40, ok_lshown F40 T c_Frame_rows c_Frame_columns c_Frame_caps⟩
  have c_l_grid_told : CalG l.prog w K mg base 1 "_law_grid_told" ["_law_told", "_law_due"] (sp_lgrid K) := ⟨_, _, PySem.W.mg_of X G a41, k41, b41, ok_lgrid F41 T⟩
  have c_l_frame_told : CalG l.prog w K mg base 3 "_law_frame_told" ["_law_told", "_law_due"] (sp_lframe K CF) := ⟨_, _, PySem.W.mg_of X G a42, k42, b42, ok_lframe F42 T FT ⟨FT.cl, iA, hn, ht, iO⟩ c_l_shown c_Frame_rows c_Frame_columns c_Frame_caps⟩
  have c_l_exchanged_well : CalG l.prog w K mg base 9 "_law_exchanged_well" ["_law_tape_here", "_law_table_here", "_law_frame", "_law_parts"] (sp_lexch K CF) := ⟨_, _, PySem.W.mg_of X G a43, k43, b43, ok_lexch F43 T c_l_digit c_l_order c_l_back c_l_put c_l_as c_exchanged_frame c_exchanged_table c_is_table c_l_shown c_l_frame_told c_l_grid_told⟩
  have c_l_joined : Cal l.prog w K mg base CX0 1 "_law_joined" ["_law_row", "_law_first", "_law_second", "_law_together"] (sp_put_together K) := ⟨_, _, PySem.W.mg_of X G a44, k44, b44, ok_ljoined F44 T⟩
  have c_l_cap_of : Cal l.prog w K mg base CX0 1 "_law_cap_of" ["_law_one", "_law_other"] sp_joined_cap := ⟨_, _, PySem.W.mg_of X G a45, k45, b45, ok_lcap_of F45 T⟩
  have c_l_joined_well : CalG l.prog w K mg base 9 "_law_joined_well" ["_law_tape_here", "_law_table_here", "_law_frame", "_law_parts"] (sp_ljoin K CF) := ⟨_, _, PySem.W.mg_of X G a46, k46, b46, ok_ljoin F46 T c_l_digit c_l_order c_l_joined c_l_cap_of c_l_as c_joined_frame c_joined_table c_is_table c_l_frame_told c_l_grid_told⟩
  have c_l_greatest : Cal l.prog w K mg base CX0 2 "_law_greatest" ["_law_tape_here"] sp_lgreatest := ⟨_, _, PySem.W.mg_of X G a47, k47, b47, ok_lgreatest F47 T c_l_digit⟩
  exact ok_law F48 T FT ⟨mk, aI, iI, kF⟩ GI bA c_l_cell_at c_l_tape c_l_digit c_l_table c_l_greatest c_l_rows c_l_columns c_l_caps c_l_exchanged_well c_l_joined_well c_l_shown
end Kp14
set_option Elab.async false
open PySem PySem.W PyProof.Rows
set_option maxRecDepth 100000 in
set_option maxHeartbeats 0 in
theorem PySem.Challenge.cw_exacttable_k14_exchanged_and_joined_holds : PySem.Challenge.rw_exacttable_k14_exchanged_and_joined.Holds := by
  w_on; o_law; k_head; (case hw => w_witness2)
  k_fill
  refine Vf.walk_ofR (l := PySem.Challenge.rw_exacttable_k14_exchanged_and_joined) (n := 63) (k := 10) (x := "_law_script") (sp := fun w => Kp14.sp_law _) rfl (by decide) rfl ⟨⟨rfl, by decide, by decide⟩, rfl⟩ (fun w h Y => PySem.W.kIn_of Y) ?F (fun _ _ a ns _ _ hS => ⟨a, ns, rfl, hS, fun _ => rfl⟩)
  case F =>
    intro w mg fa h KX G LL hmg
    refine' Kp14.all_mk KX G hmg (Vf.loose_int LL (List.mem_cons_self ..)) ?a0 ?l0 ?c0 ?k0 ?a1 ?l1 ?c1 ?k1 ?a2 ?l2 ?c2 ?k2 ?a3 ?l3 ?c3 ?k3 ?a4 ?l4 ?c4 ?k4 ?a5 ?l5 ?c5 ?k5 ?a6 ?l6 ?c6 ?k6 ?a7 ?l7 ?c7 ?k7 ?a8 ?l8 ?c8 ?k8 ?a9 ?l9 ?c9 ?k9 ?a10 ?l10 ?c10 ?k10 ?a11 ?l11 ?c11 ?k11 ?a12 ?l12 ?c12 ?k12 ?a13 ?l13 ?c13 ?k13 ?a14 ?l14 ?c14 ?k14 ?a15 ?l15 ?c15 ?k15 ?a16 ?l16 ?c16 ?k16 ?a17 ?l17 ?c17 ?k17 ?a18 ?l18 ?c18 ?k18 ?a19 ?l19 ?c19 ?k19 ?a20 ?l20 ?c20 ?k20 ?a21 ?l21 ?c21 ?k21 ?a22 ?l22 ?c22 ?k22 ?a23 ?l23 ?c23 ?k23 ?a24 ?l24 ?c24 ?k24 ?a25 ?l25 ?c25 ?k25 ?a26 ?l26 ?c26 ?k26 ?a27 ?l27 ?c27 ?k27 ?a28 ?l28 ?c28 ?k28 ?a29 ?l29 ?c29 ?k29 ?a30 ?l30 ?c30 ?k30 ?a31 ?l31 ?c31 ?k31 ?a32 ?l32 ?c32 ?k32 ?a33 ?l33 ?c33 ?k33 ?a34 ?l34 ?c34 ?k34 ?a35 ?l35 ?c35 ?k35 ?a36 ?l36 ?c36 ?k36 ?a37 ?l37 ?c37 ?k37 ?a38 ?l38 ?c38 ?k38 ?a39 ?l39 ?c39 ?k39 ?a40 ?l40 ?c40 ?k40 ?a41 ?l41 ?c41 ?k41 ?a42 ?l42 ?c42 ?k42 ?a43 ?l43 ?c43 ?k43 ?a44 ?l44 ?c44 ?k44 ?a45 ?l45 ?c45 ?k45 ?a46 ?l46 ?c46 ?k46 ?a47 ?l47 ?c47 ?k47 ?a48 ?l48 ?c48 ?k48 ?fk ?mk ?aI ?iI ?kF ?lI ?cI ?kI ?lT ?dT ?aM0 ?iM0 ?lM0 ?cM0 ?kM0 ?aM1 ?iM1 ?lM1 ?cM1 ?kM1 ?aM2 ?iM2 ?lM2 ?cM2 ?kM2 ?bt ?tt ?ti ?tb ?e0 ?e1 ?e2 ?e3 ?e4 ?e10 ?hn ?ht ?iA ?iO ?gL ?z0 ?z1 ?z2 ?z3 ?z4 ?z5 ?z6 ?z7 ?z8 ?z9 ?z10 ?z11 ?z12 ?z13 ?z14 ?z15 ?z16
    (case a0 => k_is)
    (case l0 => k_is)
    (case c0 => k_is)
    (case k0 => k_is)
    (case a1 => k_is)
    (case l1 => k_is)
    (case c1 => k_is)
    (case k1 => k_is)
    (case a2 => k_is)
    (case l2 => k_is)
    (case c2 => k_is)
    (case k2 => k_is)
    (case a3 => k_is)
    (case l3 => k_is)
    (case c3 => k_is)
    (case k3 => k_is)
    (case a4 => k_is)
    (case l4 => k_is)
    (case c4 => k_is)
    (case k4 => k_is)
    (case a5 => k_is)
    (case l5 => k_is)
    (case c5 => k_is)
    (case k5 => k_is)
    (case a6 => k_is)
    (case l6 => k_is)
    (case c6 => k_is)
    (case k6 => k_is)
    (case a7 => k_is)
    (case l7 => k_is)
    (case c7 => k_is)
    (case k7 => k_is)
    (case a8 => k_is)
    (case l8 => k_is)
    (case c8 => k_is)
    (case k8 => k_is)
    (case a9 => k_is)
    (case l9 => k_is)
    (case c9 => k_is)
    (case k9 => k_is)
    (case a10 => k_is)
    (case l10 => k_is)
    (case c10 => k_is)
    (case k10 => k_is)
    (case a11 => k_is)
    (case l11 => k_is)
    (case c11 => k_is)
    (case k11 => k_is)
    (case a12 => k_is)
    (case l12 => k_is)
    (case c12 => k_is)
    (case k12 => k_is)
    (case a13 => k_is)
    (case l13 => k_is)
    (case c13 => k_is)
    (case k13 => k_is)
    (case a14 => k_is)
    (case l14 => k_is)
    (case c14 => k_is)
    (case k14 => k_is)
    (case a15 => k_is)
    (case l15 => k_is)
    (case c15 => k_is)
    (case k15 => k_is)
    (case a16 => k_is)
    (case l16 => k_is)
    (case c16 => k_is)
    (case k16 => k_is)
    (case a17 => k_is)
    (case l17 => k_is)
    (case c17 => k_is)
    (case k17 => k_is)
    (case a18 => k_is)
    (case l18 => k_is)
    (case c18 => k_is)
    (case k18 => k_is)
    (case a19 => k_is)
    (case l19 => k_is)
    (case c19 => k_is)
    (case k19 => k_is)
    (case a20 => k_is)
    (case l20 => k_is)
    (case c20 => k_is)
    (case k20 => k_is)
    (case a21 => k_is)
    (case l21 => k_is)
    (case c21 => k_is)
    (case k21 => k_is)
    (case a22 => k_is)
    (case l22 => k_is)
    (case c22 => k_is)
    (case k22 => k_is)
    (case a23 => k_is)
    (case l23 => k_is)
    (case c23 => k_is)
    (case k23 => k_is)
    (case a24 => k_is)
    (case l24 => k_is)
    (case c24 => k_is)
    (case k24 => k_is)
    (case a25 => k_is)
    (case l25 => k_is)
    (case c25 => k_is)
    (case k25 => k_is)
    (case a26 => k_is)
    (case l26 => k_is)
    (case c26 => k_is)
    (case k26 => k_is)
    (case a27 => k_is)
    (case l27 => k_is)
    (case c27 => k_is)
    (case k27 => k_is)
    (case a28 => k_is)
    (case l28 => k_is)
    (case c28 => k_is)
    (case k28 => k_is)
    (case a29 => k_is)
    (case l29 => k_is)
    (case c29 => k_is)
    (case k29 => k_is)
    (case a30 => k_is)
    (case l30 => k_is)
    (case c30 => k_is)
    (case k30 => k_is)
    (case a31 => k_is)
    (case l31 => k_is)
    (case c31 => k_is)
    (case k31 => k_is)
    (case a32 => k_is)
    (case l32 => k_is)
    (case c32 => k_is)
    (case k32 => k_is)
    (case a33 => k_is)
    (case l33 => k_is)
    (case c33 => k_is)
    (case k33 => k_is)
    (case a34 => k_is)
    (case l34 => k_is)
    (case c34 => k_is)
    (case k34 => k_is)
    (case a35 => k_is)
    (case l35 => k_is)
    (case c35 => k_is)
    (case k35 => k_is)
    (case a36 => k_is)
    (case l36 => k_is)
    (case c36 => k_is)
    (case k36 => k_is)
    (case a37 => k_is)
    (case l37 => k_is)
    (case c37 => k_is)
    (case k37 => k_is)
    (case a38 => k_is)
    (case l38 => k_is)
    (case c38 => k_is)
    (case k38 => k_is)
    (case a39 => k_is)
    (case l39 => k_is)
    (case c39 => k_is)
    (case k39 => k_is)
    (case a40 => k_is)
    (case l40 => k_is)
    (case c40 => k_is)
    (case k40 => k_is)
    (case a41 => k_is)
    (case l41 => k_is)
    (case c41 => k_is)
    (case k41 => k_is)
    (case a42 => k_is)
    (case l42 => k_is)
    (case c42 => k_is)
    (case k42 => k_is)
    (case a43 => k_is)
    (case l43 => k_is)
    (case c43 => k_is)
    (case k43 => k_is)
    (case a44 => k_is)
    (case l44 => k_is)
    (case c44 => k_is)
    (case k44 => k_is)
    (case a45 => k_is)
    (case l45 => k_is)
    (case c45 => k_is)
    (case k45 => k_is)
    (case a46 => k_is)
    (case l46 => k_is)
    (case c46 => k_is)
    (case k46 => k_is)
    (case a47 => k_is)
    (case l47 => k_is)
    (case c47 => k_is)
    (case k47 => k_is)
    (case a48 => k_is)
    (case l48 => k_is)
    (case c48 => k_is)
    (case k48 => k_is)
    (case fk => constructor <;> k_is)
    (case mk => k_is)
    (case aI => k_is)
    (case iI => k_is)
    (case kF => k_is)
    (case lI => k_is)
    (case cI => k_is)
    (case kI => k_is)
    (case lT => k_is)
    (case dT => rfl)
    (case aM0 => k_is)
    (case iM0 => k_is)
    (case lM0 => k_is)
    (case cM0 => k_is)
    (case kM0 => k_is)
    (case aM1 => k_is)
    (case iM1 => k_is)
    (case lM1 => k_is)
    (case cM1 => k_is)
    (case kM1 => k_is)
    (case aM2 => k_is)
    (case iM2 => k_is)
    (case lM2 => k_is)
    (case cM2 => k_is)
    (case kM2 => k_is)
    (case bt => k_is)
    (case tt => k_is)
    (case ti => k_is)
    (case tb => k_is)
    (case e0 => constructor; k_is; k_exc; k_is; k_is; k_is; k_is; k_is; k_is; k_is; k_is; exact ⟨_, by k_is, rfl⟩)
    (case e1 => constructor; k_is; k_exc; k_is; k_is; k_is; k_is; k_is; k_is; k_is; k_is; exact ⟨_, by k_is, rfl⟩)
    (case e2 => constructor; k_is; k_exc; k_is; k_is; k_is; k_is; k_is; k_is; k_is; k_is; exact ⟨_, by k_is, rfl⟩)
    (case e3 => constructor; k_is; k_exc; k_is; k_is; k_is; k_is; k_is; k_is; k_is; k_is; exact ⟨_, by k_is, rfl⟩)
    (case e4 => constructor; k_is; k_exc; k_is; k_is; k_is; k_is; k_is; k_is; k_is; k_is; exact ⟨_, by k_is, rfl⟩)
    (case e10 => constructor; k_is; k_exc; k_is; k_is; k_is; k_is; k_is; k_is; k_is; k_is; exact ⟨_, by k_is, rfl⟩)
    (case hn => k_is)
    (case ht => k_is)
    (case iA => k_is)
    (case iO => k_is)
    (case gL => k_is)
    (case z0 => k_is)
    (case z1 => k_is)
    (case z2 => k_is)
    (case z3 => k_is)
    (case z4 => k_is)
    (case z5 => k_is)
    (case z6 => k_is)
    (case z7 => k_is)
    (case z8 => k_is)
    (case z9 => k_is)
    (case z10 => k_is)
    (case z11 => k_is)
    (case z12 => k_is)
    (case z13 => k_is)
    (case z14 => k_is)
    (case z15 => k_is)
    (case z16 => k_is)
